import PyProof.Rows.All
import Wide.All
import OpenK.AllK
import Wide.FinOn
import HandS.ForMost
import HandS.IsInst
import HandS.ExcInit
import KE.KExcInit
import KE.KExcIs
import HandS.ExcValue
import HandS.OwnEq
import HandS.Conv
import HandS.Property
import HandS.Strs
import HandS.MakeKw
import KE.GoesEnum
import HandS.Iter
import HandS.DictComp
import OpenK.KOps
import OpenK.KMeth
import HandS.FStr
import PyProof.InstNe
import PyProof.EqKinds
import PyProof.CallStr
import HandS.Star
import HandS.SortKw
import HandS.MakeKwOnly
import KE.DatumOrd
import KE.KDictKeyed
import KE.KDictSum
import HandS.ClsMeth
import HandS.Zip
import KE.KIntText
import HandS.Text
import HandS.Deep
import HandS.TryMany
import HandS.HotCalls
import PyProof.CallFns
import HandS.Head0
import HandS.Head1
import HandS.Head2
import HandS.HeadHook1
import HandS.Small
import KE.LtData
import HandS.WordsExc
import HandS.Lambda
import HandS.ExcInitHot
import PyProof.StrLawsRepr
import HandS.Style
import PyProof.StrLaws
import PyProof.ReprNest
import HandS.EndTab
import KE.KRevSl
import HandS.TupAny
import KE.IntTextLaws
import HandS.Dict
import PyProof.NeKinds
import HandS.HeadNt
import HandS.HeadHook4
import HandS.HeadEnd
import PySem.Challenge.RW_fivetrees_k09_whole_tree_texts
set_option Elab.async false
set_option linter.all false
set_option maxRecDepth 100000
set_option maxHeartbeats 4000000
/-! Promises of defs that are called while no repr is under way; repr of lists and tuples; a law's end over them. -/
namespace Gd
open PySem PySem.Spec PyProof.Rows L2

/-- as FnOk, for calls at which no repr is under way -/
structure Pr (P : Program) (w : World) (K : PySem.W.Frag) (mg : Str → Option Value) (base : Heap) (CX : CXT) (k : Nat) (f : Addr) (fd : FuncData) (ps : List Str) (sp : Sp) : Prop where
  size : ∀ us H Q E, sp us H Q E → us.length = ps.length
  go : ∀ (A : Around) (ou : List Env) (s : Shared) (H : Hp) (gs : Args) (us : List Value) (vs : List V) (Q : VK) (E : XK), A.guards = some [] → Room k A →
    Env0 P w K mg base A ou s H → BindsTo s fd gs (ps.zip us) → Vals vs us → sp vs H Q E → codeAny (model P w) A (.call (.ref f) gs) (CR CX ou P w H s Q E) s
theorem Pr.of {P : Program} {w : World} {K : PySem.W.Frag} {mg : Str → Option Value} {base : Heap} {CX : CXT} {k : Nat} {f : Addr} {fd : FuncData} {ps : List Str} {sp : Sp} (F : FnOk P w K mg base CX k f fd ps sp) : Pr P w K mg base CX k f fd ps sp :=
  ⟨F.len, fun A ou s H gs us vs Q E _ => F.run A ou s H gs us vs Q E⟩

theorem pr_of {CX : CXT} {P : Program} {w : World} {K : PySem.W.Frag} {mg : Str → Option Value} {base : Heap} {k : Nat} {f : Addr} {nm qn : Str} {pa : Arguments} {bd : List Stmt} {sc : Scope} {dV kV dc pm cv ct oc : Value} {an od : Option Addr}
    {osl : Array (Option Value)} {N ps : List Str} {sp : Sp} (lk : K.lookup f = some ⟨oc, od, .func (PySem.W.fnOf nm qn pa bd sc dV kV dc pm an cv ct), osl⟩) (hc : PySem.W.codeIn K cv qn = true) (S : FnScope N ps sc)
    (hl : ∀ us H Q E, sp us H Q E → us.length = ps.length)
    (hb : ∀ (A : Around) (ou : List Env) (s : Shared) (H : Hp) (vs : List V) (Q : VK) (E : XK), A.guards = some [] → Room k (A.deeper (envOfC qn sc s.heap.objs.size f cv)) → sp vs H Q E →
      ∃ t, PSs (cxOf CX P w K mg base N qn sc f cv A ou s H E) bd t ∧ t { nx := fun _ H' => Q .non H', rt := Q } (start N vs) H) :
    Pr P w K mg base CX (k + 1) f (PySem.W.fnOf nm qn pa bd sc dV kV dc pm an cv ct) ps sp := by
  constructor
  · exact hl
  intro A ou s H gs us vs Q E hG hR e0 hB hV hS
  have n1 := hl vs H Q E hS
  have inK : K.In s.heap := e0.mod.kin.keeps (fun b o e => (e0.bs b o e).left)
  have noL : s.heap.NoLimit := e0.mod.nolimit.keeps (fun b o e => (e0.bs b o e).left)
  have kinds : ∀ y ∈ ps.zip us, sc.names.lookup y.1 = some .local ∨ (sc.names.lookup y.1 = some .cell ∧ ((cellsFrom (s.heap.objs.size + 1) sc.names []).lookup y.1).isSome = true) := by
    rintro ⟨n, v⟩ hy
    cases S.par n (List.of_mem_zip hy).1 with
    | inl q => exact .inl q
    | inr q => exact .inr ⟨q, PySem.W.cellsFrom_some _ _ _ (.inl q)⟩
  refine codeAny_call_function hR.depth (inK _ _ lk) rfl S.co S.gen rfl (PySem.W.codeRec_of inK hc) (hB _ _ _ _ ?_)
  refine wpAny_newFunctionEnv_cells S.kind kinds fun ev he s2 y => ?_
  subst he
  refine ⟨noL.keeps y.toInCall.keep, codeAny_func ?_⟩
  obtain ⟨t, ht, hq⟩ := hb A ou s H vs Q E hG (hR.deeper _) hS
  have J0 : Inv (cxOf CX P w K mg base N qn sc f cv A ou s H E) [] (start N vs) H s2 := inv_start S hR.hd e0 n1 hV y
  refine wpAny_mono (ht.run [] s2 (start N vs) H _ J0 hq) (fun fl s3 h3 => ?_) fun _ _ z => z
  have fin : ∀ {τ : L2.St} {H' : Hp} {v : V} {u : Value}, Inv (cxOf CX P w K mg base N qn sc f cv A ou s H E) [] τ H' s3 → RelV v u → Q v H' → CE ou P w H s Q u s3 := by
    intro τ H' v u J rv q
    exact ⟨v, H', J.os, J.bare, J.base, J.hok, rv, q⟩
  match fl, h3 with
  | .ret u, ⟨v, τ, H', J, rv, q⟩ => exact fin J rv q
  | .next, ⟨τ, H', J, q⟩ => exact fin (v := V.non) (u := Value.none) J rfl q
  | .brk, ⟨_, _, _, q⟩ => exact False.elim q
  | .cont, ⟨_, _, _, q⟩ => exact False.elim q

section
variable {P : Program} {w : World} {K : PySem.W.Frag} {mg : Str → Option Value} {base : Heap}
/-- a def of the text, by its body -/
theorem okG {x qn : Str} {st : Stmt} {f : Addr} {fd : FuncData} {N ps : List Str} {k : Nat} {sp : Sp} (F : Fun K x qn st f fd) (S : FnScope N ps (defScope st)) (hl : ∀ us H Q E, sp us H Q E → us.length = ps.length)
    (hb : ∀ (cv : Value) (A : Around) (ou : List Env) (s : Shared) (H : Hp) (vs : List V) (Q : VK) (E : XK), A.guards = some [] → Room k (A.deeper (envOfC qn (defScope st) s.heap.objs.size f cv)) → sp vs H Q E →
      ∃ t, PSs (cxOf CX0 P w K mg base N qn (defScope st) f cv A ou s H E).nox (defBody st) t ∧ t { nx := fun _ H' => Q .non H', rt := Q } (start N vs) H) : Pr P w K mg base CX0 (k + 1) f fd ps sp := by
  obtain ⟨oc, od, kV, dc, pm, an, cv, ct, osl, rfl, lk, hc⟩ := F.ex
  refine pr_of lk hc S hl fun A ou s H vs Q E hG hR hS => ?_
  obtain ⟨t, h, q⟩ := hb cv A ou s H vs Q E hG hR hS
  exact ⟨t, h.nox, q⟩
end

section
variable {X : Cx} {CX : CXT} {k : Nat} {f C : Addr} {fd : FuncData} {ps ks : List Str} {sp : Sp} {dvs : List V} {ds : List Value} {E : XK} {x m : Str} {p pos apos : Pos} {e o : Expr} {es : List Expr} {kws : List Keyword} {ta : TE} {t tk : TA}
  {g : List Value → List Value → List Value} {gV : List V → List V → List V}
theorem run_pr {pins : List (Addr × Obj)} {σ : L2.St} {H : Hp} {s : Shared} {Q : VK} {us : List Value} {kw : List (Str × Value)} {ws : List Value} {zs : List V} (F : Pr X.prog X.w X.K X.mg X.base CX k f fd ps sp) (hG : X.A.guards = some []) (hR : Room k X.A) (hx : Passes CX X E)
    (I : Inv X pins σ H s) (hB : BindsTo s fd ⟨us, kw⟩ (ps.zip ws)) (hV : Vals zs ws) (h : sp zs H Q E) : wpAny (model X.prog X.w) X.A (call (.ref f) us kw) (EP X pins σ Q) X.xe s := by
  refine wpAny_call (codeAny_mono (F.go X.A X.stack s H ⟨us, kw⟩ ws zs Q E hG hR I.env0 hB hV h) fun r s' hq => ?_)
  match r, hq with
  | .error e, hq => exact hx pins σ H s e s' I hq
  | .ok (.ret u), hq => exact I.after hq
  | .ok .next, hq => exact False.elim hq
  | .ok .brk, hq => exact False.elim hq
  | .ok .cont, hq => exact False.elim hq
/-- f(e, ..) -/
theorem pe_callG (F : Pr X.prog X.w X.K X.mg X.base CX k f fd ps sp) (hG : X.A.guards = some []) (hR : Room k X.A) (hg : Gl X x) (hm : X.mg x = some (.ref f)) (hk : PySem.W.keepIn X.K (.ref f) = true) (hb : Binds X.K fd ps ds) (hd : Vals dvs ds) (hx : Passes CX X E)
    (ha : PA X (e :: es) t) (hdb : (x == ("__debug__" : Str)) = false := by decide) (he : starEach (e :: es) X.env = (false, eval e X.env) :: starEach es X.env := by rfl) (hpl : (backTo pos (starEach es X.env)).any (·.1) = false := by rfl) :
    PE X (.Call (.Name x p) (e :: es) [] pos) (tCall sp dvs E t) := by
  constructor
  intro pins s σ H Q I h
  refine wpAny_Call_Name_kw (ld_glob I hg hm ?_ hdb)
  refine PySem.W.callWith_K (h₀ := X.base) I.ok.mod.kin hk (thn (ha.run pos pins s σ H _ I h) fun us s2 z2 => ?_) he hpl
  obtain ⟨vs, H2, I2, r2, q2⟩ := z2
  refine ⟨I2.kIn, run_pr F hG hR hx I2 (hb s2 us I2.kIn ?_) (r2.append hd) q2⟩
  rw [← (r2.append hd).length]
  exact F.size _ _ _ _ q2
/-- f(k = v, ..): keywords alone -/
theorem pe_callGK0 (F : Pr X.prog X.w X.K X.mg X.base CX k f fd ps sp) (hG : X.A.guards = some []) (hR : Room k X.A) (hg : Gl X x) (hm : X.mg x = some (.ref f)) (hk : PySem.W.keepIn X.K (.ref f) = true) (hb : KBinds X.K fd ps ks g gV) (hx : Passes CX X E)
    (hkw : PK X kws tk) (hall : (backToKw pos (keywordEach kws X.env)).all (·.1.isSome) = true := by rfl) (hks : (backToKw pos (keywordEach kws X.env)).filterMap (·.1) = ks := by rfl)
    (hdb : (x == ("__debug__" : Str)) = false := by decide)
    (hpl : ((backTo pos (starEach [] X.env)).any (·.1) || (backToKw pos (keywordEach kws X.env)).any (·.1.isNone)) = false := by rfl) :
    PE X (.Call (.Name x p) [] kws pos) (tCallK sp gV E tNil tk) := by
  constructor
  intro pins s σ H Q I h
  refine wpAny_Call_Name_kw (ld_glob I hg hm ?_ hdb)
  refine PySem.W.callWith_KW0 (first := []) (h₀ := X.base) I.ok.mod.kin hk hall (thn (hkw.run pos pins s σ H _ I h) fun us s2 z2 => ?_) hpl
  obtain ⟨zs, H2, I2, r2, q2⟩ := z2
  refine ⟨I2.kIn, ?_⟩
  rw [hks]
  have rr : Vals (gV [] zs) (g [] us) := hb.rel .nil r2
  refine run_pr F hG hR hx I2 (hb.to s2 [] us I2.kIn ?_) rr q2
  rw [← rr.length]
  exact F.size _ _ _ _ q2
end

/-! ### repr of a list or a tuple of plain things -/
def rShow (K : PySem.W.Frag) : List V → Hp → VK → Prop := fun xs H Q => ∃ (a : Addr) (d : PyData), xs = [.ref a] ∧ Dp K H (.ref a) d ∧ d.showable = true ∧ d.hasDict = false ∧ d.depth ≤ 60 ∧ d.shown.length ≤ sizeLine ∧ Q (.str d.shown) H
theorem call_show {X : Cx} (hG : X.A.guards = some []) (hu : X.A.units + 64 < cLine) : CallR X (.builtin "repr") (rShow X.K) := by
  intro pins s σ H xs us Q I r h
  obtain ⟨a, d, rfl, hd, hs, hn, hz, hl, q⟩ := h
  have e1 := Vals.ref1 r
  subst e1
  obtain ⟨as, r1⟩ := Dp.reads I d (.ref a) (.ref a) hd rfl
  exact repr_of_reads' r1 hs (PyData.noDict_hsm hn) hG (by omega) (fun _ _ e => e) (fun h' u tk hk => ⟨.str d.shown, H, I.kept hk, ⟨_, rfl⟩, q⟩) hl

/-! ### a law's end -/
theorem law_go {P : Program} {w : World} {K : PySem.W.Frag} {mg mb : Str → Option Value} {CX : CXT} {k : Nat} {fa a : Addr} {fd : FuncData} {x : Str} {sp : Sp} {s1 : Shared} {vs : List Value} {ns : List Int}
    (KX : K.In s1.heap) (hm : s1.heap.Ns mainGlobals mg) (hb : s1.heap.Ns builtinsNs mb) (hbb : ∀ x : Str, x ≠ "__name__" → mb x = bootBuiltins x) (hlim : s1.heap.NoLimit) (hg : s1.gens = #[])
    (ha : s1.heap.get? a = some { cls := .type "list", data := .seq vs.toArray }) (hi : IntsAre vs ns) (hl : ns.length ≤ sizeLine) (hR : Room k callerA)
    (F : ∀ base : Heap, K.In base → base.Ns mainGlobals mg → Pr P w K mg base CX k fa fd [x] sp) (hbind : ∀ (s : Shared) (u : Value), BindsTo s fd ⟨[u], []⟩ [(x, u)])
    (hsp : ∀ H : Hp, Only H → SqL K H a (ns.map V.int) → sp [.ref a] H (fun v _ => v = .bl true) fun _ _ _ => False)
    (hCX : ∀ H e s', CX [] H s1 (fun _ _ _ => False) e s' → False) :
    codeAny (model P w) callerA (.call (.ref fa) ⟨[.ref a], []⟩) (fun r s' => r = .ok (.ret (.bool true)) ∧ OldK s1.heap s'.heap ∧ s'.os = s1.os ∧ AllBare s'.gens) s1 := by
  have rv := vals_ints hi
  have main : ∀ H : Hp, Only H → SqL K H a (ns.map V.int) → HOk P w H s1.heap → (∀ b, H b ≠ none → b = a) → (H a ≠ none → K.lookup a = none) →
      codeAny (model P w) callerA (.call (.ref fa) ⟨[.ref a], []⟩) (fun r s' => r = .ok (.ret (.bool true)) ∧ OldK s1.heap s'.heap ∧ s'.os = s1.os ∧ AllBare s'.gens) s1 := by
    intro H hO hS hok oa ok
    have only : ∀ {b : Addr}, H b ≠ none → b = a := fun {b} h => oa b h
    have none_of : ∀ {b : Addr}, b ≠ a → H b = none := by
      intro b hb
      rcases hO b with z | ⟨ob, xs, z⟩
      · exact z
      · exact absurd (only (by rw [z]; simp)) hb
    have stay : ∀ {b : Addr} {o : Obj}, s1.heap.get? b = some o → H b = none → (hidT s1.heap H).get? b = some o := fun e n => hidT_get e n
    have ns_of : ∀ {b : Addr} {m : Str → Option Value}, s1.heap.Ns b m → (hidT s1.heap H).Ns b m := by
      rintro b m ⟨o, es, ep, e, d, r⟩
      refine ⟨o, es, ep, stay e (none_of ?_), d, r⟩
      rintro rfl
      rw [ha] at e
      cases e
      exact absurd (show Data.seq vs.toArray 0 = Data.dict es ep from d) (by intro z; cases z)
    have inK : K.In (hidT s1.heap H) := by
      intro b o e
      refine stay (KX b o e) ?_
      rcases hO b with z | ⟨ob, xs, z⟩
      · exact z
      · have nz : H b ≠ none := by rw [z]; simp
        have e' := only nz
        subst e'
        rw [ok nz] at e
        cases e
    obtain ⟨mc, l1, l2⟩ := hlim
    have hM : Mod K mg (hidT s1.heap H) := ⟨inK, ns_of hm, ⟨mb, ns_of hb, hbb⟩, ⟨mc, ns_of l1, l2⟩⟩
    have e0 : Env0 P w K mg (hidT s1.heap H) callerA [] s1 H :=
      ⟨rfl, hM, fun b o e => of_hidT e, Nat.le_of_eq (hidT_size _ _), trivial, fun b z => by simp [frs] at z, hok, .of_eq hg⟩
    refine codeAny_mono ((F _ inK (ns_of hm)).go callerA [] s1 H ⟨[.ref a], []⟩ [.ref a] [.ref a] _ _ rfl hR e0 (hbind s1 (.ref a)) (.cons rfl .nil) (hsp H hO hS)) fun r s2 h => ?_
    match r, h with
    | .error e, h => exact (hCX H e s2 h).elim
    | .ok .next, h => exact False.elim h
    | .ok .brk, h => exact False.elim h
    | .ok .cont, h => exact False.elim h
    | .ok (.ret u), ⟨v, H', os, bare, un, hok', r', q⟩ =>
      have q' : v = .bl true := q
      subst q'
      have r2 : u = Value.bool true := r'
      subst r2
      refine ⟨rfl, OldK.of_keep fun b o e => ?_, os, bare⟩
      rcases hO b with z | ⟨ob, xs, z⟩
      · exact un.keep b o e z (by simp [frs]) (by simp)
      · have z2 := un.frzs b ob _ z
        have g1 := (hok b _ z).1
        have g2 := (hok' b _ z2).1
        rw [e] at g1
        cases g1
        exact g2
  cases hk : K.lookup a with
  | some o =>
    have e := KX a o hk
    rw [ha] at e
    cases e
    exact main (fun _ => none) (fun _ => .inl rfl) (.inr ⟨_, vs.toArray, _, hk, rfl, rfl, rfl, by rw [List.size_toArray, hi.length]; exact hl, by simpa using rv⟩) (fun b u z => by cases (show (none : Option HO) = some u from z)) (fun b z => absurd rfl z) fun z => absurd rfl z
  | none =>
    have at_ : (fun b => if b = a then some (HO.frz { cls := .type "list", data := .seq vs.toArray } (.lst (ns.map V.int))) else none) a = some (HO.frz { cls := .type "list", data := .seq vs.toArray } (.lst (ns.map V.int))) := if_pos rfl
    refine main (fun b => if b = a then some (HO.frz { cls := .type "list", data := .seq vs.toArray } (.lst (ns.map V.int))) else none) (fun b => ?_) (.inl (.inr ⟨_, at_⟩)) (fun b u z => ?_) (fun b z => ?_) fun _ => hk
    · by_cases hb : b = a
      · exact .inr ⟨_, _, if_pos hb⟩
      · exact .inl (if_neg hb)
    · by_cases hb : b = a
      · subst hb
        cases at_.symm.trans z
        exact ⟨ha, by rw [List.length_map]; exact hl, vs, _, rv, ha⟩
      · cases (if_neg hb).symm.trans z
    · by_cases hb : b = a
      · exact hb
      · exact absurd (if_neg hb) z

theorem walk_go {l : PySem.W.OpenLaw} {n k : Nat} {q : Program} {loose : List Str} {XP : (Str → Option Value) → Heap → Prop} {YP : World → Heap → Prop} {d : DefRec} {K : Params → PySem.W.Frag} {x : Str} {sp : PySem.W.Frag → Sp}
    (hn : l.most = some n) (hn2 : n ≤ sizeLine) (hdf : d.params.defaults = []) (hR : Room k callerA)
    (hY : ∀ (w : World) (h : Heap), YP w h → (K w.params).In h)
    (F : ∀ (w : World) (mg : Str → Option Value) (fa : Addr) (h : Heap), (K w.params).In h → h.Ns mainGlobals mg → mg d.name = some (.ref fa) →
      ∃ fd : FuncData, (∀ (s : Shared) (u : Value), BindsTo s fd ⟨[u], []⟩ [(x, u)]) ∧ ∀ base : Heap, (K w.params).In base → base.Ns mainGlobals mg → Pr l.prog w (K w.params) mg base CX0 k fa fd [x] (sp (K w.params)))
    (hsp : ∀ (K : PySem.W.Frag) (H : Hp) (a : Addr) (ns : List Int), ns.length ≤ n → SqL K H a (ns.map V.int) → sp K [.ref a] H (fun v _ => v = .bl true) fun _ _ _ => False) :
    PySem.W.WalkO q loose XP YP l.row.toRowW d [] (fun f vs => PySem.call f vs) := by
  refine Att.attach_call hn hdf fun w s0 s1 mg mb fa o pm cd doc a vs ns G Y ho hd hcd hmg hobj hints hlen hg => ?_
  obtain ⟨fd, hb, hF⟩ := F w mg fa _ (hY w _ Y) G.T.g hmg
  exact law_go (hY w _ Y) G.T.g G.T.b G.T.builtins G.T.nolimit hg hobj hints (Nat.le_trans hlen hn2) hR hF hb (fun H _ hS => hsp _ H a ns hlen hS) fun _ _ _ z => z
end Gd
/-! names: k02 _law_number _law_deal _law_pick -/
set_option Elab.async false
set_option linter.all false
set_option maxRecDepth 100000
set_option maxHeartbeats 4000000
namespace Kx
open PySem PySem.Spec PyProof.Rows L2 Gd
def topS (i : Nat) : Stmt := PySem.Challenge.pw_fivetrees_k09_whole_tree_texts.main.body.getD i (.Pass ⟨0, 0, 0, 0⟩)
abbrev sNum : Stmt := topS 49
abbrev sDeal : Stmt := topS 50
abbrev sPick : Stmt := topS 51
theorem scNum : FnScope ["_law_cells", "_law_k", "_law_mixed", "_law_one", "_law_more"] ["_law_cells", "_law_k"] (defScope sNum) := ⟨rfl, rfl, rfl, by decide +kernel, rfl, by decide +kernel, by decide +kernel⟩
theorem scDeal : FnScope ["_law_number_here"] ["_law_number_here"] (defScope sDeal) := ⟨rfl, rfl, rfl, by decide +kernel, rfl, by decide +kernel, by decide +kernel⟩
theorem scPick : FnScope ["_law_deal_here", "_law_many", "_law_digit", "_law_seed", "_law_turn"] ["_law_deal_here", "_law_many"] (defScope sPick) := ⟨rfl, rfl, rfl, by decide +kernel, rfl, by decide +kernel, by decide +kernel⟩
/-- three ints that deal on -/
def DealAt (H : Hp) (p : Addr) : Prop := ∃ a b c : Int, H p = some (.lst [.int a, .int b, .int c]) ∧ 0 ≤ b ∧ b < 2147483423
/-- all but p stands -/
def Sb (p : Addr) (H H' : Hp) : Prop := ∀ b o, b ≠ p → H b = some o → H' b = some o
theorem Sb.refl {p : Addr} {H : Hp} : Sb p H H := fun _ _ _ e => e
theorem Sb.trans {p : Addr} {H H1 H2 : Hp} (h : Sb p H H1) (h2 : Sb p H1 H2) : Sb p H H2 := fun b o n e => h2 b o n (h b o n e)
theorem Sb.of {p : Addr} {H H1 : Hp} (h : Same H H1) : Sb p H H1 := fun b o _ e => h b o e
theorem Sb.set {p : Addr} {H : Hp} {o : HO} : Sb p H (upd H p o) := fun b x n e => by rw [upd_ne n]; exact e
theorem same_new {H : Hp} {p : Addr} {o : HO} (h : H p = none) : Same H (upd H p o) := fun b x e => by rw [upd_ne (ne_of_none e h)]; exact e
theorem Sb.new {p q : Addr} {H : Hp} {o : HO} (h : H q = none) : Sb p H (upd H q o) := .of (same_new h)
theorem DealAt.keep {H H' : Hp} {p : Addr} (D : DealAt H p) (h : Same H H') : DealAt H' p := by
  obtain ⟨a, b, c, e, l⟩ := D
  exact ⟨a, b, c, h _ _ e, l⟩
/-- a made heap: all that stood but p stands, and a place that was free is free as long as nothing was made there -/
theorem Sb.free {p x : Addr} {H H' : Hp} (h : Sb p H H') (n : x ≠ p) (f : H' x = none) : H x = none := by
  cases e : H x with
  | none => rfl
  | some o =>
    have := h x o n e
    rw [f] at this
    cases this
section
variable {P : Program} {w : World} {K : PySem.W.Frag} {mg : Str → Option Value} {base : Heap}
def spNum (K : PySem.W.Frag) : Sp := fun vs H Q _ => ∃ (a : Addr) (ns : List Int) (k : Nat), vs = [.ref a, .int k] ∧ SqL K H a (ns.map V.int) ∧ ns.length ≤ 63 ∧ ∀ (z : Int) (H' : Hp), Same H H' → Q (.int z) H'
def spDeal : Sp := fun vs H Q _ => ∃ z : Int, vs = [.int z] ∧ ∀ (p : Addr) (H' : Hp), Same H H' → H p = none → DealAt H' p → Q (.ref p) H'
def spPick : Sp := fun vs H Q _ => ∃ (p : Addr) (m : Int), vs = [.ref p, .int m] ∧ DealAt H p ∧ 0 < m ∧ m < 1000000 ∧ ∀ (d : Int) (H' : Hp), 0 ≤ d → d < m → DealAt H' p → Sb p H H' → Q (.int d) H'
theorem ok_num {f : Addr} {fd : FuncData} (F : Fun K "_law_number" "_law_number" sNum f fd) (ml : mg "len" = none) (mi : mg "int" = none) : FnOk P w K mg base CX0 1 f fd ["_law_cells", "_law_k"] (spNum K) := by
  refine F.ok scNum (fun vs H Q E h => ?_) (fun cv A ou s H vs Q E hr h => ?_)
  · obtain ⟨a, ns, k, rfl, _⟩ := h
    rfl
  obtain ⟨a, ns, k, rfl, hS, hl, q⟩ := h
  refine ⟨_, pss_cons (ps_if (pt_cmpR op_lt (pv 1) (pe_callB call_len_seq (by rfl) ml PySem.boot_len (pa_cons (pv 0) pa_nil)) (nomark _))
      (pss_one (ps_ret (pe_callTy call_int1 (by rfl) mi boot_int (pa_cons (pe_ix ix_list (pv 0) (pv 1) (fun _ _ => rfl)) pa_nil)))) pss_nil)
    (pss_cons (ps_set (i := 2) scNum.nd rfl (.inl rfl) (pe_op op_mul pe_int (pe_op op_add (pv 1) pe_int)))
    (pss_cons (ps_for PassesOwn.never rfl (pi_list (pe_slice sl_list (pv 0) po_none (po_some pe_int))) (pg_name (i := 3) scNum.nd rfl (.inl rfl))
      (pss_cons (ps_set (i := 4) scNum.nd rfl (.inl rfl) (pe_op op_mod (pe_callTy call_int1 (by rfl) mi boot_int (pa_cons (pv 3) pa_nil)) pe_int))
      (pss_one (ps_set (i := 2) scNum.nd rfl (.inl rfl) (pe_op op_mod (pe_callTy call_int1 (by rfl) mi boot_int (pa_cons (pe_op op_add (pe_op op_add (pe_op op_mul (pv 2) pe_int) (pv 4)) (pv 1)) pa_nil)) pe_int)))))
    (pss_one (ps_ret (pv 2))))), ?_⟩
  refine ⟨.int k, rfl, .ref a, rfl, a, ns.map V.int, rfl, .inl hS, _, _, rfl, rfl, _, rfl, ite2 (fun e => ?_) (fun e => ?_)⟩
  · have hk : k < ns.length := by
      have := of_decide_eq_true e
      rw [List.length_map] at this
      omega
    refine ⟨.ref a, rfl, .int k, rfl, a, _, _, _, rfl, rfl, hS, atI_nat (j := k) (v := .int (ns[k])) (by rw [List.getElem?_map, List.getElem?_eq_getElem hk]; rfl), .inl ⟨_, rfl, ?_⟩⟩
    exact q _ H fun _ _ e => e
  refine ⟨.int k, rfl, _, _, rfl, rfl, _, _, rfl, rfl, .inl ⟨by decide, by decide⟩, ?_⟩
  refine ⟨.ref a, rfl, 6, rfl, a, _, rfl, hS, fun c nc => ?_⟩
  have s1 : Same H (upd H c (.lst (cutV (ns.map V.int) none (some 6)))) := same_new nc
  have hcut : ∃ ms : List Int, cutV (ns.map V.int) none (some 6) = ms.map V.int := by
    refine ⟨(ns.drop (HT.sIx ns.length 0 none)).take (HT.sIx ns.length ns.length (some 6) - HT.sIx ns.length 0 none), ?_⟩
    unfold cutV
    rw [List.length_map, List.map_take, List.map_drop]
  obtain ⟨ms, ems⟩ := hcut
  rw [ems] at s1 ⊢
  refine ⟨c, rfl, ⟨_, SqL.of upd_same⟩, for_list (K := K) (a := c) (xs := ms.map V.int) (fun i σ H2 => ∃ (z : Int) (o1 o2 : Option V), σ = [some (.ref a), some (.int k), some (.int z), o1, o2] ∧ H2 = upd H c (.lst (ms.map V.int)))
    ⟨_, none, none, rfl, rfl⟩ (fun i σ H2 _ ⟨_, _, _, _, e⟩ => by rw [e]; exact SqL.of upd_same) ?_ ?_⟩
  · rintro i y σ H2 hi ⟨z, o1, o2, rfl, rfl⟩
    obtain ⟨m, rfl⟩ : ∃ m, y = V.int m := by
      rw [List.getElem?_map] at hi
      cases e : ms[i]? with
      | none => rw [e] at hi; cases hi
      | some m => rw [e] at hi; exact ⟨m, (Option.some.inj hi).symm⟩
    refine ⟨.int m, rfl, .inl ⟨_, rfl, _, _, rfl, rfl, (by show (0 : Int) < 999983; decide), ?_⟩⟩
    refine ⟨_, rfl, _, _, rfl, rfl, .inr ⟨by decide, by decide⟩, _, rfl, _, _, rfl, rfl, _, rfl, _, _, rfl, rfl, .inl ⟨_, rfl, _, _, rfl, rfl, (by show (0 : Int) < 2147483423; decide), ?_⟩⟩
    exact ⟨_, _, _, rfl, rfl⟩
  · rintro σ H2 ⟨z, o1, o2, rfl, rfl⟩
    exact ⟨_, rfl, q z _ s1⟩
end
end Kx
set_option Elab.async false
set_option linter.all false
set_option maxRecDepth 100000
set_option maxHeartbeats 4000000
namespace Kx
open PySem PySem.Spec PyProof.Rows L2 Gd
section
variable {P : Program} {w : World} {K : PySem.W.Frag} {mg : Str → Option Value} {base : Heap}
theorem ok_deal {f : Addr} {fd : FuncData} (F : Fun K "_law_deal" "_law_deal" sDeal f fd) (ma : mg "abs" = none) (mi : mg "int" = none) : FnOk P w K mg base CX0 1 f fd ["_law_number_here"] spDeal := by
  refine F.ok scDeal (fun vs H Q E h => ?_) (fun cv A ou s H vs Q E hr h => ?_)
  · obtain ⟨z, rfl, _⟩ := h
    rfl
  obtain ⟨z, rfl, q⟩ := h
  refine ⟨_, pss_one (ps_ret (pe_lst (pa_cons (pe_ifExp (PW.pt (pw_or (pt_cmpR op_lt (pv 0) pe_int (nomark _)) (pw_or1 (pt_cmpR op_ge (pv 0) (pe_op op_pow pe_int pe_int) (nomark _)))))
      (pe_callB call_abs (by rfl) ma boot_abs (pa_cons (pv 0) pa_nil)) pe_int)
    (pa_cons (pe_op op_mod (pe_callTy call_int1 (by rfl) mi boot_int (pa_cons (pv 0) pa_nil)) pe_int) (pa_cons pe_int pa_nil))))), ?_⟩
  have fin : ∀ x : Int, (fun (x : V) (H1 : Hp) => tCons (tOp (rI (fun _ j => 0 < j) fun i j => .int (i % j)) (tCB (fun xs H Q => (∃ i, xs = [.int i] ∧ Q (.int i) H) ∨ ∃ k, xs = [.bl k] ∧ Q (.int (if k then 1 else 0)) H) (tCons (tVar 0) tNil)) (tC (.int 2147483423))) (tCons (tC (.int 0)) tNil) [some (.int z)] H1 fun xs H2 => (x :: xs).length ≤ sizeLine ∧ ∀ p, H2 p = none → Q (.ref p) (upd H2 p (.lst (x :: xs)))) (.int x) H := by
    intro x
    refine ⟨.int z, rfl, .inl ⟨_, rfl, _, _, rfl, rfl, (by show (0 : Int) < 2147483423; decide), (by show 3 ≤ sizeLine; decide), fun p hp => ?_⟩⟩
    exact q p _ (same_new hp) hp ⟨x, z % 2147483423, 0, upd_same, Int.emod_nonneg _ (by decide), Int.emod_lt_of_pos _ (by decide)⟩
  refine ⟨.int z, rfl, _, _, rfl, rfl, _, rfl, ite2 (fun e => iteT ?_) (fun e => ?_)⟩
  · exact ⟨.int z, rfl, _, rfl, fin _⟩
  · refine ⟨.int z, rfl, _, _, rfl, rfl, ⟨by decide, by decide, by decide⟩, _, _, rfl, rfl, _, rfl, ite2 (fun e => ?_) (fun e => ?_)⟩
    · exact ⟨.int z, rfl, _, rfl, fin _⟩
    · exact fin 0
theorem ok_pick {f : Addr} {fd : FuncData} (F : Fun K "_law_pick" "_law_pick" sPick f fd) (mi : mg "int" = none) : FnOk P w K mg base CX0 1 f fd ["_law_deal_here", "_law_many"] spPick := by
  refine F.ok scPick (fun vs H Q E h => ?_) (fun cv A ou s H vs Q E hr h => ?_)
  · obtain ⟨p, m, rfl, _⟩ := h
    rfl
  obtain ⟨p, m, rfl, ⟨a, b, c, hp, hb0, hb1⟩, m0, m1, q⟩ := h
  refine ⟨_, pss_cons (ps_asg (pe_op op_add (pe_ix ix_list (pv 0) pe_int (fun _ _ => rfl)) pe_int) (pg_sub (pv 0) pe_int set_list))
    (pss_cons (ps_if (pt_cmpR op_gt (pe_ix ix_list (pv 0) pe_int (fun _ _ => rfl)) pe_int (nomark _))
      (pss_cons (ps_set (i := 2) scPick.nd rfl (.inl rfl) (pe_op op_mod (pe_callTy call_int1 (by rfl) mi boot_int (pa_cons (pe_ix ix_list (pv 0) pe_int (fun _ _ => rfl)) pa_nil)) (pv 1)))
      (pss_cons (ps_asg (pe_op op_fdiv (pe_ix ix_list (pv 0) pe_int (fun _ _ => rfl)) (pv 1)) (pg_sub (pv 0) pe_int set_list))
      (pss_one (ps_ret (pv 2))))) pss_nil)
    (pss_cons (ps_par (i := 3) (j := 4) (by rfl) scPick.nd rfl rfl (by decide) rfl rfl (pa_cons (pe_callTy call_int1 (by rfl) mi boot_int (pa_cons (pe_ix ix_list (pv 0) pe_int (fun _ _ => rfl)) pa_nil)) (pa_cons (pe_callTy call_int1 (by rfl) mi boot_int (pa_cons (pe_ix ix_list (pv 0) pe_int (fun _ _ => rfl)) pa_nil)) pa_nil)) (by rfl))
    (pss_cons (ps_set (i := 3) scPick.nd rfl (.inl rfl) (pe_op op_mod (pe_callTy call_int1 (by rfl) mi boot_int (pa_cons (pe_op op_add (pe_op op_add (pe_op op_mul (pv 3) (pe_op op_add (pe_op op_add (pv 3) pe_int) (pe_op op_mul pe_int (pv 4)))) (pe_op op_mul pe_int (pv 4))) pe_int) pa_nil)) pe_int))
    (pss_cons (ps_asg (pv 3) (pg_sub (pv 0) pe_int set_list))
    (pss_one (ps_ret (pe_op op_mod (pe_callTy call_int1 (by rfl) mi boot_int (pa_cons (pe_op op_fdiv (pv 3) pe_int) pa_nil)) (pv 1)))))))), ?_⟩
  refine ⟨.ref p, rfl, p, _, _, .int c, rfl, rfl, SqL.of hp, rfl, _, _, rfl, rfl, .ref p, rfl, p, _, _, 2, rfl, rfl, hp, rfl, ?_⟩
  have h1 : upd H p (.lst [V.int a, .int b, .int (c + 1)]) p = some (.lst [V.int a, .int b, .int (c + 1)]) := upd_same
  have b1 : Sb p H (upd H p (.lst [V.int a, .int b, .int (c + 1)])) := .set
  refine ⟨.ref p, rfl, p, _, _, .int a, rfl, rfl, SqL.of h1, rfl, _, _, rfl, rfl, _, rfl, ite2 (fun e => ?_) (fun e => ?_)⟩
  · refine ⟨.ref p, rfl, p, _, _, .int a, rfl, rfl, SqL.of h1, rfl, .inl ⟨_, rfl, .int m, rfl, _, _, rfl, rfl, m0, ?_⟩⟩
    refine ⟨.ref p, rfl, p, _, _, .int a, rfl, rfl, SqL.of h1, rfl, .int m, rfl, _, _, rfl, rfl, ⟨m0, by omega⟩, .ref p, rfl, p, _, _, 0, rfl, rfl, h1, rfl, ?_⟩
    refine ⟨.int (a % m), rfl, ?_⟩
    exact q _ _ (Int.emod_nonneg _ (by omega)) (Int.emod_lt_of_pos _ m0) ⟨a / m, b, c + 1, upd_same, hb0, hb1⟩ (b1.trans .set)
  · refine ⟨.ref p, rfl, p, _, _, .int b, rfl, rfl, SqL.of h1, rfl, .inl ⟨_, rfl, .ref p, rfl, p, _, _, .int (c + 1), rfl, rfl, SqL.of h1, rfl, .inl ⟨_, rfl, _, _, rfl, ?_⟩⟩⟩
    refine ⟨.int b, rfl, .int b, rfl, _, _, rfl, rfl, .int (c + 1), rfl, _, _, rfl, rfl, .inl ⟨by decide, by decide⟩, _, _, rfl, rfl, _, _, rfl, rfl, .inl ⟨by omega, by omega⟩, ?_⟩
    refine ⟨.int (c + 1), rfl, _, _, rfl, rfl, .inl ⟨by decide, by decide⟩, _, _, rfl, rfl, _, _, rfl, rfl, .inl ⟨_, rfl, _, _, rfl, rfl, (by show (0 : Int) < 2147483423; decide), ?_⟩⟩
    refine ⟨_, rfl, .ref p, rfl, p, _, _, 1, rfl, rfl, h1, rfl, ?_⟩
    refine ⟨_, rfl, _, _, rfl, rfl, ⟨by decide, by decide⟩, .inl ⟨_, rfl, .int m, rfl, _, _, rfl, rfl, m0, ?_⟩⟩
    exact q _ _ (Int.emod_nonneg _ (by omega)) (Int.emod_lt_of_pos _ m0) ⟨a, _, c + 1, upd_same, Int.emod_nonneg _ (by decide), Int.emod_lt_of_pos _ (by decide)⟩ (b1.trans .set)
end
end Kx
set_option Elab.async false
set_option linter.all false
set_option maxRecDepth 100000
set_option maxHeartbeats 4000000
namespace Kx
open PySem PySem.Spec PyProof.Rows L2 Gd
abbrev sIs : Stmt := topS 23
theorem scIs : FnScope ["value", "sign"] ["value"] (defScope sIs) := ⟨rfl, rfl, rfl, by decide +kernel, rfl, by decide +kernel, by decide +kernel⟩
def lets : Str := Str.ofString "abcdefghijklmnopqrstuvwxyz"
def signs : Str := Str.ofString "abcdefghijklmnopqrstuvwxyz0123456789"
def digs : Str := Str.ofString "0123456789"
def inL (c : Nat) : Bool := decide (c ∈ lets.cps.toList)
def inN (c : Nat) : Bool := decide (c ∈ signs.cps.toList)
def inD (c : Nat) : Bool := decide (c ∈ digs.cps.toList)
theorem signs_eq : signs.cps.toList = lets.cps.toList ++ digs.cps.toList := by decide +kernel
theorem inN_eq (c : Nat) : inN c = (inL c || inD c) := by
  unfold inN inL inD
  rw [signs_eq]
  by_cases h1 : c ∈ lets.cps.toList <;> by_cases h2 : c ∈ digs.cps.toList <;> simp [h1, h2]
def nmL : List Nat → Bool
  | [] => false
  | c :: r => decide ((c :: r).length ≤ 8) && inL c && (c :: r).all inN
def nmS (z : Str) : Bool := nmL z.cps.toList
theorem len_list (z : Str) : z.cps.toList.length = z.length := by simp [Str.length]
theorem nmL_cons (c : Nat) (r : List Nat) : nmL (c :: r) = (decide ((c :: r).length ≤ 8) && inL c && (c :: r).all inN) := rfl
theorem nm_long {z : Str} (h : ¬ z.length ≤ 8) : nmS z = false := by
  have ez := len_list z
  unfold nmS
  cases ec : z.cps.toList with
  | nil => rfl
  | cons c r => rw [nmL_cons, ← ec, ez, decide_eq_false h]; rfl
theorem nm_short {z : Str} {c : Nat} {r : List Nat} (ec : z.cps.toList = c :: r) (h : z.length ≤ 8) : nmS z = (inL c && z.cps.toList.all inN) := by
  have ez := len_list z
  unfold nmS
  rw [ec, nmL_cons, ← ec, ez, decide_eq_true h]; rfl
theorem nm_empty {z : Str} (h : z.length = 0) : nmS z = false := by
  have ez := len_list z
  unfold nmS
  cases ec : z.cps.toList with
  | nil => rfl
  | cons c r => rw [ec] at ez; simp at ez; omega
theorem ne_cons {z : Str} (h : 1 ≤ z.length) : ∃ c r, z.cps.toList = c :: r := by
  have ez := len_list z
  cases ec : z.cps.toList with
  | nil => rw [ec] at ez; simp at ez; omega
  | cons c r => exact ⟨c, r, rfl⟩
/-- a comprehension over a text's signs -/
theorem lc_str {x : Str} {g : TG} {tt : TT} {te : TE} {vs : List Nat} {σ : L2.St} {H1 : Hp} {D : Addr} {Qd : Hp → Prop} (Pv : Nat → Hp → Prop) (h0 : Pv 0 (upd H1 D (.lst [])))
    (hs : ∀ i c H, x.cps.toList[i]? = some c → Pv i H → g (.str ⟨#[c]⟩) (wipe σ vs) H fun τ H2 => wipe τ vs = wipe σ vs ∧ tt τ H2 fun b H3 =>
      if b = true then te τ H3 fun y H4 => ∃ acc, H4 D = some (.lst acc) ∧ acc.length < sizeLine ∧ Pv (i + 1) (upd H4 D (.lst (acc ++ [y]))) else Pv (i + 1) H3) (hd : ∀ H, Pv x.cps.toList.length H → Qd H) :
    ∃ W : Nat → Nat → Hp → Prop, (∃ m, W 0 m (upd H1 D (.lst []))) ∧ ∀ i m H, W i m H →
      ((Its x).stop i H ∧ Qd H) ∨ ((Its x).go i H ∧ ∃ Nx : Hp → Prop, (∀ H', Nx H' → ∃ m', m' < m ∧ W (i + 1) m' H') ∧ ∀ v H', (Its x).yld i H v H' → g v (wipe σ vs) H' fun τ H2 => wipe τ vs = wipe σ vs ∧ tt τ H2 fun b H3 =>
        if b = true then te τ H3 fun y H4 => ∃ acc, H4 D = some (.lst acc) ∧ acc.length < sizeLine ∧ Nx (upd H4 D (.lst (acc ++ [y]))) else Nx H3) := by
  have el : x.cps.toList.length = x.cps.size := Array.length_toList
  refine ⟨fun i m H => i + m = x.cps.toList.length ∧ Pv i H, ⟨_, Nat.zero_add _, h0⟩, fun i m H ⟨e, p⟩ => ?_⟩
  cases m with
  | zero =>
    have e2 : i = x.cps.toList.length := e
    exact .inl ⟨(by show x.cps.size ≤ i; omega), hd H (e2 ▸ p)⟩
  | succ m =>
    refine .inr ⟨(by show i < x.cps.size; omega), Pv (i + 1), fun H' p' => ⟨m, Nat.lt_succ_self m, by omega, p'⟩, ?_⟩
    rintro v H' ⟨rfl, c, hc, rfl⟩
    exact hs i c _ (by rw [Array.getElem?_toList]; exact hc) p
theorem yes_of {σ : L2.St} {H : Hp} {Q : Bool → Hp → Prop} (h : Q true H) : tYes σ H Q := h
theorem yes_if {σ : L2.St} {H : Hp} {A B : Hp → Prop} (h : A H) : tYes σ H (fun b H3 => if b = true then A H3 else B H3) := yes_of (iteT (A := A H) (B := B H) h)
/-- the same: one name as the target, no test -/
theorem lc_strY {x : Str} {j : Nat} {te : TE} {vs : List Nat} {σ : L2.St} {H1 : Hp} {D : Addr} {Qd : Hp → Prop} (Pv : Nat → Hp → Prop) (hw : ∀ v, wipe ((wipe σ vs).set j (some v)) vs = wipe σ vs) (h0 : Pv 0 (upd H1 D (.lst [])))
    (hs : ∀ i c H, x.cps.toList[i]? = some c → Pv i H → te ((wipe σ vs).set j (some (.str ⟨#[c]⟩))) H fun y H4 => ∃ acc, H4 D = some (.lst acc) ∧ acc.length < sizeLine ∧ Pv (i + 1) (upd H4 D (.lst (acc ++ [y]))))
    (hd : ∀ H, Pv x.cps.toList.length H → Qd H) : ∃ W : Nat → Nat → Hp → Prop, (∃ m, W 0 m (upd H1 D (.lst []))) ∧ ∀ i m H, W i m H →
      ((Its x).stop i H ∧ Qd H) ∨ ((Its x).go i H ∧ ∃ Nx : Hp → Prop, (∀ H', Nx H' → ∃ m', m' < m ∧ W (i + 1) m' H') ∧ ∀ v H', (Its x).yld i H v H' → gName j v (wipe σ vs) H' fun τ H2 => wipe τ vs = wipe σ vs ∧ tYes τ H2 fun b H3 =>
        if b = true then te τ H3 fun y H4 => ∃ acc, H4 D = some (.lst acc) ∧ acc.length < sizeLine ∧ Nx (upd H4 D (.lst (acc ++ [y]))) else Nx H3) :=
  lc_str Pv h0 (fun i c H e p => ⟨hw _, yes_if (hs i c H e p)⟩) hd
section
variable {P : Program} {w : World} {K : PySem.W.Frag} {mg : Str → Option Value} {base : Heap}
/-- what the top holds that is_name reads -/
structure TI0 (mg : Str → Option Value) : Prop where
  isi : mg "isinstance" = none
  str : mg "str" = none
  len : mg "len" = none
  all : mg "all" = none
  LET : ∃ t, mg "LETTERS" = some (.str lets t)
  SIG : ∃ t, mg "NAME_SIGNS" = some (.str signs t)
  LON : ∃ t, mg "LONGEST_NAME" = some (.int 8 t)
def spIs (K : PySem.W.Frag) : Sp := fun vs H Q _ => ∃ v, vs = [v] ∧
  ((∃ z, v = .str z ∧ z.length ≤ 1000 ∧ ∀ H', Same H H' → Q (.bl (nmS z)) H') ∨ (∃ t, TyX K H v t ∧ PySem.W.kitOne K t (.type "str") = some false ∧ Q (.bl false) H))
theorem ok_is {f : Addr} {fd : FuncData} (F : Fun K "is_name" "is_name" sIs f fd) (T : TI0 mg) : FnOk P w K mg base CX0 1 f fd ["value"] (spIs K) := by
  refine F.ok scIs (fun vs H Q E h => ?_) (fun cv A ou s H vs Q E hr h => ?_)
  · obtain ⟨v, rfl, _⟩ := h
    rfl
  obtain ⟨v, rfl, h⟩ := h
  obtain ⟨t1, mL⟩ := T.LET
  obtain ⟨t2, mS⟩ := T.SIG
  obtain ⟨t3, mN⟩ := T.LON
  refine ⟨_, pss_cons (ps_if (PW.pt (pw_or (pt_not (pt_val (pe_callB call_isi (by rfl) T.isi boot_isinstance (pa_cons (pv 0) (pa_cons (pe_bltn (v := .ty "str") (by rfl) T.str boot_str rfl) pa_nil)))))
        (pw_or1 (pt_not (pt_chain op_le op_le pe_int (pe_callB call_len_str (by rfl) T.len PySem.boot_len (pa_cons (pv 0) pa_nil)) (pe_glob (v := .int 8) (by rfl) mN ⟨_, rfl⟩))))))
      (pss_one (ps_ret pe_bl)) pss_nil)
    (pss_one (ps_ret (pe_and (pe_cmpR op_in_sign (pe_ix ix_str (pv 0) pe_int (fun _ _ => rfl)) (pe_glob (v := .str lets) (by rfl) mL ⟨_, rfl⟩) rfl)
      (pe_one (pe_callB (cr_all rfl) (by rfl) T.all boot_all (pa_cons (pe_lc (own := [("sign", 1)]) (g := gName 1) (tt := tYes) rfl scIs.nd (pi_str (pv 0)) (blkOk_by (own := [("sign", 1)]) (N := ["value", "sign"]) (sc := defScope sIs) (by decide +kernel))
        (fun _ _ _ _ _ => pg_name (i := 1) scIs.nd rfl (Or.inl rfl)) (fun _ _ _ _ _ => pts_nil) (fun _ _ _ _ _ => pe_cmpR op_in_sign (pv 1) (pe_glob (v := .str signs) (by rfl) mS ⟨_, rfl⟩) rfl)) pa_nil)))))), ?_⟩
  rcases h with ⟨z, rfl, hz, q⟩ | ⟨t, ty, ek, q⟩
  · refine ⟨.str z, rfl, .str z, .ty "str", _, _, true, rfl, .ty "str", .base (.str z), kit_ty (by decide +kernel), _, rfl, iteF ?_⟩
    have ez := len_list z
    refine ⟨.str z, rfl, z, rfl, small1000 hz |> Nat.le_of_lt, ?_⟩
    refine ⟨_, _, rfl, rfl, _, rfl, ite2 (fun e1 => ?_) (fun e1 => ?_)⟩
    · have h1 : 1 ≤ z.length := by have := of_decide_eq_true e1; omega
      refine ⟨_, _, rfl, rfl, _, rfl, ite2 (fun e2 => ?_) (fun e2 => ?_)⟩
      · -- longer than eight
        have h2 : ¬ z.length ≤ 8 := fun h => by
          have e3 : decide ((z.length : Int) ≤ 8) = true := decide_eq_true (by omega)
          rw [e3] at e2
          cases e2
        have eq : nmS z = false := nm_long h2
        have q2 := q H fun _ _ e => e
        rw [eq] at q2
        exact q2
      · have h2 : z.length ≤ 8 := by
          by_cases h : z.length ≤ 8
          · exact h
          · refine absurd ?_ e2
            rw [decide_eq_false (show ¬ (z.length : Int) ≤ 8 by omega)]
            rfl
        obtain ⟨c, r, ec⟩ := ne_cons h1
        have en : nmS z = (inL c && z.cps.toList.all inN) := nm_short ec h2
        refine ⟨.str z, rfl, z, 0, c, rfl, rfl, Nat.le_of_lt (small1000 hz), atI_nat (j := 0) (by rw [ec]; rfl), c, lets, rfl, rfl, _, rfl, ite2 (fun e3 => ?_) (fun e3 => ?_)⟩
        · refine ⟨.str z, rfl, z, rfl, fun D nD => lc_strY (x := z) (fun i H2 => Same H H2 ∧ H2 D = some (.lst ((z.cps.toList.take i).map fun c => V.bl (inN c)))) (fun _ => rfl) ⟨same_new nD, upd_same⟩ ?_ ?_⟩
          · rintro i y H2 hi ⟨s2, eD⟩
            refine ⟨_, rfl, y, signs, rfl, rfl, _, eD, ?_, ?_, ?_⟩
            · rw [List.length_map, List.length_take]
              exact small1000 (by omega)
            · intro b o e
              rw [upd_ne (ne_of_none e nD)]
              exact s2 b o e
            · rw [upd_same, List.take_add_one, hi]
              simp [inN]
          · rintro H2 ⟨s2, eD⟩
            rw [List.take_length] at eD
            refine ⟨D, z.cps.toList.map inN, rfl, SqL.of (by rw [eD, List.map_map]; rfl), ?_⟩
            have q2 := q H2 s2
            rw [en] at q2
            have : (inL c && z.cps.toList.all inN) = (z.cps.toList.map inN).all id := by
              rw [show inL c = true from e3, Bool.true_and, List.all_map]
              rfl
            rw [this] at q2
            exact q2
        · have q2 := q H fun _ _ e => e
          rw [en, show inL c = false from Bool.eq_false_iff.mpr e3, Bool.false_and] at q2
          exact q2
    · have h1 : z.length = 0 := by
        by_cases h : z.length = 0
        · exact h
        · exact absurd (decide_eq_true (by omega)) e1
      have eq : nmS z = false := nm_empty h1
      have q2 := q H fun _ _ e => e
      rw [eq] at q2
      exact ⟨_, rfl, iteT q2⟩
  · refine ⟨v, rfl, v, .ty "str", t, .type "str", false, rfl, .ty "str", ty, ek, _, rfl, iteT (iteT q)⟩
end
end Kx
/-! names: k02 _law_word -/
set_option Elab.async false
set_option linter.all false
set_option maxRecDepth 100000
set_option maxHeartbeats 4000000
namespace Kx
open PySem PySem.Spec PyProof.Rows L2 Gd
abbrev sWord : Stmt := topS 52
theorem scWord : FnScope ["_law_deal_here", "_law_taken", "_law_letters", "_law_way", "_law_word_here", "_law_k", "_law_tail"] ["_law_deal_here", "_law_taken"] (defScope sWord) := ⟨rfl, rfl, rfl, by decide +kernel, rfl, by decide +kernel, by decide +kernel⟩
/-! ### names -/
theorem str_app (x y : Str) : (x ++ y).cps.toList = x.cps.toList ++ y.cps.toList := by rw [PySem.Str.cps_append, Array.toList_append]
theorem nm_of {z : Str} {c : Nat} {r : List Nat} (e : z.cps.toList = c :: r) (hc : inL c = true) (hr : ∀ d ∈ r, inN d = true) (hl : r.length ≤ 7) : nmS z = true := by
  unfold nmS
  rw [e, nmL_cons, hc, List.all_cons, inN_eq c, hc, Bool.true_or, List.all_eq_true.mpr hr, decide_eq_true (by rw [List.length_cons]; omega)]
  rfl
theorem nm_len {z : Str} (h : nmS z = true) : 1 ≤ z.length ∧ z.length ≤ 8 := by
  refine ⟨?_, ?_⟩
  · by_cases h0 : z.length = 0
    · rw [nm_empty h0] at h
      cases h
    · omega
  · by_cases h8 : z.length ≤ 8
    · exact h8
    · rw [nm_long h8] at h
      cases h
def wk (k : Nat) : Str := Str.ofString "w" ++ ((toString (k : Int) : String) : Str)
theorem wk_nm : ∀ k : _root_.Fin 50, nmS (wk k.1) = true := by decide +kernel
theorem wk_len : ∀ k : _root_.Fin 50, (wk k.1).length ≤ 3 ∧ ((toString ((k.1 : Nat) : Int) : String) : Str).length ≤ 3 := by decide +kernel
theorem wk_nd : ((List.range 50).map wk).Nodup := by decide +kernel
theorem nd_le : ∀ (l ts : List Str), l.Nodup → (∀ x ∈ l, x ∈ ts) → l.length ≤ ts.length
  | [], _, _, _ => Nat.zero_le _
  | x :: r, ts, nd, h => by
    have hx : x ∈ ts := h x (List.mem_cons_self ..)
    have nd2 := List.nodup_cons.mp nd
    have := nd_le r (ts.erase x) nd2.2 fun y hy => (List.mem_erase_of_ne (fun e => nd2.1 (by rw [← e]; exact hy))).mpr (h y (List.mem_cons_of_mem _ hy))
    rw [List.length_erase_of_mem hx] at this
    have p : 0 < ts.length := List.length_pos_of_mem hx
    rw [List.length_cons]
    omega
theorem wk_new {ts : List Str} (hl : ts.length ≤ 40) (h : ∀ j, j < ts.length → wk j ∈ ts) : wk ts.length ∉ ts := by
  intro hm
  have nd : ((List.range (ts.length + 1)).map wk).Nodup := by
    have e : (List.range 50).map wk = (List.range (ts.length + 1)).map wk ++ ((List.range' (ts.length + 1) (49 - ts.length)).map wk) := by
      rw [← List.map_append]
      congr 1
      have : (50 : Nat) = (ts.length + 1) + (49 - ts.length) := by omega
      rw [this, List.range_eq_range', List.range_eq_range', ← List.range'_append_1]
      simp
    have n := wk_nd
    rw [e] at n
    exact (List.nodup_append.mp n).1
  have := nd_le _ ts nd fun x hx => by
    obtain ⟨j, hj, rfl⟩ := List.mem_map.mp hx
    have hj := List.mem_range.mp hj
    by_cases e : j = ts.length
    · rw [e]; exact hm
    · exact h j (by omega)
  rw [List.length_map, List.length_range] at this
  omega
theorem inV_str (z : Str) (ts : List Str) : inV (.str z) (ts.map V.str) = decide (z ∈ ts) := by
  unfold inV
  rw [List.any_map]
  induction ts with
  | nil => rfl
  | cons t r ih =>
    rw [List.any_cons, ih]
    by_cases e : t = z
    · subst e
      simp [eqV]
    · have : ¬ z = t := fun q => e q.symm
      simp [eqV, e, this]
theorem all_flat (ts : List Str) : (ts.map V.str).all flatV = true := by
  rw [List.all_map, List.all_eq_true]
  intro x _
  rfl
def words7 : List Str := [Str.ofString "kind", Str.ofString "make", Str.ofString "a", Str.ofString "b", Str.ofString "ab", Str.ofString "one", Str.ofString "x0"]
theorem words7_nm : ∀ z ∈ words7, nmS z = true := by decide +kernel
theorem sign_L : ∀ d : _root_.Fin 26, ∃ c, signs.cps.toList[d.1]? = some c ∧ inL c = true := by decide +kernel
theorem sign_N {d : Nat} (h : d < 36) : ∃ c, signs.cps.toList[d]? = some c ∧ inN c = true := by
  have hl : d < signs.cps.toList.length := by
    rw [show signs.cps.toList.length = 36 by decide +kernel]
    exact h
  exact ⟨_, List.getElem?_eq_getElem hl, decide_eq_true (List.getElem_mem hl)⟩
theorem join_signs : ∀ cs : List Nat, (Txt.join (Str.ofString "") (cs.map fun c => (⟨#[c]⟩ : Str))).cps.toList = cs := by
  intro cs
  rw [TL.join_eq]
  induction cs with
  | nil => rfl
  | cons c r ih =>
    cases r with
    | nil => rfl
    | cons d r =>
      show (((⟨#[c]⟩ : Str) ++ Str.ofString "") ++ Str.join (Str.ofString "") (((d :: r).map fun c => (⟨#[c]⟩ : Str)))).cps.toList = _
      rw [str_app, ih]
      rfl
theorem ones_sum : ∀ cs : List Nat, ((cs.map fun c => (⟨#[c]⟩ : Str)).map (·.length)).sum = cs.length
  | [] => rfl
  | c :: r => by
    rw [List.map_cons, List.map_cons, List.sum_cons, ones_sum r]
    show 1 + r.length = r.length + 1
    omega
end Kx
set_option Elab.async false
set_option linter.all false
set_option maxRecDepth 100000
set_option maxHeartbeats 4000000
namespace Kx
open PySem PySem.Spec PyProof.Rows L2 Gd
/-- a comprehension over a range: one name as the target, no test -/
theorem lc_rangeY {n j : Nat} {te : TE} {vs : List Nat} {σ : L2.St} {H1 : Hp} {D : Addr} {Qd : Hp → Prop} (Pv : Nat → Hp → Prop) (hw : ∀ v, wipe ((wipe σ vs).set j (some v)) vs = wipe σ vs) (h0 : Pv 0 (upd H1 D (.lst [])))
    (hs : ∀ i H, i < n → Pv i H → te ((wipe σ vs).set j (some (.int (0 + (i : Int))))) H fun y H4 => ∃ acc, H4 D = some (.lst acc) ∧ acc.length < sizeLine ∧ Pv (i + 1) (upd H4 D (.lst (acc ++ [y]))))
    (hd : ∀ H, Pv n H → Qd H) : ∃ W : Nat → Nat → Hp → Prop, (∃ m, W 0 m (upd H1 D (.lst []))) ∧ ∀ i m H, W i m H →
      ((Itr 0 n).stop i H ∧ Qd H) ∨ ((Itr 0 n).go i H ∧ ∃ Nx : Hp → Prop, (∀ H', Nx H' → ∃ m', m' < m ∧ W (i + 1) m' H') ∧ ∀ v H', (Itr 0 n).yld i H v H' → gName j v (wipe σ vs) H' fun τ H2 => wipe τ vs = wipe σ vs ∧ tYes τ H2 fun b H3 =>
        if b = true then te τ H3 fun y H4 => ∃ acc, H4 D = some (.lst acc) ∧ acc.length < sizeLine ∧ Nx (upd H4 D (.lst (acc ++ [y]))) else Nx H3) :=
  lc_range Pv h0 (fun i H e p => ⟨hw _, yes_if (hs i H e p)⟩) hd
/-- what follows a statement, shown once -/
theorem seq_join {t u : TS} {D : Ends} {σ : L2.St} {H : Hp} (R : L2.St → Hp → Prop) (hR : ∀ σ H, R σ H → u D σ H) (h : (∀ σ H, R σ H → u D σ H) → t { D with nx := u D } σ H) : tSeq t u D σ H := h hR
section
variable {P : Program} {w : World} {K : PySem.W.Frag} {mg : Str → Option Value} {base : Heap}
structure TW0 (mg : Str → Option Value) : Prop where
  len : mg "len" = none
  str : mg "str" = none
  range : mg "range" = none
def spWord : Sp := fun vs H Q _ => ∃ (p q : Addr) (ts : List Str), vs = [.ref p, .ref q] ∧ DealAt H p ∧ H q = some (.lst (ts.map V.str)) ∧ q ≠ p ∧ ts.length ≤ 40 ∧
  ∀ (z : Str) (H' : Hp), nmS z = true → z ∉ ts → DealAt H' p → Sb p H H' → Q (.str z) H'
theorem ok_word {f fp : Addr} {fd fdp : FuncData} (F : Fun K "_law_word" "_law_word" sWord f fd) (T : TW0 mg) (GP : FnOk P w K mg base CX0 1 fp fdp ["_law_deal_here", "_law_many"] spPick) (kp : PySem.W.keepIn K (.ref fp) = true)
    (bP : Binds K fdp ["_law_deal_here", "_law_many"] []) (gP : mg "_law_pick" = some (.ref fp)) : FnOk P w K mg base CX0 2 f fd ["_law_deal_here", "_law_taken"] spWord := by
  refine F.ok scWord (fun vs H Q E h => ?_) (fun cv A ou s H vs Q E hr h => ?_)
  · obtain ⟨p, q, ts, rfl, _⟩ := h
    rfl
  obtain ⟨p, q, ts, rfl, hD, hq, nqp, hl, k⟩ := h
  refine ⟨_, pss_cons (ps_set (i := 2) scWord.nd rfl (.inr rfl) pe_str)
    (pss_cons (ps_par (i := 3) (j := 4) (by rfl) scWord.nd rfl rfl (by decide) rfl rfl
      (pa_cons (pe_call GP hr (by rfl) gP kp bP .nil pass0 (pa_cons (pv 0) (pa_cons pe_int pa_nil)))
      (pa_cons (pe_ix ix_list (pe_lst (pa_cons pe_str (pa_cons pe_str (pa_cons pe_str (pa_cons pe_str (pa_cons pe_str (pa_cons pe_str (pa_cons pe_str pa_nil))))))))
        (pe_call GP hr (by rfl) gP kp bP .nil pass0 (pa_cons (pv 0) (pa_cons pe_int pa_nil))) (fun _ _ => rfl)) pa_nil)) (by rfl))
    (pss_cons (ps_if (pt_cmpR op_gt (pv 3) pe_int (nomark _))
      (pss_cons (ps_setLc (i := 6) (own := [("_law_k", 5)]) (g := gName 5) (tt := tYes) (by rfl) scWord.nd rfl rfl (sw_true rfl rfl rfl (by decide +kernel))
          (pi_range1 rfl T.range (pa_cons (pe_ix ix_list (pe_lst (pa_cons pe_int (pa_cons pe_int (pa_cons pe_int pa_nil)))) (pe_op op_sub (pv 3) pe_int) (fun _ _ => rfl)) pa_nil))
          (blkOk_by (own := [("_law_k", 5)]) (N := ["_law_deal_here", "_law_taken", "_law_letters", "_law_way", "_law_word_here", "_law_k", "_law_tail"]) (sc := defScope sWord) (by decide +kernel))
          (fun _ _ _ _ _ => pg_name (i := 5) scWord.nd rfl (Or.inl rfl)) (fun _ _ _ _ _ => pts_nil)
          (fun _ _ _ _ _ => pe_ix ix_str (pv 2) (pe_call GP hr (by rfl) gP kp bP .nil pass0 (pa_cons (pv 0) (pa_cons pe_int pa_nil))) (fun _ _ => rfl)))
      (pss_one (ps_set (i := 4) scWord.nd rfl (.inl rfl) (pe_op op_add_str (pe_ix ix_str (pv 2) (pe_call GP hr (by rfl) gP kp bP .nil pass0 (pa_cons (pv 0) (pa_cons pe_int pa_nil))) (fun _ _ => rfl)) (pe_join pe_str (pv 6)))))) pss_nil)
    (pss_cons (ps_for PassesOwn.never rfl (pi_range1 rfl T.range (pa_cons (pe_op op_add (pe_callB call_len_seq (by rfl) T.len PySem.boot_len (pa_cons (pv 1) pa_nil)) pe_int) pa_nil)) (pg_name (i := 5) scWord.nd rfl (.inl rfl))
      (pss_cons (ps_if (pt_cmpR op_notIn_seq (pv 4) (pv 1) (by rfl)) (pss_one (ps_ret (pv 4))) pss_nil)
      (pss_one (ps_set (i := 4) scWord.nd rfl (.inl rfl) (pe_op op_add_str pe_str (pe_callTy call_str_int (by rfl) T.str boot_str (pa_cons (pv 5) pa_nil)))))))
    (pss_one (ps_ret (pv 4)))))), ?_⟩
  refine ⟨.ref p, rfl, p, 4, rfl, hD, by decide, by decide, fun d1 H1 l1 u1 D1 b1 => ?_⟩
  have q1 : H1 q = some (.lst (ts.map V.str)) := b1 q _ nqp hq
  refine ⟨(by show 7 ≤ sizeLine; decide), fun L nL => ?_⟩
  have nLp : L ≠ p := by
    obtain ⟨_, _, _, e, _⟩ := D1
    exact fun e2 => by rw [e2, e] at nL; cases nL
  have s1 : Same H1 (upd H1 L (.lst [V.str "kind", .str "make", .str "a", .str "b", .str "ab", .str "one", .str "x0"])) := same_new nL
  refine ⟨.ref p, rfl, p, 7, rfl, D1.keep s1, by decide, by decide, fun d2 H2 l2 u2 D2 b2 => ?_⟩
  have L2 : H2 L = some (.lst [V.str "kind", .str "make", .str "a", .str "b", .str "ab", .str "one", .str "x0"]) := b2 L _ nLp upd_same
  have q2 : H2 q = some (.lst (ts.map V.str)) := b2 q _ nqp (s1 q _ q1)
  have B2 : Sb p H H2 := b1.trans ((Sb.of s1).trans b2)
  obtain ⟨z0, e0, h0⟩ : ∃ z, ([V.str "kind", .str "make", .str "a", .str "b", .str "ab", .str "one", .str "x0"])[d2.toNat]? = some (V.str z) ∧ nmS z = true := by
    have hd : d2.toNat < words7.length := by show d2.toNat < 7; omega
    refine ⟨words7[d2.toNat], ?_, words7_nm _ (List.getElem_mem hd)⟩
    show (words7.map V.str)[d2.toNat]? = _
    rw [List.getElem?_map, List.getElem?_eq_getElem hd]
    rfl
  refine ⟨L, _, d2, .str z0, rfl, rfl, SqL.of L2, at_of (j := d2.toNat) (by omega) e0, V.int d1, .str z0, rfl, ?_⟩
  dsimp only
  refine seq_join (fun σ H3 => ∃ (z : Str) (o5 o6 : Option V), σ = [some (.ref p), some (.ref q), some (.str signs), some (.int d1), some (.str z), o5, o6] ∧ nmS z = true ∧ DealAt H3 p ∧ Sb p H H3) ?_ fun rest => ?_
  · rintro σ H3 ⟨z, o5, o6, rfl, hz, D3, B3⟩
    have q3 := B3 q _ nqp hq
    refine ⟨.ref q, rfl, q, ts.map V.str, rfl, .inl (SqL.of q3), _, _, rfl, rfl, _, rfl, ?_, ?_, ?_⟩
    · rw [List.length_map]; omega
    · rw [List.length_map]; omega
    have en : (((ts.map V.str).length : Int) + 1).toNat = ts.length + 1 := by rw [List.length_map]; omega
    rw [en]
    refine for_range (n := ts.length + 1) (fun i σ H' => ∃ (z : Str) (o5 : Option V), σ = [some (.ref p), some (.ref q), some (.str signs), some (.int d1), some (.str z), o5, o6] ∧ nmS z = true ∧ H' = H3 ∧ (i = 0 ∨ z = wk (i - 1)) ∧ ∀ j, j + 1 < i → wk j ∈ ts)
      ⟨z, o5, rfl, hz, rfl, .inl rfl, fun j h => by omega⟩ ?_ ?_
    · rintro i σ H' hi ⟨z, o5, rfl, hz, rfl, hw, hj⟩
      refine ⟨.str z, rfl, .ref q, rfl, q, ts.map V.str, rfl, .inl (SqL.of q3), rfl, all_flat ts, _, rfl, ?_⟩
      rw [inV_str]
      by_cases hm : z ∈ ts
      · rw [decide_eq_true hm]
        have hi2 : i < 50 := by omega
        have n3 : (Str.ofString (toString (i : Int))).length ≤ 3 := (wk_len ⟨i, hi2⟩).2
        refine iteF ⟨_, rfl, _, rfl, ?_, _, _, rfl, rfl, ?_, wk i, some (.int (0 + (i : Int))), ?_, wk_nm ⟨i, hi2⟩, rfl, .inr rfl, fun j h => ?_⟩
        · have : ((0 : Int) + i).natAbs = i := by omega
          rw [this]
          exact Nat.lt_of_le_of_lt (Nat.log2_le_self i) (by omega)
        · rw [Int.zero_add]
          exact Nat.le_of_lt (small1000 (by show 1 + _ ≤ 1000; omega))
        · rw [Int.zero_add]
          rfl
        · by_cases e : j + 1 < i
          · exact hj j e
          · have e2 : j = i - 1 := by omega
            subst e2
            rcases hw with h0 | hw
            · omega
            · rw [← hw]; exact hm
      · rw [decide_eq_false hm]
        exact iteT ⟨.str z, rfl, k z _ hz hm D3 B3⟩
    · rintro σ H' ⟨z, o5, rfl, hz, rfl, hw, hj⟩
      have ez : z = wk ts.length := by
        rcases hw with h | h
        · omega
        · exact h
      subst ez
      exact ⟨_, rfl, k _ _ hz (wk_new hl fun j h => hj j (by omega)) D3 B3⟩
  refine ⟨_, rfl, _, _, rfl, rfl, _, rfl, ite2 (fun e => ?_) (fun e => ?_)⟩
  · have hd1 : 0 < d1 := of_decide_eq_true e
    -- the range's length
    refine ⟨(by show 3 ≤ sizeLine; decide), fun M nM => ?_⟩
    have nMp : M ≠ p := by
      obtain ⟨_, _, _, e, _⟩ := D2
      exact fun e2 => by rw [e2, e] at nM; cases nM
    have s3 : Same H2 (upd H2 M (.lst [V.int 1, .int 2, .int 7])) := same_new nM
    obtain ⟨n, en, hn⟩ : ∃ n : Nat, ([V.int 1, .int 2, .int 7])[(d1 - 1).toNat]? = some (V.int n) ∧ n ≤ 7 := by
      have : d1 = 1 ∨ d1 = 2 ∨ d1 = 3 := by omega
      rcases this with rfl | rfl | rfl
      · exact ⟨1, rfl, by omega⟩
      · exact ⟨2, rfl, by omega⟩
      · exact ⟨7, rfl, by omega⟩
    refine ⟨.int d1, rfl, _, _, rfl, rfl, M, _, d1 - 1, .int n, rfl, rfl, SqL.of upd_same, at_of (j := (d1 - 1).toNat) (by omega) en, _, rfl, by omega, by omega, fun D nD => ?_⟩
    have nDp : D ≠ p := by
      obtain ⟨_, _, _, e, _⟩ := D2
      exact fun e2 => by rw [e2, s3 _ _ e] at nD; cases nD
    have B3 : Sb p H (upd (upd H2 M (.lst [V.int 1, .int 2, .int 7])) D (.lst [])) := B2.trans ((Sb.of s3).trans (.new nD))
    refine lc_rangeY (n := n) (fun i H4 => ∃ cs : List Nat, DealAt H4 p ∧ Sb p H H4 ∧ H4 D = some (.lst ((cs.map fun c => (⟨#[c]⟩ : Str)).map V.str)) ∧ cs.length = i ∧ ∀ c ∈ cs, inN c = true) (fun _ => rfl)
      ⟨[], (D2.keep s3).keep (same_new nD), B3, upd_same, rfl, fun c h => by cases h⟩ ?_ ?_
    · rintro i H4 hi ⟨cs, D4, B4, e4, l4, n4⟩
      refine ⟨.str signs, rfl, .ref p, rfl, p, 36, rfl, D4, by decide, by decide, fun d5 H5 l5 u5 D5 b5 => ?_⟩
      obtain ⟨c, ec, nc⟩ := sign_N (d := d5.toNat) (by omega)
      have e5 := b5 D _ nDp e4
      refine ⟨signs, d5, c, rfl, rfl, by decide +kernel, by rw [show d5 = ((d5.toNat : Nat) : Int) by omega]; exact atI_nat ec, _, e5, ?_, cs ++ [c], ?_, ?_, ?_, ?_, ?_⟩
      · rw [List.length_map, List.length_map]
        exact small1000 (by omega)
      · obtain ⟨x, y, u, e, l⟩ := D5
        exact ⟨x, y, u, by rw [upd_ne nDp.symm]; exact e, l⟩
      · intro b o n e
        by_cases eb : b = D
        · subst eb
          exact absurd (B2.trans (Sb.of s3) b o n e) (by rw [nD]; simp)
        · rw [upd_ne eb]
          exact b5 b o n (B4 b o n e)
      · rw [upd_same, List.map_append, List.map_append]
        rfl
      · rw [List.length_append, l4]
        rfl
      · intro x hx
        rcases List.mem_append.mp hx with h | h
        · exact n4 x h
        · rw [List.mem_singleton.mp h]; exact nc
    · rintro H4 ⟨cs, D4, B4, e4, l4, n4⟩
      refine ⟨.str signs, rfl, .ref p, rfl, p, 26, rfl, D4, by decide, by decide, fun d5 H5 l5 u5 D5 b5 => ?_⟩
      obtain ⟨c, ec, nc⟩ := sign_L ⟨d5.toNat, by omega⟩
      have e5 := b5 D _ nDp e4
      refine ⟨signs, d5, c, rfl, rfl, by decide +kernel, by rw [show d5 = ((d5.toNat : Nat) : Int) by omega]; exact atI_nat ec, ⟨_, rfl⟩, .ref D, rfl, _, D, _, rfl, rfl, .inl (SqL.of e5), ?_, _, _, rfl, rfl, ?_, ?_⟩
      · rw [ones_sum, List.length_map]
        show cs.length + cs.length * 0 ≤ 16777216
        omega
      · have := len_list (Txt.join (Str.ofString "") (cs.map fun c => (⟨#[c]⟩ : Str)))
        rw [join_signs] at this
        rw [← this]
        exact Nat.le_of_lt (small1000 (by show 1 + _ ≤ 1000; omega))
      · refine rest _ _ ⟨_, _, _, rfl, nm_of (c := c) (r := cs) ?_ nc n4 (by omega), D5, B4.trans b5⟩
        rw [str_app, join_signs]
        rfl
  · exact rest _ _ ⟨z0, none, none, rfl, h0, D2, B2⟩
end
end Kx
set_option Elab.async false
set_option linter.all false
set_option maxRecDepth 100000
set_option maxHeartbeats 4000000
/-! Exceptions of own classes as values: made (by place and by name), their fields read, their classes asked. -/
namespace Gd
open PySem PySem.Spec PyProof.Rows L2
open PySem.W (excInitIn excOver excTail)

/-- what is asked of an exception class of one's own over the built-in class B -/
structure XC (K : PySem.W.Frag) (C : Addr) : Prop where
  base : ∃ (B nid iid : String) (tl : List Value), ExcBaseFacts B nid iid tl ∧ StoreFacts B tl "object.__setattr__" "object" ∧ excInitIn K C tl nid = true ∧ excOver K C tl = true
  hd : PySem.W.hasDictIn K C = true
  sa : PySem.W.findIn K (.ref C) "__setattr__" = some (some (.builtin "object.__setattr__"))
  ga : PySem.W.findIn K (.ref C) "__getattribute__" = some (some (.builtin "BaseException.__getattribute__"))
  gg : PySem.W.findIn K (.ref C) "__getattr__" = some none
  sB : PySem.W.subIn K (.ref C) (.type "BaseException") = some true
  ca : PySem.W.findIn K (.ref C) "__class__" = some (some (.builtin "object.__class__"))
  cn : PySem.W.specialIn K (.builtin "object.__class__") "__get__" = some (some (.builtin "getset_descriptor.__get__"))
  ct : PySem.W.takesIn K (.builtin "object.__class__") = some true
  mo : PySem.W.mroIn K C (.type "object") = some true
  kp : PySem.W.keepIn K (.ref C) = true
/-- its instance at a, with these fields -/
def ErrAt (H : Hp) (a C : Addr) (fs : List (Str × V)) : Prop := ∃ d, H a = some (exo a C (some d)) ∧ H d = some (exd d fs)
theorem ErrAt.keep {H H' : Hp} {a C : Addr} {fs : List (Str × V)} (h : ErrAt H a C fs) (s : Same H H') : ErrAt H' a C fs := by
  obtain ⟨d, h1, h2⟩ := h
  exact ⟨d, s _ _ h1, s _ _ h2⟩

/-! ### the first store of a field, a further one -/
section
variable {prog : Program} {w : World} {A : Around} {E : Value → Shared → Prop} {R : Result → Shared → Prop} {hp : Heap} {g : Array GenState} {d : Drawn} {t : Nat} {os : OsState}
theorem store_first {K : PySem.W.Frag} {name : Str} {tk : Tok} {v : Value} {x C t1 : Addr} {B : String} {tl : List Value} (SF : StoreFacts B tl "object.__setattr__" "object") (X : K.In hp)
    (hx : hp.get? x = some { cls := .ref C, data := .fields #[.ref t1, .none, .none, .none, .bool false, .none] }) (ho : excOver K C tl = true) (hd : PySem.W.hasDictIn K C = true) (ht : PySem.W.takerIn K C name = some none)
    (hq : ∀ h' tk' dx, (∀ b o, b ≠ x → hp.get? b = some o → h'.get? b = some o) → hp.objs.size ≤ dx → dx ≠ x → h'.get? x = some { cls := .ref C, dict := some dx, data := .fields #[.ref t1, .none, .none, .none, .bool false, .none] } →
      h'.Ns1 dx (fun y => if y = name then some v else none) → R (.ok (.ret .none)) ⟨h', g, d, tk', os⟩) :
    codeAny (model prog w) A (.call (.builtin "object.__setattr__") ⟨[.ref x, .str name tk, v], []⟩) R ⟨hp, g, d, t, os⟩ := by
  refine PySem.W.osa_openX (od := none) SF X ⟨hx, rfl, rfl, trivial⟩ ho ht fun b => ?_
  obtain ⟨cd, hc, hd'⟩ := PySem.W.any_some hd
  have hxs : x ≠ hp.objs.size := Nat.ne_of_lt (Heap.lt_size hx)
  refine wpAny_bind (wpAny_pure (wpAny_bind (PySem.W.instanceDict_exc (c2 := .none) hx (PySem.W.looks_clsIn X hc) hd' ?_)))
  show wpAny _ _ (Builtin.ObjectAttr.storeInDict hp.objs.size (.str name tk) name v) _ _ _
  refine HandSPX.store_in_new ?_ ?_
  · exact ⟨_, #[], _, (Heap.get?_update_ne _ _ _ _ hxs.symm).trans (Heap.get?_push_at rfl rfl), rfl, fun e he => absurd he (by simp), fun _ => rfl⟩
  · intro h' tk' hn' hs
    have hx2 : (hp.push (PySem.W.dictOf [] 0)).get? x = some { cls := .ref C, data := .fields #[.ref t1, .none, .none, .none, .bool false, .none] } := Heap.get?_push_of_some _ hx
    refine hq h' tk' hp.objs.size (fun b o hb q => ?_) (Nat.le_refl _) hxs.symm ?_ hn'
    · exact (hs.2 b (Nat.ne_of_lt (Heap.lt_size q))).trans ((Heap.get?_update_ne _ _ _ _ hb).trans (Heap.get?_push_of_some _ q))
    · exact (hs.2 x hxs).trans (Heap.get?_update_self _ hx2 rfl)
end

section
variable {X : Cx} {pins : List (Addr × Obj)} {σ : L2.St} {H : Hp} {s : Shared} {a C dx : Addr} {f : Str} {y : V} {u : Value} {fs : List (Str × V)} {Q : Unit → Shared → Prop} {E : Value → Shared → Prop} {A : Around}
/-- self.f = y on an exception without a dict -/
theorem est_first (T : XC X.K C) (I : Inv X pins σ H s) (e : H a = some (exo a C none)) (ht : PySem.W.takerIn X.K C f = some none) (ry : RelV y u)
    (h : ∀ dx s', H dx = none → dx ≠ a → Inv X pins σ (upd (upd H dx (exd dx [(f, y)])) a (exo a C (some dx))) s' → Q () s') : wpAny (model X.prog X.w) A (setAttr (.ref a) f u) Q E s := by
  obtain ⟨B, nid, iid, tl, FB, SF, hin, hov⟩ := T.base
  obtain ⟨t1, ho⟩ := exo_at I.hok e
  obtain ⟨hp, g, d, t, os⟩ := s
  refine PySem.W.set_plain I.kIn (ox := { cls := .ref C, dict := none, data := .fields #[.ref t1, .none, .none, .none, .bool false, .none] }) (od := none) ⟨ho, rfl, rfl, trivial⟩ T.sa ?_
  refine store_first SF I.kIn ho hov T.hd ht fun h' tk' dx k dn dne hx hn => ?_
  have n1 : H dx = none := I.hok.fresh dn
  have old : ∀ {b : Addr} {o : Obj}, hp.get? b = some o → b ≠ dx := by
    intro b o q z
    have := Heap.lt_size q
    rw [z] at this
    exact absurd dn (Nat.not_le.mpr this)
  have offA : ∀ {b : Addr}, H b = none → b ≠ a := by
    intro b n z
    rw [z, e] at n
    cases n
  have onA : ∀ {b : Addr} {o : HO}, H b = some o → o ≠ exo a C none → b ≠ a := by
    intro b o q n z
    rw [z, e] at q
    exact n (Option.some.inj q).symm
  have un : Un X.fs [] H (upd (upd H dx (exd dx [(f, y)])) a (exo a C (some dx))) hp h' := by
    constructor
    · intro b o q n _ _
      exact k b o (offA n) q
    · intro b o q n _ _
      exact ⟨o.slots, k b o (offA n) q⟩
    · intro b o q n _
      rw [upd_ne (offA n), upd_ne (old q)]
      exact n
    · intro b o q _
      by_cases hb : b = a
      · subst hb
        exact ⟨_, hx⟩
      · exact ⟨o, k b o hb q⟩
    · intro b xs q
      rw [upd_ne (onA q (fun z => exo_tup z.symm)), upd_ne (ne_of_none q n1)]
      exact q
    · intro b o v q
      rw [upd_ne (onA q (fun z => exo_frz z.symm)), upd_ne (ne_of_none q n1)]
      exact q
    · intro b ps q
      refine ⟨#[], ?_⟩
      rw [upd_ne (onA q (fun z => exo_tbl z.symm)), upd_ne (ne_of_none q n1), q]
      simp
  refine h dx _ n1 dne (I.un (t' := tk') un fun b o q => ?_)
  by_cases hb : b = a
  · subst hb
    rw [upd_same] at q
    cases q
    exact exo_ok hx
  rw [upd_ne hb] at q
  by_cases hd : b = dx
  · subst hd
    rw [upd_same] at q
    cases q
    exact exd_ok hn (relO_put (fs := []) ry fun g => True.intro)
  rw [upd_ne hd] at q
  refine (I.hok b o q).stay (fun c v hc z => k c v ?_ z) (fun c hc => ?_) fun c xs hc => ?_
  · rcases hc with hc | hc
    · rw [hc]
      exact hb
    · exact onA hc (fun z => exo_own z.symm)
  · rw [upd_ne (onA hc (fun z => exo_own z.symm)), upd_ne (ne_of_none hc n1)]
    exact hc
  · rw [upd_ne (onA hc (fun z => exo_tup z.symm)), upd_ne (ne_of_none hc n1)]
    exact hc
end
end Gd
set_option Elab.async false
set_option linter.all false
set_option maxRecDepth 100000
set_option maxHeartbeats 4000000
namespace PySem
namespace Gk
open PySem.W PySem.Calls PyProof.Rows PySem.HandSPX
open Builtin Builtin.ObjectAttr
section
variable {M : Model} {A : Around} {E : Value → Shared → Prop} {h : Heap} {g : Array GenState} {d : Drawn} {t : Nat} {os : OsState}
variable {nm q : Str} {C N : Addr} {bs bm bmB : List Value} {hdct : Bool} {sn : List Str} {sub : List Value} {ab : Bool} {col : Option Bool} {dd : Option Addr} {k0 k1 k2 k3 k5 : Option Value} {B newId initId : String}
theorem check_kw (F : ExcBaseFacts B newId initId bmB) (hT : ∀ X : String, bm.contains (.type X) = bmB.contains (.type X)) {rest : List Value} {kw : List (Str × Value)} {Q : Unit → Shared → Prop}
    (hC : h.get? C = some (excClassObj nm q C N bs bm hdct sn sub ab col dd k0 k1 k2 k3 k5 newId)) (hq : Q () ⟨h, g, d, t, os⟩) : wpAny M A (checkBuiltinCall newId ⟨.ref C :: rest, kw⟩) Q E ⟨h, g, d, t, os⟩ := by
  have c1 : (Value.ref C :: bm).contains (.type B) = true := by rw [List.contains_cons, hT, F.hasB, Bool.or_true]
  have c2 := F.noStar
  simp only [checkBuiltinCall, F.newKind, F.newSplit, F.newRow]
  repeat (first | refine wpAny_loadPart_at hC ?_ | (refine wpAny_isSubtype_exc hC ?_; rw [c1]) | refine wpAny_staticBase_exc hC ?_ | refine wpAny_madeBy_exc hC ?_ | simp only [bne_self_eq_false, Bool.false_eq_true, if_false] | wp_step)
  exact hq
end
section
variable {prog : Program} {w : World} {A : Around} {E : Value → Shared → Prop} {R : Result → Shared → Prop} {h : Heap} {g : Array GenState} {d : Drawn} {t : Nat} {os : OsState}
variable {nm q : Str} {C N : Addr} {bs bm bmB : List Value} {hdct : Bool} {sn : List Str} {sub : List Value} {ab : Bool} {col : Option Bool} {dd : Option Addr} {k0 k1 k2 k3 k5 : Option Value} {B newId initId : String}
theorem new_kw (F : ExcBaseFacts B newId initId bmB) (hT : ∀ X : String, bm.contains (.type X) = bmB.contains (.type X)) {rest : List Value} {kw : List (Str × Value)}
    (hC : h.get? C = some (excClassObj nm q C N bs bm hdct sn sub ab col dd k0 k1 k2 k3 k5 newId))
    (hq : R (.ok (.ret (.ref (h.objs.size + 1)))) ⟨(h.push (PySem.W.kdv_tup rest)).push (excO C h.objs.size), g, d, t, os⟩) (hrest : rest.length ≤ sizeLine) :
    codeAny (model prog w) A (.builtin newId ⟨.ref C :: rest, kw⟩) R ⟨h, g, d, t, os⟩ := by
  have e0 := F.ends
  have c1 : (Value.ref C :: bm).contains (.type B) = true := by rw [List.contains_cons, hT, F.hasB, Bool.or_true]
  have c2 : (Value.ref C :: bm).contains (.type "AttributeError") = false := by rw [List.contains_cons, hT, F.noAttr]; rfl
  have c3 : (Value.ref C :: bm).contains (.type "NameError") = false := by rw [List.contains_cons, hT, F.noName]; rfl
  refine codeAny_builtinAt F.entry ?_
  unfold Builtin.«BaseException.__new__»
  refine wpAt_bind ?_
  show wpAt _ _ _ (stack >>= _) _ _ _
  refine wpAt_bind (wpAt_stack fun p below => wpAt_of_wpAny ?_)
  wp_walk
  refine wpAt_of_wpAny ?_
  rw [F.owner]
  repeat (first | with_reducible refine wpAny_madeHere_exc F.canon hC ?_ | with_reducible refine wpAny_loadPart_at hC ?_ | (with_reducible refine wpAny_isSubtype_exc hC ?_; first | rw [c1] | rw [c2] | rw [c3]) | wp_step)
  show R _ _
  rw [Heap.size_push]
  exact hq
theorem type_call_kw (F : ExcBaseFacts B newId initId bmB) (hT : ∀ X : String, bm.contains (.type X) = bmB.contains (.type X)) {rest : List Value} {kw : List (Str × Value)} {fI : Addr} {Q : Fin → Shared → Prop}
    (hC : h.get? C = some (excClassObj nm q C N bs bm hdct sn sub ab col dd k0 k1 k2 k3 k5 newId))
    (hi : W.Looks (model prog w) h (typeLookup (.ref C) "__init__") (some (.ref fI))) (hb : ∀ self, W.Looks (model prog w) h (bindSpecial (.ref fI) self) (.ref fI, [self])) (hrest : rest.length ≤ sizeLine)
    (hq : codeAny (model prog w) A (.call (.ref fI) ⟨.ref (h.objs.size + 1) :: rest, kw⟩)
      (fun r s' => match r with | .ok (.ret v) => v = .none ∧ Q (.done (.ret (.ref (h.objs.size + 1)))) s' | .ok _ => False | .error e => E e s')
      ⟨(h.push (W.kdv_tup rest)).push (excO C h.objs.size), g, d, t, os⟩) :
    wpAny (model prog w) A (Builtin.«type.__call__» ⟨.ref C :: rest, kw⟩) Q E ⟨h, g, d, t, os⟩ := by
  repeat (first | with_reducible refine wpAny_loadPart_at hC ?_ | with_reducible refine wpAny_madeBy_exc hC ?_ | wp_step)
  refine codeAny_call_builtin_code (Code.quiet_builtin _ F.quiet) (check_kw F hT hC ?_)
  refine new_kw F hT hC ?_ hrest
  show wpAny _ _ _ _ _ _
  have k : ∀ b o, h.get? b = some o → ((h.push (W.kdv_tup rest)).push (excO C h.objs.size)).get? b = some o := fun b o e => Heap.get?_push_of_some _ (Heap.get?_push_of_some _ e)
  have g1 := k _ _ hC
  have g2 : ((h.push (W.kdv_tup rest)).push (excO C h.objs.size)).get? (h.objs.size + 1) = some (excO C h.objs.size) := by heap_get
  have c1 : (Value.ref C :: bm).contains (.ref C) = true := by simp
  have i1 := hi.keeps k
  have b1 := (hb (.ref (h.objs.size + 1))).keeps k
  unfold isInstance
  repeat (first | with_reducible refine wpAny_loadPart_at g2 ?_ | (with_reducible refine wpAny_isSubtype_exc g1 ?_; rw [c1]) | wp_step)
  show wpAny _ _ (typeLookup (.ref C) _) _ _ _
  refine i1.at ?_
  refine wpAny_holding (wpAny_bind (b1.at ?_))
  refine wpAny_bind (wpAny_call (codeAny_mono hq fun r s' z => ?_))
  rcases r with e | (v | _ | _ | _) <;> first | exact z | exact z.elim | skip
  obtain ⟨rfl, z⟩ := z
  first
    | exact wpAny_pure (wpAny_pure z)
    | (wp_walk; exact z)
theorem call_kw (F : ExcBaseFacts B newId initId bmB) (hT : ∀ X : String, bm.contains (.type X) = bmB.contains (.type X)) {rest : List Value} {kw : List (Str × Value)} {fI : Addr}
    (hC : h.get? C = some (excClassObj nm q C N bs bm hdct sn sub ab col dd k0 k1 k2 k3 k5 newId))
    (hi : W.Looks (model prog w) h (typeLookup (.ref C) "__init__") (some (.ref fI))) (hb : ∀ self, W.Looks (model prog w) h (bindSpecial (.ref fI) self) (.ref fI, [self])) (hrest : rest.length ≤ sizeLine)
    (hq : codeAny (model prog w) (A.under (.builtin "type.__call__" ⟨.ref C :: rest, kw⟩)) (.call (.ref fI) ⟨.ref (h.objs.size + 1) :: rest, kw⟩) (W.InitBack (h.objs.size + 1) R)
      ⟨(h.push (W.kdv_tup rest)).push (excO C h.objs.size), g, d, t, os⟩) :
    codeAny (model prog w) A (.call (.ref C) ⟨rest, kw⟩) R ⟨h, g, d, t, os⟩ := by
  have f1 := tc_lookup
  have f2 := tc_bind (.ref C)
  have hTy : (⟨h, g, d, t, os⟩ : Shared).TypeIs (.ref C) "type" := ⟨_, hC, rfl⟩
  refine codeAny_of_tree ?_
  show wpAny _ _ (callAny (.ref C) _) _ _ _
  repeat (any_goals (first | assumption | with_reducible refine wpAny_loadPart_at hC ?_ | wp_step))
  refine ⟨rfl, ?_⟩
  refine codeAny_call_builtin_at (Code.quiet_builtin _ (by decide +kernel)) entry_typeCall (wpAny_check_type_call_sub hC (type_call_kw F hT hC hi hb hrest ?_))
  refine codeAny_mono hq fun r s' z => ?_
  rcases r with e | (v | _ | _ | _) <;> exact z
end
end Gk
end PySem
set_option Elab.async false
set_option linter.all false
set_option maxRecDepth 100000
set_option maxHeartbeats 4000000
namespace Gd
open PySem PySem.Spec PyProof.Rows L2
open PySem.W (excInitIn excOver excTail)
section
variable {X : Cx} {pins : List (Addr × Obj)} {σ : L2.St} {H : Hp} {s : Shared} {a C dx : Addr} {f : Str} {y : V} {u : Value} {fs : List (Str × V)} {E : Value → Shared → Prop} {A : Around}
/-- self.f = y, a further field -/
theorem est_more {Q : Unit → Shared → Prop} (T : XC X.K C) (I : Inv X pins σ H s) (e : H a = some (exo a C (some dx))) (ed : H dx = some (exd dx fs)) (hl : fs.length ≤ 900) (ht : PySem.W.takerIn X.K C f = some none) (ry : RelV y u)
    (h : ∀ s', Inv X pins σ (upd H dx (exd dx ((f, y) :: fs))) s' → Q () s') : wpAny (model X.prog X.w) A (setAttr (.ref a) f u) Q E s := by
  obtain ⟨B, nid, iid, tl, FB, SF, hin, hov⟩ := T.base
  obtain ⟨t1, ho⟩ := exo_at I.hok e
  obtain ⟨mA, hns, rel⟩ := exd_at I.hok ed
  have hw := within_of rel
  obtain ⟨hp, g, d, t, os⟩ := s
  obtain ⟨oD, _, _, hoD, _, _⟩ := hns.count hw
  have inst : PySem.W.InstAt hp a { cls := .ref C, dict := some dx, data := .fields #[.ref t1, .none, .none, .none, .bool false, .none] } C (some oD) := ⟨ho, rfl, rfl, hoD⟩
  refine PySem.W.set_plain I.kIn inst T.sa ?_
  refine PySem.W.osa_openX (s := ⟨hp, g, d, t + 1, os⟩) SF I.kIn inst hov ht fun b => ?_
  obtain ⟨cd, hc, hd'⟩ := PySem.W.any_some T.hd
  refine wpAny_bind (wpAny_pure (wpAny_bind (wpAny_bind (wpAny_loadPart ho (wpAny_bind ((PySem.W.looks_clsIn (h := hp) I.kIn hc).at ?_))))))
  rw [hd']
  refine wpAny_pure (a := some dx) ?_
  refine PySem.OEX.store_in_old hns hw (by rw [List.length_map]; omega) fun h' tk' hn hs => ?_
  have hd : ∃ o, h'.get? dx = some o := by
    obtain ⟨o, _, _, e', _⟩ := hn
    exact ⟨o, e'⟩
  exact h _ (I.write (t' := tk') (x := dx) (e := dx) (o := exd dx ((f, y) :: fs)) (by rw [ed]; exact True.intro) (.inl rfl) (fun b o hb ho => (hs.2 b hb).trans ho) hd (exd_ok hn (relO_put ry rel)))
end
/-- self.f = e in an exception's __init__ -/
def tEst (K : PySem.W.Frag) (f : Str) (to te : TE) : TS := fun D σ H => te σ H fun y H1 => to σ H1 fun x H2 => ∃ a C : Addr, x = .ref a ∧ XC K C ∧ PySem.W.takerIn K C f = some none ∧
  ((H2 a = some (exo a C none) ∧ ∀ dx, H2 dx = none → dx ≠ a → D.nx σ (upd (upd H2 dx (exd dx [(f, y)])) a (exo a C (some dx)))) ∨
    ∃ (dx : Addr) (fs : List (Str × V)), H2 a = some (exo a C (some dx)) ∧ H2 dx = some (exd dx fs) ∧ fs.length ≤ 900 ∧ D.nx σ (upd H2 dx (exd dx ((f, y) :: fs))))
theorem ps_est {X : Cx} {o e : Expr} {to te : TE} {f : Str} {p' pos : Pos} (ho : PE X o to) (he : PE X e te) (hs : swapsWith e (some (.Attribute o f p')) pos.line X.env = pure false := by rfl) : PS X (.Assign [.Attribute o f p'] e pos) (tEst X.K f to te) := by
  constructor
  intro pins s σ H D I h
  refine plainObj_wpAny_Assign_Attribute (thn (he.run pins s σ H _ I h) fun v s1 z1 => ?_) hs
  obtain ⟨y, H1, I1, r1, q1⟩ := z1
  refine thn (ho.run pins s1 σ H1 _ I1 q1) fun u s2 z2 => ?_
  obtain ⟨x, H2, I2, r2, a, C, ex, T, ht, q⟩ := z2
  subst ex
  have eu : u = Value.ref a := r2
  subst eu
  rcases q with ⟨ea, q⟩ | ⟨dx, fs, ea, ed, hl, q⟩
  · exact est_first T I2 ea ht r1 fun dx s' n ne J => ⟨σ, _, J, q dx n ne⟩
  · exact est_more T I2 ea ed hl ht r1 fun s' J => ⟨σ, _, J, q⟩

/-! ### C(e, ..), C(k = v, ..): the instance as a value -/
section
variable {X : Cx} {CX : CXT} {k : Nat} {f C : Addr} {fd : FuncData} {ps ks : List Str} {sp : Sp} {E : XK} {x : Str} {p pos : Pos} {e : Expr} {es : List Expr} {kws : List Keyword} {t tk : TA}
/-- C(..) whose __init__ is the def at f -/
structure Ini (K : PySem.W.Frag) (C f : Addr) : Prop where
  xc : XC K C
  at_ : PySem.W.findIn K (.ref C) "__init__" = some (some (.ref f))
  ty : PySem.W.typeIn K (.ref f) = some (.type "function")
def tErr (C : Addr) (sp : Sp) (dvs : List V) (E : XK) (t : TA) : TE := fun σ H Q => t σ H fun vs H1 => vs.length ≤ 1000 ∧ ∀ a, H1 a = none → sp (.ref a :: (vs ++ dvs)) (upd H1 a (exo a C none)) (fun v H2 => v = .non ∧ Q (.ref a) H2) E
theorem run_err {pins : List (Addr × Obj)} {σ : L2.St} {H : Hp} {s : Shared} {Q : VK} {us ws : List Value} {kw : List (Str × Value)} {zs : List V} (N : Ini X.K C f) (F : FnOk X.prog X.w X.K X.mg X.base CX k f fd ps sp) (hR : Room (k + 1) X.A) (hx : Passes CX X E)
    (I : Inv X pins σ H s) (hl : us.length ≤ sizeLine) (hB : ∀ (s' : Shared) (self : Value), X.K.In s'.heap → BindsTo s' fd ⟨self :: us, kw⟩ (ps.zip (self :: ws))) (hV : Vals zs ws)
    (h : ∀ a, H a = none → sp (.ref a :: zs) (upd H a (exo a C none)) (fun v H2 => v = .non ∧ Q (.ref a) H2) E) : wpAny (model X.prog X.w) X.A (call (.ref C) us kw) (EP X pins σ Q) X.xe s := by
  obtain ⟨B, nid, iid, tl, FB, SF, hin, hov⟩ := N.xc.base
  obtain ⟨hp, g, dr, t0, os⟩ := s
  obtain ⟨nm, N', qn, bs, bm, hdct, sn, sub, ab, col, dd, k0, k1, k2, k3, k5, hC, hT⟩ := PySem.W.excInit_of I.kIn hin
  have le1 : hp.objs.size ≤ hp.objs.size + 1 := Nat.le_succ _
  have n1 : H (hp.objs.size + 1) = none := I.hok.fresh le1
  have q1 := h (hp.objs.size + 1) n1
  have kk : ∀ b o, hp.get? b = some o → ((hp.push (PySem.W.kdv_tup us)).push (PySem.HandSPX.excO C hp.objs.size)).get? b = some o := fun b o e => Heap.get?_push_of_some _ (Heap.get?_push_of_some _ e)
  have g1 : ((hp.push (PySem.W.kdv_tup us)).push (PySem.HandSPX.excO C hp.objs.size)).get? (hp.objs.size + 1) = some (PySem.HandSPX.excO C hp.objs.size) := by heap_get
  have I2 : Inv X pins σ (upd H (hp.objs.size + 1) (exo (hp.objs.size + 1) C none)) ⟨(hp.push (PySem.W.kdv_tup us)).push (PySem.HandSPX.excO C hp.objs.size), g, dr, t0, os⟩ :=
    I.laid (t' := t0) (a := hp.objs.size + 1) (o := exo (hp.objs.size + 1) C none) (h' := (hp.push (PySem.W.kdv_tup us)).push (PySem.HandSPX.excO C hp.objs.size)) kk le1 (exo_ok g1)
  have r2 : Vals (V.ref (hp.objs.size + 1) :: zs) (Value.ref (hp.objs.size + 1) :: ws) := .cons rfl hV
  have hR2 : Room k (X.A.under (.builtin "type.__call__" ⟨.ref C :: us, kw⟩)) := by
    have d1 : (X.A.under (.builtin "type.__call__" ⟨.ref C :: us, kw⟩)).depth = X.A.depth + 1 := by
      first | rfl | simp [Around.under, Code.weight, Code.isCreation, Code.isGuard, Code.isCaller, Code.frames, Code.isFrame, guardIds]
    have d2 : (X.A.under (.builtin "type.__call__" ⟨.ref C :: us, kw⟩)).units = X.A.units + 1 := by
      first | rfl | simp [Around.under, Code.cUnits, Code.frames, Code.isFrame]
    exact ⟨hR.hd, by have := hR.dp; rw [d1]; omega, by have := hR.un; rw [d2]; omega⟩
  have e0 := I2.env0
  have e1 : Env0 X.prog X.w X.K X.mg X.base (X.A.under (.builtin "type.__call__" ⟨.ref C :: us, kw⟩)) X.stack ⟨(hp.push (PySem.W.kdv_tup us)).push (PySem.HandSPX.excO C hp.objs.size), g, dr, t0, os⟩ (upd H (hp.objs.size + 1) (exo (hp.objs.size + 1) C none)) :=
    ⟨by first | exact e0.frames | (simpa [Around.under, Code.envs, Code.isFrame, pushEnvs] using e0.frames), e0.mod, e0.bs, e0.bsz, e0.funs, e0.frf, e0.hok, e0.bare⟩
  refine wpAny_call (PySem.Gk.call_kw FB hT hC (PySem.W.looks_findIn I.kIn N.at_) (fun self => PySem.W.bind_fn I.kIn self N.ty) hl
    (codeAny_mono (F.run _ X.stack _ _ ⟨Value.ref (hp.objs.size + 1) :: us, kw⟩ (Value.ref (hp.objs.size + 1) :: ws) _ _ E hR2 e1 (hB _ _ I2.kIn) r2 q1) fun r s' hq' => ?_))
  match r, hq' with
  | .error er, hq' => exact hx pins σ _ _ er s' I2 hq'
  | .ok (.ret u), hq' =>
    obtain ⟨v, H', I3, rv, ev, q3⟩ := I2.after hq'
    subst ev
    exact ⟨rv, ⟨V.ref (hp.objs.size + 1), H', I3, rfl, q3⟩⟩
  | .ok .next, hq' => exact False.elim hq'
  | .ok .brk, hq' => exact False.elim hq'
  | .ok .cont, hq' => exact False.elim hq'
theorem pe_err (N : Ini X.K C f) (F : FnOk X.prog X.w X.K X.mg X.base CX k f fd ps sp) (hR : Room (k + 1) X.A) (hg : Gl X x) (hm : X.mg x = some (.ref C)) (hb : Binds X.K fd ps []) (hx : Passes CX X E)
    (ha : PA X (e :: es) t) (hdb : (x == ("__debug__" : Str)) = false := by decide) (he : starEach (e :: es) X.env = (false, eval e X.env) :: starEach es X.env := by rfl) (hpl : (backTo pos (starEach es X.env)).any (·.1) = false := by rfl) :
    PE X (.Call (.Name x p) (e :: es) [] pos) (tErr C sp [] E t) := by
  constructor
  intro pins s σ H Q I h
  refine wpAny_Call_Name_kw (ld_glob I hg hm ?_ hdb)
  refine PySem.W.callWith_K (h₀ := X.base) I.ok.mod.kin N.xc.kp (thn (ha.run pos pins s σ H _ I h) fun us s2 z2 => ?_) he hpl
  obtain ⟨vs, H2, I2, r2, hz, q2⟩ := z2
  have el : us.length ≤ sizeLine := by
    rw [← Paired.length r2, sizeLine_eq]
    omega
  refine ⟨I2.kIn, ?_⟩
  have len : ∀ self : Value, ((self :: us) ++ ([] : List Value)).length = ps.length := fun self => by
    have q3 := F.len _ _ _ _ (q2 _ (I2.hok.fresh (Nat.le_refl _)))
    rw [List.append_nil] at q3 ⊢
    rw [← q3, List.length_cons, List.length_cons, ← Paired.length r2]
  refine run_err (ws := us) (zs := vs ++ []) N F hR hx I2 el (fun s' self ki => ?_) (by rw [List.append_nil]; exact r2) q2
  have := hb s' (self :: us) ki (len self)
  rw [List.append_nil] at this
  exact this
/-- how the keywords of C(k = v, ..) reach the parameters behind self -/
structure SBinds (K : PySem.W.Frag) (fd : FuncData) (ps ks : List Str) (g : List Value → List Value) (gV : List V → List V) : Prop where
  to : ∀ (s : Shared) (self : Value) (ws : List Value), K.In s.heap → ws.length = ks.length → BindsTo s fd ⟨[self], ks.zip ws⟩ (ps.zip (self :: g ws))
  rel : ∀ {zs : List V} {ws : List Value}, Vals zs ws → Vals (gV zs) (g ws)
def tErrK (C : Addr) (sp : Sp) (n : Nat) (gV : List V → List V) (E : XK) (tk : TA) : TE := fun σ H Q => tk σ H fun zs H1 => zs.length = n ∧ ∀ a, H1 a = none → sp (.ref a :: gV zs) (upd H1 a (exo a C none)) (fun v H2 => v = .non ∧ Q (.ref a) H2) E
theorem pe_errK {g : List Value → List Value} {gV : List V → List V} (N : Ini X.K C f) (F : FnOk X.prog X.w X.K X.mg X.base CX k f fd ps sp) (hR : Room (k + 1) X.A) (hg : Gl X x) (hm : X.mg x = some (.ref C)) (hb : SBinds X.K fd ps ks g gV) (hx : Passes CX X E)
    (hkw : PK X kws tk) (hall : (backToKw pos (keywordEach kws X.env)).all (·.1.isSome) = true := by rfl) (hks : (backToKw pos (keywordEach kws X.env)).filterMap (·.1) = ks := by rfl)
    (hdb : (x == ("__debug__" : Str)) = false := by decide)
    (hpl : ((backTo pos (starEach [] X.env)).any (·.1) || (backToKw pos (keywordEach kws X.env)).any (·.1.isNone)) = false := by rfl) :
    PE X (.Call (.Name x p) [] kws pos) (tErrK C sp ks.length gV E tk) := by
  constructor
  intro pins s σ H Q I h
  refine wpAny_Call_Name_kw (ld_glob I hg hm ?_ hdb)
  refine PySem.W.callWith_KW0 (first := []) (h₀ := X.base) I.ok.mod.kin N.xc.kp hall (thn (hkw.run pos pins s σ H _ I h) fun us s2 z2 => ?_) hpl
  obtain ⟨zs, H2, I2, r2, hz, q2⟩ := z2
  refine ⟨I2.kIn, ?_⟩
  rw [hks]
  have el : us.length = ks.length := by rw [← Paired.length r2]; exact hz
  exact run_err (us := []) (ws := g us) (zs := gV zs) N F hR hx I2 (Nat.zero_le _) (fun s' self ki => hb.to s' self us ki el) (hb.rel r2) q2
end
end Gd
set_option Elab.async false
set_option linter.all false
set_option maxRecDepth 100000
set_option maxHeartbeats 4000000
namespace Gd
open PySem PySem.Spec PyProof.Rows L2
open PySem.W (excInitIn excOver excTail)
theorem ErrAt.obj {P : Program} {w : World} {H : Hp} {h : Heap} {a C : Addr} {fs : List (Str × V)} (hok : HOk P w H h) (e : ErrAt H a C fs) :
    ∃ (ox od : Obj) (mA : Str → Option Value), PySem.W.InstAt h a ox C (some od) ∧ (∀ name, PySem.W.lookIn name od = some (mA name)) ∧ ∀ f, RelO (fs.lookup f) (mA f) := by
  obtain ⟨d, e1, e2⟩ := e
  obtain ⟨t1, ho⟩ := exo_at hok e1
  obtain ⟨mA, hns, rel⟩ := exd_at hok e2
  obtain ⟨od, hod, hl⟩ := lookIn_ns hns
  exact ⟨_, od, mA, ⟨ho, rfl, rfl, hod⟩, hl, rel⟩
/-- e.f of such an instance -/
def tEf (K : PySem.W.Frag) (f : Str) (te : TE) : TE := fun σ H Q => te σ H fun x H1 => ∃ (a C : Addr) (fs : List (Str × V)) (v : V), x = .ref a ∧ XC K C ∧ PySem.W.findIn K (.ref C) f = some none ∧ ErrAt H1 a C fs ∧ fs.lookup f = some v ∧ Q v H1
theorem pe_ef {X : Cx} {e : Expr} {te : TE} {pos : Pos} {f : Str} (he : PE X e te) (hb : attributeBase e f X.env (eval e X.env) = eval e X.env := by rfl) : PE X (.Attribute e f pos) (tEf X.K f te) := by
  constructor
  intro pins s σ H Q I h
  refine attr_of hb (thn (he.run pins s σ H _ I h) fun u s1 z => ?_)
  obtain ⟨x, H1, I1, rx, a, C, fs, v, ex, T, hno, ea, l, q⟩ := z
  subst ex
  have eu : u = Value.ref a := rx
  subst eu
  obtain ⟨ox, od, mA, J, hl, rel⟩ := ea.obj I1.hok
  obtain ⟨u2, hu, ru⟩ := RelO.some_of (v := v) (o := mA f) (by rw [← l]; exact rel f)
  exact HandSPX.exc_get I1.kIn J T.ga T.gg T.sB (PySem.W.findObj_own T.hd hno rfl (by rw [hl, hu])) (handed_of ru) ⟨v, H1, I1.tok _, ru, q⟩
/-- isinstance(e, c) of such an instance, or of one without fields -/
def rIsX (K : PySem.W.Frag) : List V → Hp → VK → Prop := fun xs H Q => ∃ (a C : Addr) (c : V) (u : Value) (b : Bool), xs = [.ref a, c] ∧ ClsV c u ∧ XC K C ∧ ((∃ fs, ErrAt H a C fs) ∨ H a = some (ExO (.ref C) a)) ∧ PySem.W.kitOne K (.ref C) u = some b ∧ Q (.bl b) H
theorem call_isX {X : Cx} : CallR X (.builtin "isinstance") (rIsX X.K) := by
  intro pins s σ H xs us Q I r h
  obtain ⟨a, C, c, u, b, rfl, k, T, ea, e, q⟩ := h
  obtain ⟨u1, u2, rfl, r1, r2⟩ := vals2 r
  have e2 := k.eq r2
  subst e2
  have e1 : u1 = Value.ref a := r1
  subst e1
  have hcl : (PySem.W.clsIn X.K C).isSome = true := by
    obtain ⟨cd, hc, _⟩ := PySem.W.any_some T.hd
    rw [hc]
    rfl
  rcases ea with ⟨fs, ea⟩ | ea
  · obtain ⟨ox, od, mA, J, hl, rel⟩ := ea.obj I.hok
    exact PySem.W.kia_one (PySem.W.kitx_exc hcl T.ga T.gg T.sB T.ca T.cn T.ct T.mo) I.kIn J e (fun z => nomatch z) fun tk => ⟨.bl b, H, I.tok tk, rfl, q⟩
  · obtain ⟨⟨oe, vs, ho, hz, hd, _⟩, _, _⟩ := (show ObjOk X.prog X.w H s.heap a (ExO (.ref C) a) from I.hok a _ ea)
    have J : PySem.W.InstAt s.heap a oe C none := by
      obtain ⟨oc, od, oda, osl⟩ := oe
      obtain ⟨h1, h2⟩ := hz
      dsimp only at h1 h2 hd
      subst h1 h2 hd
      exact ⟨ho, rfl, rfl, trivial⟩
    exact PySem.W.kia_one (PySem.W.kitx_exc hcl T.ga T.gg T.sB T.ca T.cn T.ct T.mo) I.kIn J e (fun z => nomatch z) fun tk => ⟨.bl b, H, I.tok tk, rfl, q⟩
/-- C() of a class without an __init__ of its own -/
theorem pe_err0 {X : Cx} {C : Addr} {bmB : List Value} {B nid iid : String} {x : Str} {p pos : Pos} (F : ExcBaseFacts B nid iid bmB) (q : PySem.W.excIn X.K C bmB nid = true) (gC : X.mg x = some (.ref C)) (kC : PySem.W.keepIn X.K (.ref C) = true) (hg : Gl X x)
    (hdb : (x == ("__debug__" : Str)) = false := by decide) : PE X (.Call (.Name x p) [] [] pos) (fun _ H Q => ∀ a, H a = none → Q (.ref a) (upd H a (ExO (.ref C) a))) := by
  constructor
  intro pins s σ H Q I h
  refine wpAny_Call_Name_kw (ld_glob I hg gC ?_ hdb)
  refine PySem.W.callWith_K0 I.kIn kC ?_
  show wpAny _ _ (call (.ref C) []) _ _ _
  obtain ⟨bm, N, nm, qn, bs, hdct, sn, sub, ab, col, dd, k0, k1, k2, k3, k5, mN, hC, hN, hni, T⟩ := exc_obj I.kIn q
  refine wpAny_call_exc_subT F T hC hN hni (fun h' a hm => ?_) (Nat.zero_le _)
  have hn : H a = none := I.hok.gone hm.new
  obtain ⟨t, ht, _, _⟩ := hm.there
  exact ⟨.ref a, upd H a (ExO (.ref C) a), I.laidN hm.keeps hm.new hn (exO_ok ht ⟨rfl, rfl⟩ rfl rfl rfl (show 4 < 6 by decide)), rfl, h a hn⟩
/-! ### list.count of a bool among bools -/
theorem countU {us : List Value} {bs : List Bool} (r : Vals (bs.map V.bl) us) : us.countP (eqU (.bl true)) = bs.count true := by
  induction bs generalizing us with
  | nil => cases r; rfl
  | cons b bs ih =>
    cases r with
    | cons r1 r2 =>
      rw [List.countP_cons, List.count_cons, ih r2, eqU_of r1 rfl]
      cases b <;> rfl
theorem mt_bcount {X : Cx} : MtR X "list.count" (fun x xs H Q => ∃ (p : Addr) (bs : List Bool), x = .ref p ∧ xs = [.bl true] ∧ SqL X.K H p (bs.map V.bl) ∧ Q (.int (bs.count true : Nat)) H) := by
  intro pins s σ H x xs v us Q I rx rxs h
  obtain ⟨p, bs, rfl, rfl, hs, q⟩ := h
  cases rx
  obtain ⟨u, rfl, ru⟩ := rxs.one
  obtain ⟨its, rv, ⟨⟨cls, dd, data, sl⟩, n, ho, hc, hdn, hd⟩, hlen⟩ := I.list hs
  simp only at hc hd
  subst hc hd
  have fl : (bs.map V.bl).all flatV = true := by
    rw [List.all_map, List.all_eq_true]
    intro b _
    rfl
  refine call_meets PySem.F.slot_list_count ⟨_, ho, rfl⟩ PySem.F.entry_list_count (PySem.F.args_list_count_2 _ _)
    (SeqAt.list_countAt p its.toArray n dd sl u (eqU (.bl true))) ⟨ho, fun y hy => mem_eqAt ru rfl rv fl y (by simpa using hy), ?_⟩
  have ec : its.toArray.toList.countP (eqU (.bl true)) = bs.count true := countU rv
  refine ⟨.int (bs.count true : Nat), H, I.tok _, ⟨s.toks, ?_⟩, q⟩
  show Value.int ((its.toArray.toList.countP (eqU (.bl true)) : Nat) : Int) s.toks = Value.int ((bs.count true : Nat) : Int) s.toks
  rw [ec]
end Gd
set_option Elab.async false
set_option linter.all false
set_option maxRecDepth 100000
set_option maxHeartbeats 4000000
namespace Gd
open PySem PySem.Spec PyProof.Rows L2
theorem PE.imp {X : Cx} {e : Expr} {t t' : TE} (h : PE X e t) (q : ∀ σ H Q, t' σ H Q → t σ H Q) : PE X e t' := ⟨fun pins s σ H Q I z => h.run pins s σ H Q I (q σ H Q z)⟩
theorem PA.imp {X : Cx} {es : List Expr} {t t' : TA} (h : PA X es t) (q : ∀ σ H Q, t' σ H Q → t σ H Q) : PA X es t' := ⟨fun pos pins s σ H Q I z => h.run pos pins s σ H Q I (q σ H Q z)⟩
theorem same_rfl {H : Hp} : Same H H := fun _ _ e => e

/-! ### a class with one field, with two -/
def spI1 (C : Addr) (f : Str) : Sp := fun vs H Q _ => ∃ (a : Addr) (v : V), vs = [.ref a, v] ∧ H a = some (exo a C none) ∧ ∀ d, H d = none → d ≠ a → Q .non (upd (upd H d (exd d [(f, v)])) a (exo a C (some d)))
def spI2 (C : Addr) (f g : Str) : Sp := fun vs H Q _ => ∃ (a : Addr) (v u : V), vs = [.ref a, v, u] ∧ H a = some (exo a C none) ∧ ∀ d, H d = none → d ≠ a → Q .non (upd (upd (upd H d (exd d [(f, v)])) a (exo a C (some d))) d (exd d [(g, u), (f, v)]))
section
variable {P : Program} {w : World} {K : PySem.W.Frag} {mg : Str → Option Value} {base : Heap}
theorem ok_i1 {qn f : Str} {st : Stmt} {fa C : Addr} {fd : FuncData} {p1 p2 p3 p4 : Pos} (F : Fun K "__init__" qn st fa fd) (S : FnScope ["self", f] ["self", f] (defScope st)) (hb : defBody st = [.Assign [.Attribute (.Name "self" p1) f p2] (.Name f p3) p4])
    (hd : (f == ("__debug__" : Str)) = false) (hc : (f == ("__classdict__" : Str)) = false) (hs : ∀ env : Env, swapsWith (.Name f p3) (some (.Attribute (.Name "self" p1) f p2)) p4.line env = pure false) (T : XC K C) (ht : PySem.W.takerIn K C f = some none) : FnOk P w K mg base CX0 1 fa fd ["self", f] (spI1 C f) := by
  refine F.ok S (fun vs H Q E h => ?_) (fun cv A ou s H vs Q E hr h => ?_)
  · obtain ⟨a, v, rfl, _⟩ := h
    rfl
  obtain ⟨a, v, rfl, ea, q⟩ := h
  rw [hb]
  refine ⟨_, pss_one (ps_est (pe_var (i := 0) rfl ((S.par "self" (List.Mem.head _)).elim (fun z => .inl z) (fun z => .inr (.inl z)))) (pe_var (i := 1) rfl ((S.par f (.tail _ (List.Mem.head _))).elim (fun z => .inl z) (fun z => .inr (.inl z))) hd hc) (hs _)), ?_⟩
  exact ⟨v, rfl, .ref a, rfl, a, C, rfl, T, ht, .inl ⟨ea, q⟩⟩
theorem ok_i2 {qn f g : Str} {st : Stmt} {fa C : Addr} {fd : FuncData} {p1 p2 p3 p4 p5 p6 p7 p8 : Pos} (F : Fun K "__init__" qn st fa fd) (S : FnScope ["self", f, g] ["self", f, g] (defScope st))
    (hb : defBody st = [.Assign [.Attribute (.Name "self" p1) f p2] (.Name f p3) p4, .Assign [.Attribute (.Name "self" p5) g p6] (.Name g p7) p8])
    (hd : (f == ("__debug__" : Str)) = false) (hc : (f == ("__classdict__" : Str)) = false) (hd2 : (g == ("__debug__" : Str)) = false) (hc2 : (g == ("__classdict__" : Str)) = false)
    (hs : ∀ env : Env, swapsWith (.Name f p3) (some (.Attribute (.Name "self" p1) f p2)) p4.line env = pure false) (hs2 : ∀ env : Env, swapsWith (.Name g p7) (some (.Attribute (.Name "self" p5) g p6)) p8.line env = pure false)
    (T : XC K C) (ht : PySem.W.takerIn K C f = some none) (ht2 : PySem.W.takerIn K C g = some none) : FnOk P w K mg base CX0 1 fa fd ["self", f, g] (spI2 C f g) := by
  refine F.ok S (fun vs H Q E h => ?_) (fun cv A ou s H vs Q E hr h => ?_)
  · obtain ⟨a, v, u, rfl, _⟩ := h
    rfl
  obtain ⟨a, v, u, rfl, ea, q⟩ := h
  have v0 : ∀ {x : Str}, x ∈ (["self", f, g] : List Str) → Vis (defScope st) x := fun h => (S.par _ h).elim (fun z => .inl z) (fun z => .inr (.inl z))
  rw [hb]
  refine ⟨_, pss_cons (ps_est (pe_var (i := 0) rfl (v0 (by simp))) (pe_var (i := 1) rfl (v0 (by simp)) hd hc) (hs _)) (pss_one (ps_est (pe_var (i := 0) rfl (v0 (by simp))) (pe_var (i := 2) rfl (v0 (by simp)) hd2 hc2) (hs2 _))), ?_⟩
  refine ⟨v, rfl, .ref a, rfl, a, C, rfl, T, ht, .inl ⟨ea, fun d hd hda => ?_⟩⟩
  refine ⟨u, rfl, .ref a, rfl, a, C, rfl, T, ht2, .inr ⟨d, [(f, v)], upd_same, ?_, Nat.le_of_ble_eq_true rfl, q d hd hda⟩⟩
  rw [upd_ne hda, upd_same]
/-- what the law knows of a class with one field (two) -/
structure One (P : Program) (w : World) (K : PySem.W.Frag) (mg : Str → Option Value) (base : Heap) (nm f : Str) (C : Addr) : Prop where
  gl : mg nm = some (.ref C)
  ini : ∃ (fa : Addr) (fd : FuncData), Ini K C fa ∧ FnOk P w K mg base CX0 1 fa fd ["self", f] (spI1 C f) ∧ Binds K fd ["self", f] [] ∧ SBinds K fd ["self", f] [f] (fun x => x) (fun x => x)
  no : PySem.W.findIn K (.ref C) f = some none
structure Two (P : Program) (w : World) (K : PySem.W.Frag) (mg : Str → Option Value) (base : Heap) (nm f g : Str) (C : Addr) : Prop where
  gl : mg nm = some (.ref C)
  ini : ∃ (fa : Addr) (fd : FuncData), Ini K C fa ∧ FnOk P w K mg base CX0 1 fa fd ["self", f, g] (spI2 C f g) ∧ Binds K fd ["self", f, g] [] ∧ SBinds K fd ["self", f, g] [g, f] (fun x => x.reverse) (fun x => x.reverse)
  nof : PySem.W.findIn K (.ref C) f = some none
  nog : PySem.W.findIn K (.ref C) g = some none
theorem One.xc {nm f : Str} {C : Addr} (O : One P w K mg base nm f C) : XC K C := by
  obtain ⟨_, _, N, _⟩ := O.ini
  exact N.xc
theorem Two.xc {nm f g : Str} {C : Addr} (O : Two P w K mg base nm f g C) : XC K C := by
  obtain ⟨_, _, N, _⟩ := O.ini
  exact N.xc
end
theorem made1 {H : Hp} {a d C : Addr} {f : Str} {v : V} (ha : H a = none) (hd : upd H a (exo a C none) d = none) (n : d ≠ a) :
    Same H (upd (upd (upd H a (exo a C none)) d (exd d [(f, v)])) a (exo a C (some d))) ∧ ErrAt (upd (upd (upd H a (exo a C none)) d (exd d [(f, v)])) a (exo a C (some d))) a C [(f, v)] := by
  rw [upd_ne n] at hd
  refine ⟨fun b o e => ?_, d, upd_same, ?_⟩
  · rw [upd_ne (ne_of_none e ha), upd_ne (ne_of_none e hd), upd_ne (ne_of_none e ha)]
    exact e
  · rw [upd_ne n, upd_same]
theorem made2 {H : Hp} {a d C : Addr} {f g : Str} {v u : V} (ha : H a = none) (hd : upd H a (exo a C none) d = none) (n : d ≠ a) :
    Same H (upd (upd (upd (upd H a (exo a C none)) d (exd d [(f, v)])) a (exo a C (some d))) d (exd d [(g, u), (f, v)])) ∧ ErrAt (upd (upd (upd (upd H a (exo a C none)) d (exd d [(f, v)])) a (exo a C (some d))) d (exd d [(g, u), (f, v)])) a C [(g, u), (f, v)] := by
  rw [upd_ne n] at hd
  refine ⟨fun b o e => ?_, d, ?_, upd_same⟩
  · rw [upd_ne (ne_of_none e hd), upd_ne (ne_of_none e ha), upd_ne (ne_of_none e hd), upd_ne (ne_of_none e ha)]
    exact e
  · rw [upd_ne n.symm, upd_same]
/-- C(x), C(f = x), x a name: a new instance -/
def tOne (C : Addr) (f : Str) (j : Nat) : TE := fun σ H Q => ∃ v, σ[j]? = some (some v) ∧ ∀ a H', Same H H' → H a = none → ErrAt H' a C [(f, v)] → Q (.ref a) H'
def tTwo (C : Addr) (f g : Str) (i j : Nat) : TE := fun σ H Q => ∃ v u, σ[i]? = some (some v) ∧ σ[j]? = some (some u) ∧ ∀ a H', Same H H' → H a = none → ErrAt H' a C [(g, u), (f, v)] → Q (.ref a) H'
section
variable {X : Cx} {nm f g : Str} {C : Addr} {e e2 : Expr} {i j : Nat} {p pos k1 k2 : Pos}
theorem pe_one (O : One X.prog X.w X.K X.mg X.base nm f C) (hR : Room 2 X.A) (hg : Gl X nm) (he : PE X e (tVar j)) (hdb : (nm == ("__debug__" : Str)) = false := by decide) (hs : starEach [e] X.env = (false, eval e X.env) :: starEach [] X.env := by rfl)
    (hpl : (backTo pos (starEach [] X.env)).any (·.1) = false := by rfl) : PE X (.Call (.Name nm p) [e] [] pos) (tOne C f j) := by
  obtain ⟨fa, fd, N, F, b, sb⟩ := O.ini
  refine PE.imp (pe_err N F hR hg O.gl b pass0 (pa_cons he pa_nil hs) hdb hs hpl) fun σ H Q z => ?_
  obtain ⟨v, hv, q⟩ := z
  refine ⟨v, hv, Nat.le_of_ble_eq_true rfl, fun a ha => ⟨a, v, rfl, upd_same, fun d hd hda => ⟨rfl, ?_⟩⟩⟩
  obtain ⟨m1, m2⟩ := made1 (f := f) (v := v) ha hd hda
  exact q a _ m1 ha m2
theorem pe_oneK (O : One X.prog X.w X.K X.mg X.base nm f C) (hR : Room 2 X.A) (hg : Gl X nm) (he : PE X e (tVar j)) (hdb : (nm == ("__debug__" : Str)) = false := by decide)
    (hall : (backToKw pos (keywordEach [⟨some f, e, k1⟩] X.env)).all (·.1.isSome) = true := by rfl) (hks : (backToKw pos (keywordEach [⟨some f, e, k1⟩] X.env)).filterMap (·.1) = [f] := by rfl)
    (hpl : ((backTo pos (starEach [] X.env)).any (·.1) || (backToKw pos (keywordEach [⟨some f, e, k1⟩] X.env)).any (·.1.isNone)) = false := by rfl) : PE X (.Call (.Name nm p) [] [⟨some f, e, k1⟩] pos) (tOne C f j) := by
  obtain ⟨fa, fd, N, F, b, sb⟩ := O.ini
  refine PE.imp (pe_errK N F hR hg O.gl sb pass0 (pk_cons he pk_nil) hall hks hdb hpl) fun σ H Q z => ?_
  obtain ⟨v, hv, q⟩ := z
  refine ⟨v, hv, rfl, fun a ha => ⟨a, v, rfl, upd_same, fun d hd hda => ⟨rfl, ?_⟩⟩⟩
  obtain ⟨m1, m2⟩ := made1 (f := f) (v := v) ha hd hda
  exact q a _ m1 ha m2
theorem pe_two (O : Two X.prog X.w X.K X.mg X.base nm f g C) (hR : Room 2 X.A) (hg : Gl X nm) (he : PE X e (tVar i)) (he2 : PE X e2 (tVar j)) (hdb : (nm == ("__debug__" : Str)) = false := by decide) (hs : starEach [e, e2] X.env = (false, eval e X.env) :: starEach [e2] X.env := by rfl)
    (hs2 : starEach [e2] X.env = (false, eval e2 X.env) :: starEach [] X.env := by rfl) (hpl : (backTo pos (starEach [e2] X.env)).any (·.1) = false := by rfl) : PE X (.Call (.Name nm p) [e, e2] [] pos) (tTwo C f g i j) := by
  obtain ⟨fa, fd, N, F, b, sb⟩ := O.ini
  refine PE.imp (pe_err N F hR hg O.gl b pass0 (pa_cons he (pa_cons he2 pa_nil hs2) hs) hdb hs hpl) fun σ H Q z => ?_
  obtain ⟨v, u, hv, hu, q⟩ := z
  refine ⟨v, hv, u, hu, Nat.le_of_ble_eq_true rfl, fun a ha => ⟨a, v, u, rfl, upd_same, fun d hd hda => ⟨rfl, ?_⟩⟩⟩
  obtain ⟨m1, m2⟩ := made2 (f := f) (g := g) (v := v) (u := u) ha hd hda
  exact q a _ m1 ha m2
theorem pe_twoK (O : Two X.prog X.w X.K X.mg X.base nm f g C) (hR : Room 2 X.A) (hg : Gl X nm) (he : PE X e (tVar i)) (he2 : PE X e2 (tVar j)) (hdb : (nm == ("__debug__" : Str)) = false := by decide)
    (hall : (backToKw pos (keywordEach [⟨some g, e2, k1⟩, ⟨some f, e, k2⟩] X.env)).all (·.1.isSome) = true := by rfl) (hks : (backToKw pos (keywordEach [⟨some g, e2, k1⟩, ⟨some f, e, k2⟩] X.env)).filterMap (·.1) = [g, f] := by rfl)
    (hpl : ((backTo pos (starEach [] X.env)).any (·.1) || (backToKw pos (keywordEach [⟨some g, e2, k1⟩, ⟨some f, e, k2⟩] X.env)).any (·.1.isNone)) = false := by rfl) : PE X (.Call (.Name nm p) [] [⟨some g, e2, k1⟩, ⟨some f, e, k2⟩] pos) (tTwo C f g i j) := by
  obtain ⟨fa, fd, N, F, b, sb⟩ := O.ini
  refine PE.imp (pe_errK N F hR hg O.gl sb pass0 (pk_cons he2 (pk_cons he pk_nil)) hall hks hdb hpl) fun σ H Q z => ?_
  obtain ⟨v, u, hv, hu, q⟩ := z
  refine ⟨u, hu, v, hv, rfl, fun a ha => ⟨a, v, u, rfl, upd_same, fun d hd hda => ⟨rfl, ?_⟩⟩⟩
  obtain ⟨m1, m2⟩ := made2 (f := f) (g := g) (v := v) (u := u) ha hd hda
  exact q a _ m1 ha m2
end
/-! ### a row of such: instances of Cs with the field f holding v -/
abbrev Er (H : Hp) (f : Str) (v : V) (x : V) (C : Addr) : Prop := ∃ a, x = .ref a ∧ ErrAt H a C [(f, v)]
abbrev Errs (H : Hp) (f : Str) (v : V) (xs : List V) (Cs : List Addr) : Prop := Paired (Er H f v) xs Cs
theorem Errs.keep {H H' : Hp} {f : Str} {v : V} {xs : List V} {Cs : List Addr} (h : Errs H f v xs Cs) (s : Same H H') : Errs H' f v xs Cs :=
  Paired.mapP h fun x C ⟨a, e, k⟩ => ⟨a, e, k.keep s⟩
theorem Errs.app {H : Hp} {f : Str} {v : V} : ∀ {xs : List V} {Cs : List Addr} {ys : List V} {Ds : List Addr}, Errs H f v xs Cs → Errs H f v ys Ds → Errs H f v (xs ++ ys) (Cs ++ Ds)
  | _, _, _, _, .nil, h => h
  | _, _, _, _, .cons r t, h => .cons r (Errs.app t h)
def tOnes (f : Str) (j : Nat) (Cs : List Addr) : TA := fun σ H Q => ∃ v, σ[j]? = some (some v) ∧ ∀ xs H', Same H H' → Errs H' f v xs Cs → Q xs H'
theorem po_nil1 {X : Cx} {f : Str} {j : Nat} : PA X [] (tOnes f j []) := PA.imp pa_nil fun σ H Q ⟨v, _, q⟩ => q [] H same_rfl .nil
theorem po_cons1 {X : Cx} {f : Str} {j : Nat} {C : Addr} {Cs : List Addr} {e : Expr} {es : List Expr} (he : PE X e (tOne C f j)) (hr : PA X es (tOnes f j Cs)) (hs : starEach (e :: es) X.env = (false, eval e X.env) :: starEach es X.env := by rfl) :
    PA X (e :: es) (tOnes f j (C :: Cs)) :=
  PA.imp (pa_cons he hr hs) fun σ H Q ⟨v, hv, q⟩ => ⟨v, hv, fun a H1 s1 n1 e1 => ⟨v, hv, fun xs H2 s2 e2 => q _ H2 (s1.trans s2) (.cons ⟨a, rfl, e1.keep s2⟩ e2)⟩⟩
/-! ### isinstance asked of one name, for a row of classes -/
def IsAt (K : PySem.W.Frag) (H : Hp) (x : V) (C : Addr) : Prop := ∃ a, x = .ref a ∧ XC K C ∧ ((∃ fs, ErrAt H a C fs) ∨ H a = some (ExO (.ref C) a))
theorem IsAt.keep {K : PySem.W.Frag} {H H' : Hp} {x : V} {C : Addr} (h : IsAt K H x C) (s : Same H H') : IsAt K H' x C := by
  obtain ⟨a, e, T, q⟩ := h
  refine ⟨a, e, T, ?_⟩
  rcases q with ⟨fs, q⟩ | q
  · exact .inl ⟨fs, q.keep s⟩
  · exact .inr (s _ _ q)
def tIss (K : PySem.W.Frag) (j : Nat) (us : List Value) : TA := fun σ H Q => ∃ (x : V) (C : Addr) (bs : List Bool), σ[j]? = some (some x) ∧ IsAt K H x C ∧ us.map (PySem.W.kitOne K (.ref C)) = bs.map some ∧ Q (bs.map V.bl) H
theorem pi_nil1 {X : Cx} {j : Nat} : PA X [] (tIss X.K j []) := PA.imp pa_nil fun σ H Q ⟨x, C, bs, _, _, e, q⟩ => by
  cases bs with
  | nil => exact q
  | cons b r => cases e
theorem pi_cons1 {X : Cx} {j : Nat} {e c : Expr} {cv : V} {u : Value} {us : List Value} {es : List Expr} {p pos : Pos} (hg : Gl X "isinstance") (hm : X.mg "isinstance" = none) (he : PE X e (tVar j)) (hc : PE X c (tC cv)) (k : ClsV cv u) (hr : PA X es (tIss X.K j us))
    (hs : starEach (.Call (.Name "isinstance" p) [e, c] [] pos :: es) X.env = (false, eval (.Call (.Name "isinstance" p) [e, c] [] pos) X.env) :: starEach es X.env := by rfl) (hs1 : starEach [e, c] X.env = (false, eval e X.env) :: starEach [c] X.env := by rfl) (hs2 : starEach [c] X.env = (false, eval c X.env) :: starEach [] X.env := by rfl) (hpl : (backTo pos (starEach [c] X.env)).any (·.1) = false := by rfl) :
    PA X (.Call (.Name "isinstance" p) [e, c] [] pos :: es) (tIss X.K j (u :: us)) :=
  PA.imp (pa_cons (pe_callB call_isX hg hm boot_isinstance (pa_cons he (pa_cons hc pa_nil hs2) hs1) (by decide) (by decide) hs1 hpl) hr hs) fun σ H Q ⟨x, C, bs, hx, hi, e, q⟩ => by
    cases bs with
    | nil => cases e
    | cons b r =>
      have e1 : PySem.W.kitOne X.K (.ref C) u = some b := (List.cons.inj e).1
      have e2 : us.map (PySem.W.kitOne X.K (.ref C)) = r.map some := (List.cons.inj e).2
      obtain ⟨a, ea, T, z⟩ := hi
      subst ea
      exact ⟨.ref a, hx, a, C, cv, u, b, rfl, k, T, z, e1, .ref a, C, r, hx, ⟨a, rfl, T, z⟩, e2, q⟩
end Gd
set_option Elab.async false
set_option linter.all false
set_option maxRecDepth 100000
set_option maxHeartbeats 4000000
namespace Gd
open PySem PySem.Spec PyProof.Rows L2
theorem yes_of {σ : L2.St} {H : Hp} {Q : Bool → Hp → Prop} (h : Q true H) : tYes σ H Q := h
theorem yes_if {σ : L2.St} {H : Hp} {A B : Hp → Prop} (h : A H) : tYes σ H (fun b H3 => if b = true then A H3 else B H3) := yes_of (iteT (A := A H) (B := B H) h)
/-- a comprehension over a list: one name as the target, no test -/
theorem lc_listY {K : PySem.W.Frag} {a : Addr} {xs : List V} {j : Nat} {te : TE} {vs : List Nat} {σ : L2.St} {H1 : Hp} {D : Addr} {Qd : Hp → Prop} (Pv : Nat → Hp → Prop) (hw : ∀ v, wipe ((wipe σ vs).set j (some v)) vs = wipe σ vs) (h0 : Pv 0 (upd H1 D (.lst []))) (hl : ∀ i H, i ≤ xs.length → Pv i H → SqL K H a xs)
    (hs : ∀ (i : Nat) (x : V) (H : Hp), xs[i]? = some x → Pv i H → te ((wipe σ vs).set j (some x)) H fun y H4 => ∃ acc, H4 D = some (.lst acc) ∧ acc.length < sizeLine ∧ Pv (i + 1) (upd H4 D (.lst (acc ++ [y]))))
    (hd : ∀ H, Pv xs.length H → Qd H) : ∃ W : Nat → Nat → Hp → Prop, (∃ m, W 0 m (upd H1 D (.lst []))) ∧ ∀ i m H, W i m H →
      ((Itl K a).stop i H ∧ Qd H) ∨ ((Itl K a).go i H ∧ ∃ Nx : Hp → Prop, (∀ H', Nx H' → ∃ m', m' < m ∧ W (i + 1) m' H') ∧ ∀ v H', (Itl K a).yld i H v H' → gName j v (wipe σ vs) H' fun τ H2 => wipe τ vs = wipe σ vs ∧ tYes τ H2 fun b H3 =>
        if b = true then te τ H3 fun y H4 => ∃ acc, H4 D = some (.lst acc) ∧ acc.length < sizeLine ∧ Nx (upd H4 D (.lst (acc ++ [y]))) else Nx H3) :=
  lc_list Pv h0 hl (fun i x H e p => ⟨hw _, yes_if (hs i x H e p)⟩) hd
/-- the same, each element worth the same thing y, what stood stands -/
theorem lc_same {K : PySem.W.Frag} {a : Addr} {xs : List V} {y : V} {j : Nat} {te : TE} {vs : List Nat} {σ : L2.St} {H1 : Hp} {D : Addr} {Qd : Hp → Prop} (hw : ∀ v, wipe ((wipe σ vs).set j (some v)) vs = wipe σ vs) (nD : H1 D = none) (hx : SqL K H1 a xs) (hz : xs.length ≤ 1000)
    (hs : ∀ (i : Nat) (x : V) (H : Hp), xs[i]? = some x → Same H1 H → ∀ q : VK, (∀ H4, Same H H4 → q y H4) → te ((wipe σ vs).set j (some x)) H q)
    (hd : ∀ H, Same H1 H → H D = some (.lst (List.replicate xs.length y)) → Qd H) : ∃ W : Nat → Nat → Hp → Prop, (∃ m, W 0 m (upd H1 D (.lst []))) ∧ ∀ i m H, W i m H →
      ((Itl K a).stop i H ∧ Qd H) ∨ ((Itl K a).go i H ∧ ∃ Nx : Hp → Prop, (∀ H', Nx H' → ∃ m', m' < m ∧ W (i + 1) m' H') ∧ ∀ v H', (Itl K a).yld i H v H' → gName j v (wipe σ vs) H' fun τ H2 => wipe τ vs = wipe σ vs ∧ tYes τ H2 fun b H3 =>
        if b = true then te τ H3 fun y H4 => ∃ acc, H4 D = some (.lst acc) ∧ acc.length < sizeLine ∧ Nx (upd H4 D (.lst (acc ++ [y]))) else Nx H3) := by
  refine lc_listY (fun i H => i ≤ xs.length ∧ Same H1 H ∧ H D = some (.lst (List.replicate i y))) hw ⟨Nat.zero_le _, fun b o e => ?_, upd_same⟩ (fun i H _ p => p.2.1.seq hx) ?_ fun H p => hd H p.2.1 p.2.2
  · rw [upd_ne (ne_of_none e nD)]
    exact e
  · rintro i x H e ⟨hi, s, eD⟩
    have hlt : i < xs.length := (List.getElem?_eq_some_iff.mp e).1
    refine hs i x H e s _ fun H4 s4 => ⟨_, s4 _ _ eD, ?_, hlt, fun b o e2 => ?_, ?_⟩
    · rw [List.length_replicate]
      exact small1000 (by omega)
    · rw [upd_ne (ne_of_none e2 nD)]
      exact s4 _ _ (s _ _ e2)
    · rw [upd_same, List.replicate_succ']
/-! ### how long a list is shown -/
theorem textFrom_le : ∀ (ts : List Str) (k : Nat) (acc : Str) (b : Nat), (∀ t ∈ ts, t.length ≤ b) → (textFrom k acc ts).length ≤ acc.length + ts.length * (b + 2)
  | [], k, acc, b, _ => by show acc.length ≤ _; omega
  | t :: r, k, acc, b, h => by
    have ih := textFrom_le r (k + 1) (acc ++ (if k > 0 then ", " else "" : String) ++ t) b fun x hx => h x (List.mem_cons_of_mem _ hx)
    have ht := h t (List.mem_cons_self ..)
    have e : (acc ++ ((if k > 0 then ", " else "" : String) : Str) ++ t).length ≤ acc.length + 2 + t.length := by
      rw [Str.length_append, Str.length_append]
      have : (((if k > 0 then ", " else "" : String) : Str)).length ≤ 2 := by split <;> decide +kernel
      omega
    show (textFrom (k + 1) (acc ++ (if k > 0 then ", " else "" : String) ++ t) r).length ≤ _
    rw [List.length_cons, Nat.add_mul, Nat.one_mul]
    omega
theorem listText_le {ts : List Str} {b : Nat} (h : ∀ t ∈ ts, t.length ≤ b) : (listText ts).length ≤ 2 + ts.length * (b + 2) := by
  have := textFrom_le ts 0 "[" b h
  have e1 : (Str.ofString "[").length = 1 := by decide +kernel
  have e2 : (Str.ofString "]").length = 1 := by decide +kernel
  show (textFrom 0 "[" ts ++ "]").length ≤ _
  rw [Str.length_append]
  have e3 : (textFrom 0 (Str.ofString "[") ts).length ≤ (Str.ofString "[").length + ts.length * (b + 2) := this
  show (textFrom 0 (Str.ofString "[") ts).length + (Str.ofString "]").length ≤ _
  omega
/-- a thing that is shown in few signs -/
structure Sh (K : PySem.W.Frag) (H : Hp) (v : V) (d : PyData) : Prop where
  at_ : Dp K H v d
  sh : d.showable = true
  nd : d.hasDict = false
  dp : d.depth ≤ 20
  ln : d.shown.length ≤ 100
theorem shownAll_map : ∀ ds : List PyData, PyData.shownAll ds = ds.map PyData.shown
  | [] => rfl
  | d :: r => by rw [PyData.shownAll, shownAll_map r]; rfl
theorem sh_list {ds : List PyData} (h : ∀ d ∈ ds, d.showable = true ∧ d.hasDict = false ∧ d.depth ≤ 20 ∧ d.shown.length ≤ 100) (hl : ds.length ≤ 100) :
    (PyData.list ds).showable = true ∧ (PyData.list ds).hasDict = false ∧ (PyData.list ds).depth ≤ 60 ∧ (PyData.list ds).shown.length ≤ sizeLine := by
  have h1 : ∀ ds : List PyData, (∀ d ∈ ds, d.showable = true) → PyData.showableAll ds = true := by
    intro ds h
    induction ds with
    | nil => rfl
    | cons d r ih => rw [PyData.showableAll, h d (List.mem_cons_self ..), ih fun x hx => h x (List.mem_cons_of_mem _ hx)]; rfl
  have h2 : ∀ ds : List PyData, (∀ d ∈ ds, d.hasDict = false) → PyData.hasDictAll ds = false := by
    intro ds h
    induction ds with
    | nil => rfl
    | cons d r ih => rw [PyData.hasDictAll, h d (List.mem_cons_self ..), ih fun x hx => h x (List.mem_cons_of_mem _ hx)]; rfl
  have h3 : ∀ ds : List PyData, (∀ d ∈ ds, d.depth ≤ 20) → PyData.depthAll ds ≤ 21 := by
    intro ds h
    induction ds with
    | nil => show 0 ≤ _; omega
    | cons d r ih =>
      have a := h d (List.mem_cons_self ..)
      have b := ih fun x hx => h x (List.mem_cons_of_mem _ hx)
      rw [PyData.depthAll]
      omega
  refine ⟨?_, ?_, ?_, ?_⟩
  · rw [PyData.showable]
    exact h1 ds fun d hd => (h d hd).1
  · rw [PyData.hasDict]
    exact h2 ds fun d hd => (h d hd).2.1
  · have := h3 ds fun d hd => (h d hd).2.2.1
    rw [PyData.depth]
    omega
  · rw [PyData.shown]
    have := listText_le (ts := PyData.shownAll ds) (b := 100) (by
      rw [shownAll_map]
      intro t ht
      obtain ⟨d, hd, rfl⟩ := List.mem_map.mp ht
      exact (h d hd).2.2.2)
    rw [shownAll_map, List.length_map] at this
    have z : ds.length * 102 ≤ 100 * 102 := Nat.mul_le_mul_right _ hl
    have w := sizeLine_eq
    rw [shownAll_map]
    omega
theorem sh_rep {K : PySem.W.Frag} {H : Hp} {v : V} {d : PyData} (S : Sh K H v d) : ∀ n, DpAll K H (List.replicate n v) (List.replicate n d)
  | 0 => .nil
  | n + 1 => .cons S.at_ (sh_rep S n)
end Gd
set_option Elab.async false
set_option linter.all false
set_option maxRecDepth 100000
set_option maxHeartbeats 4000000
/-! comprehensions over a tuple, a list: one name as the target, a test, each element's answer and value known -/
namespace Gd
open PySem PySem.Spec PyProof.Rows L2
theorem asTE {X : Cx} {e : Expr} {te te' : TE} (h : PE X e te') (q : te' = te) : PE X e te := q ▸ h
def picked (zs : List (Bool × V)) : List V := (zs.filter (·.1)).map (·.2)
theorem picked_take {zs : List (Bool × V)} {i : Nat} {z : Bool × V} (h : zs[i]? = some z) : picked (zs.take (i + 1)) = picked (zs.take i) ++ (if z.1 = true then [z.2] else []) := by
  unfold picked
  rw [List.take_add_one, h, List.filter_append, List.map_append]
  congr 1
  cases hb : z.1 <;> simp [hb]
theorem picked_len (zs : List (Bool × V)) : (picked zs).length ≤ zs.length := by
  unfold picked
  rw [List.length_map]
  exact List.length_filter_le ..
theorem picked_all {zs : List V} : picked (zs.map fun z => (true, z)) = zs := by
  unfold picked
  induction zs with
  | nil => rfl
  | cons z r ih => simpa using ih
section
variable {K : PySem.W.Frag} {a : Addr} {xs : List V} {zs : List (Bool × V)} {j : Nat} {tt : TT} {te : TE} {vs : List Nat} {σ : L2.St} {H1 : Hp} {D : Addr} {Qd : Hp → Prop}
theorem sel_step (hw : ∀ v, wipe ((wipe σ vs).set j (some v)) vs = wipe σ vs) (nD : H1 D = none) (hz : xs.length ≤ 1000) (hl : zs.length = xs.length)
    (hs : ∀ (i : Nat) (x : V) (z : Bool × V) (H : Hp), xs[i]? = some x → zs[i]? = some z → Same H1 H → ∀ q : Bool → Hp → Prop, (∀ H3, Same H H3 → q z.1 H3) → tt ((wipe σ vs).set j (some x)) H q)
    (he : ∀ (i : Nat) (x : V) (z : Bool × V) (H : Hp), xs[i]? = some x → zs[i]? = some z → z.1 = true → Same H1 H → ∀ q : VK, (∀ H4, Same H H4 → q z.2 H4) → te ((wipe σ vs).set j (some x)) H q)
    (i : Nat) (x : V) (H : Hp) (hx : xs[i]? = some x) (p : i ≤ xs.length ∧ Same H1 H ∧ H D = some (.lst (picked (zs.take i)))) :
    gName j x (wipe σ vs) H fun τ H2 => wipe τ vs = wipe σ vs ∧ tt τ H2 fun b H3 =>
      if b = true then te τ H3 fun y H4 => ∃ acc, H4 D = some (.lst acc) ∧ acc.length < sizeLine ∧ (fun i H => i ≤ xs.length ∧ Same H1 H ∧ H D = some (.lst (picked (zs.take i)))) (i + 1) (upd H4 D (.lst (acc ++ [y])))
      else (fun i H => i ≤ xs.length ∧ Same H1 H ∧ H D = some (.lst (picked (zs.take i)))) (i + 1) H3 := by
  obtain ⟨hi, s, eD⟩ := p
  have hlt : i < xs.length := (List.getElem?_eq_some_iff.mp hx).1
  obtain ⟨z, hzi⟩ : ∃ z, zs[i]? = some z := ⟨_, List.getElem?_eq_getElem (by omega)⟩
  have pt := picked_take hzi
  refine ⟨hw _, hs i x z H hx hzi s _ fun H3 s3 => ?_⟩
  cases hb : z.1 with
  | true =>
    rw [hb] at pt
    refine iteT (he i x z H3 hx hzi hb (s.trans s3) _ fun H4 s4 => ⟨_, s4 _ _ (s3 _ _ eD), ?_, hlt, fun b o e2 => ?_, ?_⟩)
    · have := picked_len (zs.take i)
      rw [List.length_take] at this
      exact small1000 (by omega)
    · rw [upd_ne (ne_of_none e2 nD)]
      exact s4 _ _ (s3 _ _ (s _ _ e2))
    · rw [upd_same, pt]
      rfl
  | false =>
    rw [hb] at pt
    refine iteF ⟨hlt, s.trans s3, ?_⟩
    rw [pt]
    show H3 D = some (.lst (picked (zs.take i) ++ []))
    rw [List.append_nil]
    exact s3 _ _ eD
theorem lc_selT (hw : ∀ v, wipe ((wipe σ vs).set j (some v)) vs = wipe σ vs) (nD : H1 D = none) (hx : SqT K H1 a xs) (hz : xs.length ≤ 1000) (hl : zs.length = xs.length)
    (hs : ∀ (i : Nat) (x : V) (z : Bool × V) (H : Hp), xs[i]? = some x → zs[i]? = some z → Same H1 H → ∀ q : Bool → Hp → Prop, (∀ H3, Same H H3 → q z.1 H3) → tt ((wipe σ vs).set j (some x)) H q)
    (he : ∀ (i : Nat) (x : V) (z : Bool × V) (H : Hp), xs[i]? = some x → zs[i]? = some z → z.1 = true → Same H1 H → ∀ q : VK, (∀ H4, Same H H4 → q z.2 H4) → te ((wipe σ vs).set j (some x)) H q)
    (hd : ∀ H, Same H1 H → H D = some (.lst (picked zs)) → Qd H) : ∃ W : Nat → Nat → Hp → Prop, (∃ m, W 0 m (upd H1 D (.lst []))) ∧ ∀ i m H, W i m H →
      ((Itt K a).stop i H ∧ Qd H) ∨ ((Itt K a).go i H ∧ ∃ Nx : Hp → Prop, (∀ H', Nx H' → ∃ m', m' < m ∧ W (i + 1) m' H') ∧ ∀ v H', (Itt K a).yld i H v H' → gName j v (wipe σ vs) H' fun τ H2 => wipe τ vs = wipe σ vs ∧ tt τ H2 fun b H3 =>
        if b = true then te τ H3 fun y H4 => ∃ acc, H4 D = some (.lst acc) ∧ acc.length < sizeLine ∧ Nx (upd H4 D (.lst (acc ++ [y]))) else Nx H3) :=
  lc_tup (fun i H => i ≤ xs.length ∧ Same H1 H ∧ H D = some (.lst (picked (zs.take i)))) ⟨Nat.zero_le _, fun b o e => by rw [upd_ne (ne_of_none e nD)]; exact e, upd_same⟩ (fun i H _ p => SqT.ext hx p.2.1)
    (sel_step hw nD hz hl hs he) fun H p => hd H p.2.1 (by have := p.2.2; rw [← hl, List.take_length] at this; exact this)
theorem lc_selL (hw : ∀ v, wipe ((wipe σ vs).set j (some v)) vs = wipe σ vs) (nD : H1 D = none) (hx : SqL K H1 a xs) (hz : xs.length ≤ 1000) (hl : zs.length = xs.length)
    (hs : ∀ (i : Nat) (x : V) (z : Bool × V) (H : Hp), xs[i]? = some x → zs[i]? = some z → Same H1 H → ∀ q : Bool → Hp → Prop, (∀ H3, Same H H3 → q z.1 H3) → tt ((wipe σ vs).set j (some x)) H q)
    (he : ∀ (i : Nat) (x : V) (z : Bool × V) (H : Hp), xs[i]? = some x → zs[i]? = some z → z.1 = true → Same H1 H → ∀ q : VK, (∀ H4, Same H H4 → q z.2 H4) → te ((wipe σ vs).set j (some x)) H q)
    (hd : ∀ H, Same H1 H → H D = some (.lst (picked zs)) → Qd H) : ∃ W : Nat → Nat → Hp → Prop, (∃ m, W 0 m (upd H1 D (.lst []))) ∧ ∀ i m H, W i m H →
      ((Itl K a).stop i H ∧ Qd H) ∨ ((Itl K a).go i H ∧ ∃ Nx : Hp → Prop, (∀ H', Nx H' → ∃ m', m' < m ∧ W (i + 1) m' H') ∧ ∀ v H', (Itl K a).yld i H v H' → gName j v (wipe σ vs) H' fun τ H2 => wipe τ vs = wipe σ vs ∧ tt τ H2 fun b H3 =>
        if b = true then te τ H3 fun y H4 => ∃ acc, H4 D = some (.lst acc) ∧ acc.length < sizeLine ∧ Nx (upd H4 D (.lst (acc ++ [y]))) else Nx H3) :=
  lc_list (fun i H => i ≤ xs.length ∧ Same H1 H ∧ H D = some (.lst (picked (zs.take i)))) ⟨Nat.zero_le _, fun b o e => by rw [upd_ne (ne_of_none e nD)]; exact e, upd_same⟩ (fun i H _ p => SqL.ext hx p.2.1)
    (sel_step hw nD hz hl hs he) fun H p => hd H p.2.1 (by have := p.2.2; rw [← hl, List.take_length] at this; exact this)
/-- without a test -/
theorem lc_funT {ys : List V} (hw : ∀ v, wipe ((wipe σ vs).set j (some v)) vs = wipe σ vs) (nD : H1 D = none) (hx : SqT K H1 a xs) (hz : xs.length ≤ 1000) (hl : ys.length = xs.length)
    (he : ∀ (i : Nat) (x y : V) (H : Hp), xs[i]? = some x → ys[i]? = some y → Same H1 H → ∀ q : VK, (∀ H4, Same H H4 → q y H4) → te ((wipe σ vs).set j (some x)) H q)
    (hd : ∀ H, Same H1 H → H D = some (.lst ys) → Qd H) : ∃ W : Nat → Nat → Hp → Prop, (∃ m, W 0 m (upd H1 D (.lst []))) ∧ ∀ i m H, W i m H →
      ((Itt K a).stop i H ∧ Qd H) ∨ ((Itt K a).go i H ∧ ∃ Nx : Hp → Prop, (∀ H', Nx H' → ∃ m', m' < m ∧ W (i + 1) m' H') ∧ ∀ v H', (Itt K a).yld i H v H' → gName j v (wipe σ vs) H' fun τ H2 => wipe τ vs = wipe σ vs ∧ tYes τ H2 fun b H3 =>
        if b = true then te τ H3 fun y H4 => ∃ acc, H4 D = some (.lst acc) ∧ acc.length < sizeLine ∧ Nx (upd H4 D (.lst (acc ++ [y]))) else Nx H3) := by
  refine lc_selT (zs := ys.map fun y => (true, y)) hw nD hx hz (by rw [List.length_map, hl]) (fun i x z H _ e _ q k => ?_) (fun i x z H ex e _ s q k => ?_) fun H s e => hd H s (by rw [picked_all] at e; exact e)
  · rw [List.getElem?_map] at e
    cases ey : ys[i]? with
    | none => rw [ey] at e; cases e
    | some y =>
      rw [ey] at e
      cases e
      exact k H fun _ _ e => e
  · rw [List.getElem?_map] at e
    cases ey : ys[i]? with
    | none => rw [ey] at e; cases e
    | some y =>
      rw [ey] at e
      cases e
      exact he i x y H ex ey s q k
theorem lc_funL {ys : List V} (hw : ∀ v, wipe ((wipe σ vs).set j (some v)) vs = wipe σ vs) (nD : H1 D = none) (hx : SqL K H1 a xs) (hz : xs.length ≤ 1000) (hl : ys.length = xs.length)
    (he : ∀ (i : Nat) (x y : V) (H : Hp), xs[i]? = some x → ys[i]? = some y → Same H1 H → ∀ q : VK, (∀ H4, Same H H4 → q y H4) → te ((wipe σ vs).set j (some x)) H q)
    (hd : ∀ H, Same H1 H → H D = some (.lst ys) → Qd H) : ∃ W : Nat → Nat → Hp → Prop, (∃ m, W 0 m (upd H1 D (.lst []))) ∧ ∀ i m H, W i m H →
      ((Itl K a).stop i H ∧ Qd H) ∨ ((Itl K a).go i H ∧ ∃ Nx : Hp → Prop, (∀ H', Nx H' → ∃ m', m' < m ∧ W (i + 1) m' H') ∧ ∀ v H', (Itl K a).yld i H v H' → gName j v (wipe σ vs) H' fun τ H2 => wipe τ vs = wipe σ vs ∧ tYes τ H2 fun b H3 =>
        if b = true then te τ H3 fun y H4 => ∃ acc, H4 D = some (.lst acc) ∧ acc.length < sizeLine ∧ Nx (upd H4 D (.lst (acc ++ [y]))) else Nx H3) := by
  refine lc_selL (zs := ys.map fun y => (true, y)) hw nD hx hz (by rw [List.length_map, hl]) (fun i x z H _ e _ q k => ?_) (fun i x z H ex e _ s q k => ?_) fun H s e => hd H s (by rw [picked_all] at e; exact e)
  · rw [List.getElem?_map] at e
    cases ey : ys[i]? with
    | none => rw [ey] at e; cases e
    | some y =>
      rw [ey] at e
      cases e
      exact k H fun _ _ e => e
  · rw [List.getElem?_map] at e
    cases ey : ys[i]? with
    | none => rw [ey] at e; cases e
    | some y =>
      rw [ey] at e
      cases e
      exact he i x y H ex ey s q k
end
end Gd
set_option Elab.async false
set_option linter.all false
set_option maxRecDepth 100000
set_option maxHeartbeats 4000000
/-! a tuple that tuple(..) has made, its object known: its methods may be called -/
namespace Gd
open PySem PySem.Spec PyProof.Rows L2
def FzT (H : Hp) (a : Addr) (xs : List V) : Prop := ∃ o : Obj, H a = some (.frz o (.tup xs)) ∧ o.cls = .type "tuple" ∧ o.dict = none
theorem FzT.sq {K : PySem.W.Frag} {H : Hp} {a : Addr} {xs : List V} (h : FzT H a xs) : SqT K H a xs := by
  obtain ⟨o, e, _⟩ := h
  exact .inl (.inr ⟨o, e⟩)
theorem FzT.keep {H H' : Hp} {a : Addr} {xs : List V} (h : FzT H a xs) (s : Same H H') : FzT H' a xs := by
  obtain ⟨o, e, r⟩ := h
  exact ⟨o, s _ _ e, r⟩
theorem FzT.ty {K : PySem.W.Frag} {H : Hp} {a : Addr} {xs : List V} (h : FzT H a xs) : TyX K H (.ref a) (.type "tuple") := by
  obtain ⟨o, e, r⟩ := h
  exact .fTuple e
section
variable {X : Cx} {ta : TE} {a : Expr}
/-- tuple(x), x a list: a new tuple, known -/
def kTupF (K : PySem.W.Frag) (x : V) (H : Hp) (Q : VK) : Prop := ∃ p xs, x = .ref p ∧ SqL K H p xs ∧ ∀ q H', H q = none → Same H H' → FzT H' q xs → Q (.ref q) H'
theorem rl_tupF (pins : List (Addr × Obj)) (s : Shared) (σ : L2.St) (H : Hp) (x : V) (v : Value) (Q : VK) (I : Inv X pins σ H s) (r : RelV x v) (h : kTupF X.K x H Q) : wpAny (model X.prog X.w) X.A (call (.type "tuple") [v]) (EP X pins σ Q) X.xe s := by
  obtain ⟨p, xs, rfl, hs, q⟩ := h
  obtain rfl : v = .ref p := r
  obtain ⟨its, rv, pl, hz⟩ := I.list hs
  refine call_tuple_list pl.isList (fun h' hk => ?_) (by rw [List.size_toArray, ← rv.length]; exact hz)
  have J : Inv X pins σ H { s with heap := h' } := I.kept (t' := s.toks) hk
  have hf : H h'.objs.size = none := J.hok.fresh (Nat.le_refl _)
  have J2 : Inv X pins σ (upd H h'.objs.size (.frz { cls := .type "tuple", data := .seq its.toArray } (.tup xs))) { s with heap := h'.push { cls := .type "tuple", data := .seq its.toArray } } :=
    J.laid (t' := s.toks) (fun b o e => Heap.get?_push_of_some _ e) (Nat.le_refl _) ⟨Heap.get?_push_size _ rfl, hz, its, rv, IsTup.new _ _⟩
  exact ⟨.ref h'.objs.size, _, J2, rfl, q _ _ hf (fun b o e => by rw [upd_ne (ne_of_none e hf)]; exact e) ⟨_, upd_same, rfl, rfl⟩⟩
theorem pe_tupF {p pos : Pos} (hg : Gl X "tuple") (hm : X.mg "tuple" = none) (ha : PE X a ta) (na : starEach [a] X.env = (false, eval a X.env) :: starEach [] X.env := by rfl) : PE X (.Call (.Name "tuple" p) [a] [] pos) (tThen ta (kTupF X.K)) :=
  ⟨fun pins s σ H Q I h => Call_ (ld_blt I hg hm boot_tuple (PyProof.Rows.callWith_type1 (one_arg ha I h (fun v s2 x H2 I2 r q => rl_tupF pins s2 σ H2 x v Q I2 r q) na) na))⟩
/-- t.m(e, ..), t such a tuple -/
def tBMf (r : V → List V → Hp → VK → Prop) (to : TE) (t : TA) : TE := fun σ H Q => to σ H fun x H1 => (∃ b xs, x = .ref b ∧ FzT H1 b xs) ∧ t σ H1 fun xs H2 => r x xs H2 Q
theorem pe_bmf {o e : Expr} {es : List Expr} {to : TE} {t : TA} {name : Str} {apos cpos : Pos} {id : String} {r : V → List V → Hp → VK → Prop} (slot : Slot "tuple" name id) (hty : typeOf (.builtin id) = pure (.type "method_descriptor")) (hm : MtR X id r) (ho : PE X o to) (ha : PA X (e :: es) t)
    (hbase : attributeBase o name X.env (eval o X.env) = eval o X.env := by rfl)
    (hfew : ((backTo cpos (starEach (e :: es) X.env)).all (fun x => !x.1) && (backToKw cpos (keywordEach [] X.env)).all (fun x => x.1.isSome) && decide ((e :: es).length + ([] : List Keyword).length + (if ([] : List Keyword).isEmpty then 0 else 1) < 30)) = true := by rfl)
    (hline : (apos.endLine == cpos.line) = true := by rfl) (hs : starEach (e :: es) X.env = (false, eval e X.env) :: starEach es X.env := by rfl) (hplain : (backTo cpos (starEach es X.env)).any (·.1) = false := by rfl) :
    PE X (.Call (.Attribute o name apos) (e :: es) [] cpos) (tBMf r to t) := by
  constructor
  intro pins s σ H Q I h
  refine wpAny_Call_method_late hbase hfew hline rfl (thn (ho.run pins s σ H _ I h) fun v s1 z => ?_)
  obtain ⟨x, H1, I1, r1, ⟨b, xs, ex, ob, e1, c1, d1⟩, q1⟩ := z
  subst ex
  have ev : v = Value.ref b := r1
  subst ev
  obtain ⟨g1, _⟩ := I1.hok b _ e1
  refine ⟨"tuple", id, PySem.F.plainAttrs_tuple, slot, hty, ⟨ob, g1, c1⟩, fun a ea => ?_, ?_⟩
  · cases ea
    exact ⟨ob, g1, d1⟩
  have hA := ha.run cpos pins s1 σ H1 _ I1 q1
  rw [hs] at hA ⊢
  refine Calls.callWith_builtin (by show (false || (backTo cpos (starEach es X.env)).any (·.1)) = false; rw [hplain] <;> rfl) (Calls.evalArgs_plain ?_)
  exact thn hA fun us s2 ⟨vs, H2, I2, r2, q2⟩ => hm pins s2 σ H2 (.ref b) vs (.ref b) us Q I2 rfl r2 q2
end
end Gd
set_option Elab.async false
set_option linter.all false
set_option maxRecDepth 100000
set_option maxHeartbeats 4000000
/-! enumerate(t), t a tuple -/
namespace Gd
open PySem PySem.Spec PyProof.Rows L2
/-- the tuple at t, each item in a new pair with its place -/
def Iet (K : PySem.W.Frag) (t : Addr) : It where
  go i H := ∃ (vs : List V) (v : V), SqT K H t vs ∧ vs[i]? = some v
  yld i H y H' := ∃ (p : Addr) (v : V), y = .ref p ∧ H p = none ∧ H' = upd H p (.tup [.int (i : Nat), v]) ∧ ∀ vs, SqT K H t vs → vs[i]? = some v
  stop i H := ∃ vs : List V, SqT K H t vs ∧ vs.length ≤ i
theorem turn_et {P : Program} {w : World} {K : PySem.W.Frag} {es : List Expr} {n : Nat} {ps : Pos} (t e j : Addr) :
    Turn P w K (.Tuple es n ps) (Iet K t) [e, j] e (fun i g => (∃ o, IsEnum g e j ((i : Nat) : Int) o) ∧ g.IsTupleIter j t i ∧ e ≠ j) := by
  refine ⟨List.mem_cons_self .., fun i g st b hb => ?_, fun i g g' st k => ?_, ?_, ?_, fun A i s Q E st q => ?_⟩
  · obtain ⟨⟨o, he⟩, ⟨oj, hj, cj, dj⟩, _⟩ := st
    rcases List.mem_cons.mp hb with rfl | hb
    · exact ⟨_, he, fun v q => nomatch q⟩
    · rw [List.mem_singleton.mp hb]
      exact ⟨oj, hj, fun v q => by rw [dj] at q; cases q⟩
  · obtain ⟨⟨o, he⟩, hj, ne⟩ := st
    exact ⟨⟨o, k e (List.mem_cons_self ..) _ he⟩, hj.at fun o q => k j (by simp) o q, ne⟩
  · intro X hP hw hK hc i pins s σ H E I hf st hg
    subst hP hw hK
    obtain ⟨⟨old, he⟩, hj, ne⟩ := st
    obtain ⟨vs, v, hq, hv⟩ := hg
    obtain ⟨its, rv, ht, _⟩ := I.tuple hq
    obtain ⟨u, hu, ru⟩ := rv.get hv
    have le : e < s.heap.objs.size := Heap.lt_size he
    have lj : j < s.heap.objs.size := by obtain ⟨_, q, _⟩ := hj; exact Heap.lt_size q
    have tup : s.heap.IsTuple t its.toArray := ht
    have nt : e ≠ t := fun q => by
      obtain ⟨o, ho, hcl, _⟩ := tup
      rw [← q, he] at ho
      cases ho
      exact absurd (Value.type.inj hcl) (by decide)
    have njt : t ≠ j := fun q => by
      obtain ⟨o, ho, hcl, _⟩ := tup
      obtain ⟨o2, ho2, hcl2, _⟩ := hj
      rw [q, ho2] at ho
      cases ho
      rw [hcl2] at hcl
      exact absurd (Value.type.inj hcl) (by decide)
    have D := Draws.tuple (prog := X.prog) (w := X.w) (A := X.A.in1) (show X.A.in1.handled = none from I.ok.hd hc) j t njt its.toArray
    have hlt : i < its.toArray.size := by
      have := (List.getElem?_eq_some_iff.mp hu).1
      simpa using this
    refine wpAny_pyNext_enum_itemD D he ⟨hj, tup⟩ hlt ne (by simp [ne, nt]) fun x h1 tk hx out st1 hT hsz hk => ?_
    have ex : x = u := by
      have h2 : its[i]? = some x := by simpa using hx
      rw [hu] at h2
      exact (Option.some.inj h2).symm
    subst ex
    refine ⟨_, rfl, wpAny_letOwnedTupleGo_enum (s := { s with heap := h1, toks := tk + 1 }) out fun h2 he2 sb => ?_⟩
    have T2 : h2.get? s.heap.objs.size = some { cls := .type "tuple", data := .seq #[.int i tk, x] } := (sb.2 _ (Nat.ne_of_gt le)).trans hT
    have new : ObjOk X.prog X.w (upd H s.heap.objs.size (.tup [.int (i : Nat), v])) h2 s.heap.objs.size (.tup [.int (i : Nat), v]) := by
      refine ⟨?_, [.int i tk, x], .cons ⟨_, rfl⟩ (.cons ru .nil), _, T2, rfl, _, rfl⟩
      show 2 ≤ sizeLine
      decide
    have in2 : ∀ b : Addr, b ∈ [e, j] → b = e ∨ b = j := fun b hb => by simpa using hb
    have J : Inv X pins σ (upd H s.heap.objs.size (.tup [.int (i : Nat), v])) { s with heap := h2, toks := tk + 1 } := by
      refine I.turnedNew (ch := [e, j]) (fun b o hb q => ?_) hf (Nat.le_refl _) new
      have n1 : b ≠ e := fun z => hb (by simp [z])
      have n2 : b ≠ j := fun z => hb (by simp [z])
      exact (sb.2 b n1).trans (hk b o n1 n2 q)
    refine ⟨.ref s.heap.objs.size, _, J, rfl, ⟨_, v, rfl, I.hok.fresh (Nat.le_refl _), rfl, fun ys hy => ?_⟩, ⟨⟨x, ?_⟩, st1.1.at fun o q => (sb.2 j (Ne.symm ne)).trans q, ne⟩, fun b hb => ?_⟩
    · rw [I.tuple_inj hy hq]
      exact hv
    · have q : ((i + 1 : Nat) : Int) = (i : Int) + 1 := by omega
      rw [q]
      exact he2
    · have lb : b < s.heap.objs.size := by rcases in2 b hb with z | z <;> rw [z] <;> assumption
      rw [upd_ne (Nat.ne_of_lt lb)]
      exact (hf b hb).1
  · intro X hP hw hK hc i pins s σ H E I hf st hg
    subst hP hw hK
    obtain ⟨⟨old, he⟩, hj, ne⟩ := st
    obtain ⟨vs, hq, hv⟩ := hg
    obtain ⟨its, rv, ht, _⟩ := I.tuple hq
    have tup : s.heap.IsTuple t its.toArray := ht
    obtain ⟨f0, f1, f2, f3, f4, f5⟩ := hf j (by simp)
    have ln := rv.length
    have njt : t ≠ j := fun q => by
      obtain ⟨o, ho, hcl, _⟩ := tup
      obtain ⟨o2, ho2, hcl2, _⟩ := hj
      rw [q, ho2] at ho
      cases ho
      rw [hcl2] at hcl
      exact absurd (Value.type.inj hcl) (by decide)
    refine wpAny_bind (wpAny_attempt (wpAny_callSpecial?_slot (name := Str.ofString "__next__") (T := "enumerate") ⟨_, he, rfl⟩ F.slot_enumerate_next (wpAny_call_entry F.slot_enumerate_next ⟨_, he, rfl⟩ F.entry_enumerate_next ?_ (F.args_enumerate_next_1 _))))
    show wpAny _ _ (field (.ref e) 2 >>= _) _ _ _
    refine wpAny_bind (wpAny_field he rfl (x := .ref j) rfl ?_)
    refine wpAny_bind (PySem.wpAny_nextOf_tuple_end (show X.A.in1.handled = none from I.ok.hd hc) hj tup (by simp; omega) fun h1 y sb hy => ?_)
    obtain ⟨o, ho, hcl⟩ := hy
    refine wpAny_bind (wpAny_isInstance (T := "StopIteration") (b := true) ⟨o, ho, hcl⟩ isSubtype_stop ?_)
    exact wpAny_pure ⟨rfl, I.turned (t' := s.toks) (fun b o hb q => sb b o hb q) f0 f1 f3 f4 f5⟩
  · obtain ⟨⟨_, he⟩, _⟩ := st
    exact wpAny_pyIter_enum he q
/-- enumerate.__new__ over what begins -/
theorem meets_enum1 {v : Value} {o : Obj} {S : Heap → Prop} (B : Begins v o S) :
    Meets (Builtin.«enumerate.__new__» ⟨[.type "enumerate", v], []⟩) (fun _ R s => S s.heap ∧
      R (.ok (.ret (.ref (s.heap.push o).objs.size))) { s with heap := (s.heap.push o).push { cls := .type "enumerate", data := .fields #[.none, .bool false, .ref s.heap.objs.size, rawInt 0, .none, .none] } }) := by
  refine .of_wp fun prog w A R s z => ?_
  obtain ⟨hp, gs, dr, tk, os⟩ := s
  obtain ⟨z1, z2⟩ := z
  have sub := sub_enumerate
  have it : ∀ {A' : Around} {E Q : Value → Shared → Prop}, Q (.ref hp.objs.size) ⟨hp.push o, gs, dr, tk, os⟩ → wpAny (model prog w) A' (pyIter v) Q E ⟨hp, gs, dr, tk, os⟩ := fun q => B.iter prog w _ _ ⟨hp, gs, dr, tk, os⟩ _ z1 q
  wp_walk using it
  refine wpAny_stack_any fun _ => wpAny_pure ?_
  split
  · rename_i c _ _ _ _ _
    cases (c == Value.type "enumerate") <;> (wp_walk using it; exact ⟨_, rfl, z2⟩)
  · wp_walk using it
    exact ⟨_, rfl, z2⟩
theorem call_enumT {M : Program} {w : World} {A : Around} {E : Value → Shared → Prop} {s : Shared} {t : Addr} {items : Array Value} {Q : Value → Shared → Prop} (ht : s.heap.IsTuple t items)
    (q : ∀ h', IsEnum h' (s.heap.objs.size + 1) s.heap.objs.size 0 .none → h'.IsTupleIter s.heap.objs.size t 0 → (∀ b o, s.heap.get? b = some o → h'.get? b = some o) → Q (.ref (s.heap.objs.size + 1)) { s with heap := h' }) :
    wpAny (model M w) A (call (.type "enumerate") [.ref t]) Q E s := by
  refine callType_new F.called_enumerate (by decide) (F.typeCall_enumerate_1 _) (F.newCall_enumerate_1 _) (fun obj => F.args_object_init_2 obj _) F.entry_enumerate_new (meets_enum1 (begins_tuple t items)) ⟨ht, ?_⟩
  have sz : (s.heap.push { cls := .type "tuple_iterator", data := .fields #[.ref t, .int 0 0] }).objs.size = s.heap.objs.size + 1 := Heap.size_push ..
  show _ ∧ _
  rw [sz]
  have he : IsEnum ((s.heap.push { cls := .type "tuple_iterator", data := .fields #[.ref t, .int 0 0] }).push { cls := .type "enumerate", data := .fields #[.none, .bool false, .ref s.heap.objs.size, rawInt 0, .none, .none] }) (s.heap.objs.size + 1) s.heap.objs.size 0 .none := by
    have z := Heap.get?_push_size (s.heap.push { cls := .type "tuple_iterator", data := .fields #[.ref t, .int 0 0] }) (o := { cls := .type "enumerate", data := .fields #[.none, .bool false, .ref s.heap.objs.size, rawInt 0, .none, .none] }) rfl
    rw [sz] at z
    exact z
  exact ⟨⟨_, he, rfl⟩, q _ he ⟨_, Heap.get?_push_of_some _ (Heap.get?_push_size _ rfl), rfl, rfl⟩ fun b o x => Heap.get?_push_of_some _ (Heap.get?_push_of_some _ x)⟩
def iEnT (K : PySem.W.Frag) (ta : TA) : TI := fun σ H R => ta σ H fun vs H1 => ∃ (t : Addr) (xs : List V), vs = [.ref t] ∧ SqT K H1 t xs ∧ R (Iet K t) H1
theorem pi_enT {X : Cx} {e : Expr} {ta : TA} {p pos tpos : Pos} {es : List Expr} {n : Nat} (hg : Gl X "enumerate") (hm : X.mg "enumerate" = none) (ha : PA X [e] ta) (hs : starEach [e] X.env = [(false, eval e X.env)] := by rfl) :
    PI X (.Tuple es n tpos) (.Call (.Name "enumerate" p) [e] [] pos) (iEnT X.K ta) := by
  constructor
  intro pins s σ H R I h
  refine Call_ (ld_blt I hg hm boot_enumerate (PyProof.Rows.callWith_type1 (thn (ha.run pos pins s σ H _ I h) fun us s1 z1 => ?_) hs rfl))
  obtain ⟨vs, H1, I1, r1, t, xs, ex, hq, q⟩ := z1
  subst ex
  have eu := Vals.ref1 r1
  subst eu
  obtain ⟨its, rv, ht, _⟩ := I1.tuple hq
  refine call_enumT (items := its.toArray) ht fun h' he hj hk => wpAny_pyIter_enum he ?_
  have I2 : Inv X pins σ H1 { s1 with heap := h' } := I1.kept (t' := s1.toks) hk
  refine ⟨s1.heap.objs.size + 1, [s1.heap.objs.size + 1, s1.heap.objs.size], _, _, H1, rfl, I2, turn_et t (s1.heap.objs.size + 1) s1.heap.objs.size, ⟨⟨.none, he⟩, hj, Nat.succ_ne_self _⟩, fun b hb => ?_, q⟩
  have lb : s1.heap.objs.size ≤ b := by
    rcases List.mem_cons.mp hb with z | z
    · rw [z]
      exact Nat.le_succ _
    · rw [List.mem_singleton.mp z]
      exact Nat.le_refl _
  exact I1.fpOk lb (I1.hok.fresh lb)
/-- for i, x in enumerate(t) -/
theorem for_enT {K : PySem.W.Frag} {t : Addr} {xs : List V} {g : TG} {tb : TS} {D : Ends} {σ : L2.St} {H : Hp} (Pv : Nat → L2.St → Hp → Prop) (h0 : Pv 0 σ H) (hl : ∀ i σ H, i ≤ xs.length → Pv i σ H → SqT K H t xs)
    (hs : ∀ i x σ H p, xs[i]? = some x → Pv i σ H → H p = none → g (.ref p) σ (upd H p (.tup [.int (i : Nat), x])) fun σ2 H2 => tb { D with nx := Pv (i + 1), ct := Pv (i + 1), bk := D.nx } σ2 H2) (hd : ∀ σ H, Pv xs.length σ H → D.nx σ H) :
    ∃ W : Nat → Nat → L2.St → Hp → Prop, (∃ m, W 0 m σ H) ∧ ∀ i m σ H, W i m σ H →
      ((Iet K t).stop i H ∧ D.nx σ H) ∨ ((Iet K t).go i H ∧ ∃ N : L2.St → Hp → Prop, (∀ σ' H', N σ' H' → ∃ m', m' < m ∧ W (i + 1) m' σ' H') ∧ ∀ x H', (Iet K t).yld i H x H' → g x σ H' fun σ2 H2 => tb { D with nx := N, ct := N, bk := D.nx } σ2 H2) := by
  refine ⟨fun i m σ H => i + m = xs.length ∧ Pv i σ H, ⟨xs.length, Nat.zero_add _, h0⟩, ?_⟩
  rintro i m σ H ⟨e, p⟩
  have q := hl i σ H (by omega) p
  cases hx : xs[i]? with
  | none =>
    have ei : i = xs.length := by
      have := List.getElem?_eq_none_iff.mp hx
      omega
    rw [ei] at p ⊢
    exact .inl ⟨⟨xs, q, Nat.le_refl _⟩, hd σ H p⟩
  | some v =>
    have hi : i < xs.length := (List.getElem?_eq_some_iff.mp hx).1
    refine .inr ⟨⟨xs, v, q, hx⟩, Pv (i + 1), fun σ' H' p' => ⟨m - 1, by omega, by omega, p'⟩, fun y H' z => ?_⟩
    obtain ⟨r, v', rfl, hr, rfl, hv⟩ := z
    have ev := hv xs q
    rw [hx] at ev
    cases ev
    exact hs i v σ H r hx p hr
end Gd
set_option Elab.async false
set_option linter.all false
set_option maxRecDepth 100000
set_option maxHeartbeats 4000000
namespace Ks
open PySem PySem.Spec PyProof.Rows L2 Gd Kx
abbrev sOne : Stmt := Kx.topS 24
abbrev sCk : Stmt := Kx.topS 25
abbrev sIsC : Stmt := Kx.topS 26
abbrev sCc : Stmt := Kx.topS 27
abbrev sCt : Stmt := Kx.topS 28
theorem scOne : FnScope ["value", "names"] ["value", "names"] (defScope sOne) := ⟨rfl, rfl, rfl, by decide +kernel, rfl, by decide +kernel, by decide +kernel⟩
theorem scCk : FnScope ["kinds", "index", "kind"] ["kinds"] (defScope sCk) := ⟨rfl, rfl, rfl, by decide +kernel, rfl, by decide +kernel, by decide +kernel⟩
theorem scIsC : FnScope ["value", "kinds", "name", "kind", "fields", "field"] ["value", "kinds"] (defScope sIsC) := ⟨rfl, rfl, rfl, by decide +kernel, rfl, by decide +kernel, by decide +kernel⟩
theorem scCc : FnScope ["constructors", "kinds", "names", "index", "constructor"] ["constructors", "kinds"] (defScope sCc) := ⟨rfl, rfl, rfl, by decide +kernel, rfl, by decide +kernel, by decide +kernel⟩
theorem scCt : FnScope ["kinds", "constructors", "full", "_", "constructor", "kind", "fields", "field"] ["kinds", "constructors"] (defScope sCt) := ⟨rfl, rfl, rfl, by decide +kernel, rfl, by decide +kernel, by decide +kernel⟩
/-! ### schemas as data -/
abbrev Rw := Str × Str × List Str
structure Md where
  ks : List Str
  rs : List Rw
structure Good (m : Md) : Prop where
  k1 : 1 ≤ m.ks.length
  k4 : m.ks.length ≤ 4
  kn : ∀ k ∈ m.ks, nmS k = true
  kd : m.ks.Nodup
  r1 : 1 ≤ m.rs.length
  r6 : m.rs.length ≤ 6
  rn : ∀ r ∈ m.rs, nmS r.1 = true
  rd : (m.rs.map (·.1)).Nodup
  rk : ∀ r ∈ m.rs, r.2.1 ∈ m.ks
  f3 : ∀ r ∈ m.rs, r.2.2.length ≤ 3
  fk : ∀ r ∈ m.rs, ∀ f ∈ r.2.2, f ∈ m.ks
  tr : ∀ k ∈ m.ks, ∃ r ∈ m.rs, r.2.1 = k ∧ r.2.2 = []
def StT (H : Hp) (a : Addr) (ss : List Str) : Prop := H a = some (.tup (ss.map V.str))
def RowV (H : Hp) (x : V) (r : Rw) : Prop := ∃ b f : Addr, x = .ref b ∧ H b = some (.tup [.str r.1, .str r.2.1, .ref f]) ∧ StT H f r.2.2
/-- a tuple, its object known or not -/
def TupA (H : Hp) (a : Addr) (xs : List V) : Prop := H a = some (.tup xs) ∨ FzT H a xs
theorem TupA.keep {H H' : Hp} {a : Addr} {xs : List V} (h : TupA H a xs) (s : Same H H') : TupA H' a xs := by
  rcases h with h | h
  · exact .inl (s _ _ h)
  · exact .inr (h.keep s)
theorem TupA.sq {K : PySem.W.Frag} {H : Hp} {a : Addr} {xs : List V} (h : TupA H a xs) : SqT K H a xs := by
  rcases h with h | h
  · exact SqT.of h
  · exact h.sq
theorem TupA.ty {K : PySem.W.Frag} {H : Hp} {a : Addr} {xs : List V} (h : TupA H a xs) : TyX K H (.ref a) (.type "tuple") := by
  rcases h with h | h
  · exact .base (.tup h)
  · exact h.ty
theorem TupA.by {H H' : Hp} {a : Addr} {xs : List V} (h : TupA H a xs) (s : ∀ o, (∀ zs, o ≠ .lst zs) → (∀ C d fs, o ≠ .ins C d fs) → H a = some o → H' a = some o) : TupA H' a xs := by
  rcases h with h | ⟨o, h, q⟩
  · exact .inl (s _ (fun _ z => by cases z) (fun _ _ _ z => by cases z) h)
  · exact .inr ⟨o, s _ (fun _ z => by cases z) (fun _ _ _ z => by cases z) h, q⟩
def RowsT (H : Hp) (a : Addr) (rs : List Rw) : Prop := ∃ xs : List V, TupA H a xs ∧ Paired (RowV H) xs rs
theorem RowV.keep {H H' : Hp} {x : V} {r : Rw} (h : RowV H x r) (s : Same H H') : RowV H' x r := by
  obtain ⟨b, f, e, h1, h2⟩ := h
  exact ⟨b, f, e, s _ _ h1, s _ _ h2⟩
theorem RowsT.keep {H H' : Hp} {a : Addr} {rs : List Rw} (h : RowsT H a rs) (s : Same H H') : RowsT H' a rs := by
  obtain ⟨xs, e, p⟩ := h
  exact ⟨xs, e.keep s, Paired.mapP p fun x r q => RowV.keep q s⟩
theorem rows_at {H : Hp} : ∀ {xs : List V} {rs : List Rw} {n : Nat} {x : V}, Paired (RowV H) xs rs → xs[n]? = some x → ∃ r, rs[n]? = some r ∧ RowV H x r
  | _, _, n, x, .nil, h => by simp at h
  | _, _, 0, x, .cons (b := i) r t, h => by
    have e := Option.some.inj h
    subst e
    exact ⟨i, rfl, r⟩
  | _, _, n + 1, x, .cons r t, h => by
    obtain ⟨i, e, q⟩ := rows_at (n := n) t (by simpa using h)
    exact ⟨i, by simpa using e, q⟩
/-! ### what the module's defs lean on -/
structure TS0 (mg : Str → Option Value) : Prop where
  isi : mg "isinstance" = none
  str : mg "str" = none
  tup : mg "tuple" = none
  len : mg "len" = none
  all : mg "all" = none
  enu : mg "enumerate" = none
  rng : mg "range" = none
  mki : ∃ t, mg "MOST_KINDS" = some (.int 4 t)
  mco : ∃ t, mg "MOST_CONSTRUCTORS" = some (.int 6 t)
  mfi : ∃ t, mg "MOST_FIELDS" = some (.int 3 t)
/-- what is asked of a value that may be among strings -/
def OneOf (K : PySem.W.Frag) (H : Hp) (v : V) (ts : List Str) (b : Bool) : Prop := (∃ z, v = .str z ∧ b = decide (z ∈ ts)) ∨ (∃ t, TyX K H v t ∧ PySem.W.kitOne K t (.type "str") = some false ∧ b = false)
section
variable {P : Program} {w : World} {K : PySem.W.Frag} {mg : Str → Option Value} {base : Heap}
def spOne (K : PySem.W.Frag) : Sp := fun vs H Q _ => ∃ (v : V) (a : Addr) (ts : List Str) (b : Bool), vs = [v, .ref a] ∧ SqT K H a (ts.map V.str) ∧ OneOf K H v ts b ∧ Q (.bl b) H
theorem ok_one {f : Addr} {fd : FuncData} (F : Fun K "_is_one_of" "_is_one_of" sOne f fd) (T : TS0 mg) : FnOk P w K mg base CX0 1 f fd ["value", "names"] (spOne K) := by
  refine F.ok scOne (fun vs H Q E h => ?_) (fun cv A ou s H vs Q E hr h => ?_)
  · obtain ⟨v, a, ts, b, rfl, _⟩ := h
    rfl
  obtain ⟨v, a, ts, b, rfl, hs, hv, q⟩ := h
  refine ⟨_, pss_one (ps_ret (pe_and (pe_callB call_isi (by rfl) T.isi boot_isinstance (pa_cons (pv 0) (pa_cons (pe_bltn (v := .ty "str") (by rfl) T.str boot_str rfl) pa_nil))) (pe_one (pe_cmpR op_in_seq (pv 0) (pv 1) (by rfl))))), ?_⟩
  rcases hv with ⟨z, rfl, rfl⟩ | ⟨t, ty, ek, rfl⟩
  · refine ⟨.str z, rfl, .str z, .ty "str", _, _, true, rfl, .ty "str", .base (.str z), kit_ty (by decide +kernel), _, rfl, ?_⟩
    refine iteT ⟨.str z, rfl, .ref a, rfl, a, _, rfl, .inr hs, rfl, all_flat ts, ?_⟩
    show Q (.bl (inV (.str z) (ts.map V.str))) H
    rw [inV_str]
    exact q
  · refine ⟨v, rfl, v, .ty "str", _, _, false, rfl, .ty "str", ty, ek, _, rfl, iteF q⟩
end
end Ks
set_option Elab.async false
set_option linter.all false
set_option maxRecDepth 100000
set_option maxHeartbeats 4000000
namespace Ks
open PySem PySem.Spec PyProof.Rows L2 Gd Kx
theorem cut_take {xs : List V} {i : Nat} (h : i ≤ xs.length) : cutV xs none (some (i : Int)) = xs.take i := by
  unfold cutV
  rw [HT.sIx_none, HT.sIx_nat, List.drop_zero, Nat.sub_zero, Nat.min_eq_left h]
section
variable {P : Program} {w : World} {K : PySem.W.Frag} {mg : Str → Option Value} {base : Heap}
def spCk : Sp := fun vs H Q _ => ∃ (a : Addr) (m : Md), vs = [.ref a] ∧ StT H a m.ks ∧ Good m ∧ ∀ H', Same H H' → Q .non H'
theorem ok_ck {f fi : Addr} {fd fdi : FuncData} (F : Fun K "_check_kinds" "_check_kinds" sCk f fd) (T : TS0 mg) (GI : FnOk P w K mg base CX0 1 fi fdi ["value"] (spIs K)) (ki : PySem.W.keepIn K (.ref fi) = true) (bI : Binds K fdi ["value"] []) (gI : mg "is_name" = some (.ref fi)) :
    FnOk P w K mg base CX0 2 f fd ["kinds"] spCk := by
  obtain ⟨t4, m4⟩ := T.mki
  refine F.ok scCk (fun vs H Q E h => ?_) (fun cv A ou s H vs Q E hr h => ?_)
  · obtain ⟨a, m, rfl, _⟩ := h
    rfl
  obtain ⟨a, m, rfl, hs, g, q⟩ := h
  refine ⟨_, pss_cons (ps_if (PW.pt (pw_or (pt_not (pt_val (pe_callB call_isi (by rfl) T.isi boot_isinstance (pa_cons (pv 0) (pa_cons (pe_bltn (v := .ty "tuple") (by rfl) T.tup boot_tuple rfl) pa_nil)))))
        (pw_or1 (pt_not (pt_chain op_le op_le pe_int (pe_callB call_len_seq (by rfl) T.len PySem.boot_len (pa_cons (pv 0) pa_nil)) (pe_glob (v := .int 4) (by rfl) m4 ⟨_, rfl⟩)))))) pss_never pss_nil)
    (pss_one (ps_for PassesOwn.never rfl (pi_enT (by rfl) T.enu (pa_cons (pv 0) pa_nil)) (pg_tup rfl (pgs_cons (pg_name (i := 1) scCk.nd rfl (.inl rfl)) (pgs_cons (pg_name (i := 2) scCk.nd rfl (.inl rfl)) pgs_nil)))
      (pss_one (ps_if (PW.pt (pw_or (pt_not (pt_val (pe_call GI hr (by rfl) gI ki bI .nil pass0 (pa_cons (pv 2) pa_nil)))) (pw_or1 (pt_cmpR op_in_seq (pv 2) (pe_slice sl_tup (pv 0) po_none (po_some (pv 1))) (by rfl))))) pss_never pss_nil)))), ?_⟩
  refine ⟨.ref a, rfl, .ref a, .ty "tuple", _, _, true, rfl, .ty "tuple", .base (.tup hs), kit_ty (by decide +kernel), _, rfl, iteF ?_⟩
  refine ⟨.ref a, rfl, a, _, rfl, .inr (SqT.of hs), _, _, rfl, rfl, _, rfl, ?_⟩
  have k1 := g.k1
  have k4 := g.k4
  rw [decide_eq_true (show (1 : Int) ≤ ((m.ks.map V.str).length : Int) by rw [List.length_map]; omega)]
  refine iteT ⟨_, _, rfl, rfl, _, rfl, ?_⟩
  rw [decide_eq_true (show ((m.ks.map V.str).length : Int) ≤ 4 by rw [List.length_map]; omega)]
  refine iteF ?_
  refine ⟨.ref a, rfl, a, _, rfl, SqT.of hs, for_enT (K := K) (t := a) (xs := m.ks.map V.str) (fun i σ H' => ∃ o1 o2 : Option V, σ = [some (.ref a), o1, o2] ∧ Same H H') ⟨none, none, rfl, fun _ _ e => e⟩ (fun i σ H' _ p => ?_) ?_ ?_⟩
  · obtain ⟨_, _, _, s1⟩ := p
    exact SqT.of (s1 _ _ hs)
  · rintro i x σ H1 p hx ⟨o1, o2, rfl, s1⟩ np
    obtain ⟨z, hz, rfl⟩ : ∃ z, m.ks[i]? = some z ∧ x = V.str z := by
      rw [List.getElem?_map] at hx
      cases e : m.ks[i]? with
      | none => rw [e] at hx; cases hx
      | some z => rw [e] at hx; exact ⟨z, rfl, (Option.some.inj hx).symm⟩
    have hi : i < m.ks.length := (List.getElem?_eq_some_iff.mp hz).1
    have hn := g.kn z (List.mem_of_getElem? hz)
    have s2 : Same H1 (upd H1 p (.tup [.int (i : Nat), .str z])) := same_new np
    refine ⟨p, _, rfl, SqT.of upd_same, rfl, ?_⟩
    refine ⟨_, _, rfl, _, _, rfl, rfl, .str z, rfl, .str z, rfl, .inl ⟨z, rfl, by have := (nm_len hn).2; omega, fun H2 s3 => ?_⟩⟩
    rw [hn]
    have sA := s1.trans (s2.trans s3)
    refine ⟨true, rfl, iteF ?_⟩
    refine ⟨.str z, rfl, .ref a, rfl, .int (i : Nat), rfl, _, rfl, a, m.ks.map V.str, rfl, SqT.of (sA _ _ hs), ?_, fun L nL => ?_⟩
    · rintro ⟨_, e⟩
      rw [HT.sIx_nat, List.length_map] at e
      omega
    rw [cut_take (by rw [List.length_map]; omega), ← List.map_take]
    refine ⟨L, _, rfl, .inr (SqT.of upd_same), rfl, all_flat _, _, rfl, ?_⟩
    rw [if_neg (by decide), inV_str, decide_eq_false (fun h => ?_)]
    · exact iteF ⟨_, _, rfl, sA.trans (same_new nL)⟩
    · obtain ⟨j, hj, ej⟩ := List.getElem_of_mem h
      rw [List.length_take] at hj
      rw [List.getElem_take] at ej
      have e2 : m.ks[j]? = m.ks[i]? := by rw [hz, List.getElem?_eq_getElem (by omega), ej]
      have := (List.getElem?_inj (by omega) g.kd).mp e2
      omega
  · rintro σ H1 ⟨o1, o2, rfl, s1⟩
    exact q H1 s1
end
end Ks
set_option Elab.async false
set_option linter.all false
set_option maxRecDepth 100000
set_option maxHeartbeats 4000000
namespace Ks
open PySem PySem.Spec PyProof.Rows L2 Gd Kx
section
variable {P : Program} {w : World} {K : PySem.W.Frag} {mg : Str → Option Value} {base : Heap}
/-- a constructor that is right for kinds -/
structure RwOk (ks : List Str) (r : Rw) : Prop where
  n : nmS r.1 = true
  k : r.2.1 ∈ ks
  l : r.2.2.length ≤ 3
  f : ∀ x ∈ r.2.2, x ∈ ks
def spIsC : Sp := fun vs H Q _ => ∃ (x : V) (a : Addr) (ks : List Str) (r : Rw), vs = [x, .ref a] ∧ StT H a ks ∧ RowV H x r ∧ RwOk ks r ∧ ∀ H', Same H H' → Q (.bl true) H'
theorem ok_isC {f fi fo : Addr} {fd fdi fdo : FuncData} (F : Fun K "_is_constructor" "_is_constructor" sIsC f fd) (T : TS0 mg)
    (GI : FnOk P w K mg base CX0 1 fi fdi ["value"] (spIs K)) (ki : PySem.W.keepIn K (.ref fi) = true) (bI : Binds K fdi ["value"] []) (gI : mg "is_name" = some (.ref fi))
    (GO : FnOk P w K mg base CX0 1 fo fdo ["value", "names"] (spOne K)) (ko : PySem.W.keepIn K (.ref fo) = true) (bO : Binds K fdo ["value", "names"] []) (gO : mg "_is_one_of" = some (.ref fo)) :
    FnOk P w K mg base CX0 2 f fd ["value", "kinds"] spIsC := by
  obtain ⟨t3, m3⟩ := T.mfi
  refine F.ok scIsC (fun vs H Q E h => ?_) (fun cv A ou s H vs Q E hr h => ?_)
  · obtain ⟨x, a, ks, r, rfl, _⟩ := h
    rfl
  obtain ⟨x, a, ks, r, rfl, hs, ⟨b, fa, rfl, hb, hf⟩, g, q⟩ := h
  refine ⟨_, pss_cons (ps_if (PW.pt (pw_or (pt_not (pt_val (pe_callB call_isi (by rfl) T.isi boot_isinstance (pa_cons (pv 0) (pa_cons (pe_bltn (v := .ty "tuple") (by rfl) T.tup boot_tuple rfl) pa_nil)))))
        (pw_or1 (pt_cmpR op_ne (pe_callB call_len_seq (by rfl) T.len PySem.boot_len (pa_cons (pv 0) pa_nil)) pe_int (nomark _))))) (pss_one (ps_ret pe_bl)) pss_nil)
    (pss_cons (ps_asg (pv 0) (pg_tup (by rfl) (pgs_cons (pg_name (i := 2) scIsC.nd rfl (.inl rfl)) (pgs_cons (pg_name (i := 3) scIsC.nd rfl (.inl rfl)) (pgs_cons (pg_name (i := 4) scIsC.nd rfl (.inl rfl)) pgs_nil)))))
    (pss_cons (ps_if (PW.pt (pw_or (pt_not (pt_val (pe_call GI hr (by rfl) gI ki bI .nil pass0 (pa_cons (pv 2) pa_nil)))) (pw_or1 (pt_not (pt_val (pe_call GO hr (by rfl) gO ko bO .nil pass0 (pa_cons (pv 3) (pa_cons (pv 1) pa_nil)))))))) (pss_one (ps_ret pe_bl)) pss_nil)
    (pss_cons (ps_if (PW.pt (pw_or (pt_not (pt_val (pe_callB call_isi (by rfl) T.isi boot_isinstance (pa_cons (pv 4) (pa_cons (pe_bltn (v := .ty "tuple") (by rfl) T.tup boot_tuple rfl) pa_nil)))))
        (pw_or1 (pt_cmpR op_gt (pe_callB call_len_seq (by rfl) T.len PySem.boot_len (pa_cons (pv 4) pa_nil)) (pe_glob (v := .int 3) (by rfl) m3 ⟨_, rfl⟩) (nomark _))))) (pss_one (ps_ret pe_bl)) pss_nil)
    (pss_one (ps_ret (pe_callB (cr_all rfl) (by rfl) T.all boot_all (pa_cons (pe_lc (own := [("field", 5)]) (g := gName 5) (tt := tYes) rfl scIsC.nd (pi_tup (pv 4)) (blkOk_by (own := [("field", 5)]) (N := ["value", "kinds", "name", "kind", "fields", "field"]) (sc := defScope sIsC) (by decide +kernel))
      (fun _ _ _ _ _ => pg_name (i := 5) scIsC.nd rfl (Or.inl rfl)) (fun _ _ _ _ _ => pts_nil)
      (fun _ _ _ _ _ => asTE (te := tCall (spOne K) [] E0 (tCons (tVar 5) (tCons (tVar 1) tNil))) (pe_call GO hr (by rfl) gO ko bO .nil pass0 (pa_cons (pv 5) (pa_cons (pv 1) pa_nil))) rfl)) pa_nil))))))), ?_⟩
  refine ⟨.ref b, rfl, .ref b, .ty "tuple", _, _, true, rfl, .ty "tuple", .base (.tup hb), kit_ty (by decide +kernel), _, rfl, iteF ?_⟩
  refine ⟨.ref b, rfl, b, _, rfl, .inr (SqT.of hb), rfl, _, rfl, ?_⟩
  rw [show decide (V.int ((([V.str r.1, .str r.2.1, .ref fa] : List V).length : Nat) : Int) = V.int 3) = true from decide_eq_true rfl]
  refine iteF ?_
  refine ⟨.ref b, rfl, b, _, rfl, SqT.of hb, rfl, _, _, rfl, _, _, rfl, _, _, rfl, rfl, ?_⟩
  refine ⟨.str r.1, rfl, .str r.1, rfl, .inl ⟨r.1, rfl, by have := (nm_len g.n).2; omega, fun H2 s2 => ?_⟩⟩
  rw [g.n]
  have hs2 : StT H2 a ks := s2 _ _ hs
  have hf2 : H2 fa = _ := s2 _ _ hf
  refine ⟨true, rfl, iteF ⟨.str r.2.1, rfl, .ref a, rfl, .str r.2.1, a, ks, true, rfl, SqT.of hs2, .inl ⟨r.2.1, rfl, (decide_eq_true g.k).symm⟩, true, rfl, iteF ?_⟩⟩
  refine ⟨.ref fa, rfl, .ref fa, .ty "tuple", _, _, true, rfl, .ty "tuple", .base (.tup hf2), kit_ty (by decide +kernel), _, rfl, iteF ?_⟩
  refine ⟨.ref fa, rfl, fa, _, rfl, .inr (SqT.of hf2), _, _, rfl, rfl, _, rfl, ?_⟩
  have gl := g.l
  rw [decide_eq_false (show ¬ ((r.2.2.map V.str).length : Int) > 3 by rw [List.length_map]; omega)]
  refine iteF ?_
  refine ⟨.ref fa, rfl, fa, rfl, ⟨_, SqT.of hf2⟩, fun D nD => lc_funT (K := K) (a := fa) (xs := r.2.2.map V.str) (ys := List.replicate r.2.2.length (V.bl true)) (fun _ => rfl) nD (SqT.of hf2) (by rw [List.length_map]; omega) (by rw [List.length_map, List.length_replicate]) (fun i x y H3 hx hy s3 q => ?_) fun H3 s3 eD => ?_⟩
  · intro k
    rw [List.getElem?_map] at hx
    cases e : r.2.2[i]? with
    | none => rw [e] at hx; cases hx
    | some z =>
      rw [e] at hx
      cases hx
      have ey : y = V.bl true := by
        have := List.mem_of_getElem? hy
        exact (List.mem_replicate.mp this).2
      subst ey
      exact ⟨.str z, rfl, .ref a, rfl, .str z, a, ks, true, rfl, SqT.of (s3 _ _ hs2), .inl ⟨z, rfl, (decide_eq_true (g.f z (List.mem_of_getElem? e))).symm⟩, k H3 fun _ _ e => e⟩
  · refine ⟨D, List.replicate r.2.2.length true, rfl, SqL.of (by rw [eD, List.map_replicate]), ?_⟩
    rw [show (List.replicate r.2.2.length true).all id = true from List.all_eq_true.mpr fun x hx => by rw [(List.mem_replicate.mp hx).2]; rfl]
    exact q H3 (s2.trans s3)
end
end Ks
set_option Elab.async false
set_option linter.all false
set_option maxRecDepth 100000
set_option maxHeartbeats 4000000
namespace Ks
open PySem PySem.Spec PyProof.Rows L2 Gd Kx
theorem Good.row {m : Md} (g : Good m) {r : Rw} (h : r ∈ m.rs) : RwOk m.ks r := ⟨g.rn r h, g.rk r h, g.f3 r h, g.fk r h⟩
theorem same_upd {H H' : Hp} {L : Addr} {o : HO} (s : Same H H') (n : H L = none) : Same H (upd H' L o) := fun b x e => by rw [upd_ne (ne_of_none e n)]; exact s _ _ e
section
variable {P : Program} {w : World} {K : PySem.W.Frag} {mg : Str → Option Value} {base : Heap}
def spCc : Sp := fun vs H Q _ => ∃ (c a : Addr) (m : Md), vs = [.ref c, .ref a] ∧ StT H a m.ks ∧ RowsT H c m.rs ∧ Good m ∧ ∀ H', Same H H' → Q .non H'
theorem ok_cc {f fi : Addr} {fd fdi : FuncData} (F : Fun K "_check_constructors" "_check_constructors" sCc f fd) (T : TS0 mg)
    (GI : FnOk P w K mg base CX0 2 fi fdi ["value", "kinds"] spIsC) (ki : PySem.W.keepIn K (.ref fi) = true) (bI : Binds K fdi ["value", "kinds"] []) (gI : mg "_is_constructor" = some (.ref fi)) :
    FnOk P w K mg base CX0 3 f fd ["constructors", "kinds"] spCc := by
  obtain ⟨t6, m6⟩ := T.mco
  refine F.ok scCc (fun vs H Q E h => ?_) (fun cv A ou s H vs Q E hr h => ?_)
  · obtain ⟨c, a, m, rfl, _⟩ := h
    rfl
  obtain ⟨c, a, m, rfl, hs, ⟨xs, hc, hp⟩, g, q⟩ := h
  have ln : xs.length = m.rs.length := Paired.length hp
  refine ⟨_, pss_cons (ps_if (PW.pt (pw_or (pt_not (pt_val (pe_callB call_isi (by rfl) T.isi boot_isinstance (pa_cons (pv 0) (pa_cons (pe_bltn (v := .ty "tuple") (by rfl) T.tup boot_tuple rfl) pa_nil)))))
        (pw_or1 (pt_not (pt_chain op_le op_le pe_int (pe_callB call_len_seq (by rfl) T.len PySem.boot_len (pa_cons (pv 0) pa_nil)) (pe_glob (v := .int 6) (by rfl) m6 ⟨_, rfl⟩)))))) pss_never pss_nil)
    (pss_cons (ps_set (i := 2) scCc.nd rfl (.inl rfl) (pe_lst pa_nil))
    (pss_one (ps_for PassesOwn.never rfl (pi_enT (by rfl) T.enu (pa_cons (pv 0) pa_nil)) (pg_tup rfl (pgs_cons (pg_name (i := 3) scCc.nd rfl (.inl rfl)) (pgs_cons (pg_name (i := 4) scCc.nd rfl (.inl rfl)) pgs_nil)))
      (pss_cons (ps_if (PW.pt (pw_or (pt_not (pt_val (pe_call GI hr (by rfl) gI ki bI .nil pass0 (pa_cons (pv 4) (pa_cons (pv 1) pa_nil))))) (pw_or1 (pt_cmpR op_in_seq (pe_ix ix_tup (pv 4) pe_int (fun _ _ => rfl)) (pv 2) (by rfl))))) pss_never pss_nil)
      (pss_one (ps_expr (pe_bm PySem.F.plainAttrs_list PySem.F.slot_list_append PySem.F.type_list_append mt_append (pv 2) (pa_cons (pe_ix ix_tup (pv 4) pe_int (fun _ _ => rfl)) pa_nil)))))))), ?_⟩
  refine ⟨.ref c, rfl, .ref c, .ty "tuple", _, _, true, rfl, .ty "tuple", hc.ty, kit_ty (by decide +kernel), _, rfl, iteF ?_⟩
  refine ⟨.ref c, rfl, c, _, rfl, .inr hc.sq, _, _, rfl, rfl, _, rfl, ?_⟩
  have r1 := g.r1
  have r6 := g.r6
  rw [decide_eq_true (show (1 : Int) ≤ ((xs.length : Nat) : Int) by omega)]
  refine iteT ⟨_, _, rfl, rfl, _, rfl, ?_⟩
  rw [decide_eq_true (show ((xs.length : Nat) : Int) ≤ 6 by omega)]
  refine iteF ⟨(by show 0 ≤ sizeLine; exact Nat.zero_le _), fun L nL => ?_⟩
  refine ⟨.ref c, rfl, c, _, rfl, (hc.keep (same_new nL)).sq, for_enT (K := K) (t := c) (xs := xs) (fun i σ H' => ∃ o3 o4 : Option V, σ = [some (.ref c), some (.ref a), some (.ref L), o3, o4] ∧ Same H H' ∧ H' L = some (.lst (((m.rs.take i).map (·.1)).map V.str))) ⟨none, none, rfl, same_new nL, upd_same⟩ (fun i σ H' _ p => ?_) ?_ ?_⟩
  · obtain ⟨_, _, _, s1, _⟩ := p
    exact (hc.keep s1).sq
  · rintro i x σ H1 p hx ⟨o3, o4, rfl, s1, eL⟩ np
    obtain ⟨r, hr2, b, fa, rfl, hb, hf⟩ := rows_at hp hx
    have hi : i < m.rs.length := (List.getElem?_eq_some_iff.mp hr2).1
    have s2 : Same H1 (upd H1 p (.tup [.int (i : Nat), .ref b])) := same_new np
    refine ⟨p, _, rfl, SqT.of upd_same, rfl, ?_⟩
    have sA := s1.trans s2
    refine ⟨_, _, rfl, _, _, rfl, rfl, .ref b, rfl, .ref a, rfl, .ref b, a, m.ks, r, rfl, sA _ _ hs, ⟨b, fa, rfl, sA _ _ hb, sA _ _ hf⟩, g.row (List.mem_of_getElem? hr2), fun H2 s3 => ⟨true, rfl, iteF ?_⟩⟩
    have sB := sA.trans s3
    have eL2 := s3 _ _ (s2 _ _ eL)
    have hb2 := sB _ _ hb
    refine ⟨.ref b, rfl, b, _, _, .str r.1, rfl, rfl, SqT.of hb2, rfl, .ref L, rfl, L, _, rfl, .inl (SqL.of eL2), rfl, all_flat _, _, rfl, ?_⟩
    rw [if_neg (by decide), inV_str, decide_eq_false (fun h => ?_)]
    · refine iteF ⟨.ref L, rfl, .inl ⟨rfl, _, SqL.of eL2⟩, .ref b, rfl, b, _, _, .str r.1, rfl, rfl, SqT.of hb2, rfl, L, _, _, rfl, rfl, eL2, ?_, _, _, rfl, same_upd sB nL, ?_⟩
      · rw [List.length_map, List.length_map, List.length_take]
        exact small1000 (by omega)
      · rw [upd_same, List.take_add_one, hr2]
        simp
    · rw [List.map_take] at h
      obtain ⟨j, hj, ej⟩ := List.getElem_of_mem h
      rw [List.length_take, List.length_map] at hj
      rw [List.getElem_take] at ej
      have e2 : (m.rs.map (·.1))[j]? = (m.rs.map (·.1))[i]? := by
        rw [List.getElem?_eq_getElem (by rw [List.length_map]; omega), ej, List.getElem?_map, hr2]
        rfl
      have := (List.getElem?_inj (by rw [List.length_map]; omega) g.rd).mp e2
      omega
  · rintro σ H1 ⟨o3, o4, rfl, s1, _⟩
    exact q H1 s1
end
end Ks
set_option Elab.async false
set_option linter.all false
set_option maxRecDepth 100000
set_option maxHeartbeats 4000000
namespace Ks
open PySem PySem.Spec PyProof.Rows L2 Gd Kx
section
variable {P : Program} {w : World} {K : PySem.W.Frag} {mg : Str → Option Value} {base : Heap}
/-- the kinds found so far -/
structure Full (m : Md) (fl : List Str) : Prop where
  nd : fl.Nodup
  sub : ∀ x ∈ fl, x ∈ m.ks
theorem Full.len {m : Md} {fl : List Str} (g : Good m) (f : Full m fl) : fl.length ≤ 4 := Nat.le_trans (nd_le fl m.ks f.nd f.sub) g.k4
theorem ok_ct {f : Addr} {fd : FuncData} (F : Fun K "_check_trees" "_check_trees" sCt f fd) (T : TS0 mg) : FnOk P w K mg base CX0 1 f fd ["kinds", "constructors"] (fun vs H Q E => ∃ (a c : Addr), vs = [.ref a, .ref c] ∧ spCc [.ref c, .ref a] H Q E) := by
  refine F.ok scCt (fun vs H Q E h => ?_) (fun cv A ou s H vs Q E hr h => ?_)
  · obtain ⟨c, a, rfl, _⟩ := h
    rfl
  obtain ⟨a, c, rfl, c', a', m, ec, hs, ⟨xs, hc, hp⟩, g, q⟩ := h
  cases ec
  have ln : xs.length = m.rs.length := Paired.length hp
  have k1 := g.k1
  have k4 := g.k4
  refine ⟨_, pss_cons (ps_set (i := 2) scCt.nd rfl (.inr rfl) (pe_lst pa_nil))
    (pss_cons (ps_for PassesOwn.never rfl (pi_range1 rfl T.rng (pa_cons (pe_callB call_len_seq (by rfl) T.len PySem.boot_len (pa_cons (pv 0) pa_nil)) pa_nil)) (pg_name (i := 3) scCt.nd rfl (.inl rfl))
      (pss_one (ps_for PassesOwn.never rfl (pi_tup (pv 1)) (pg_name (i := 4) scCt.nd rfl (.inl rfl))
        (pss_cons (ps_par (i := 5) (j := 6) (by rfl) scCt.nd rfl rfl (by decide) rfl rfl (pa_cons (pe_ix ix_tup (pv 4) pe_int (fun _ _ => rfl)) (pa_cons (pe_ix ix_tup (pv 4) pe_int (fun _ _ => rfl)) pa_nil)) (by rfl))
        (pss_one (ps_if (PW.pt (pw_and (pt_cmpR op_notIn_seq (pv 5) (pv 2) (by rfl)) (pw_and1 (pt_val (pe_callB (cr_all rfl) (by rfl) T.all boot_all (pa_cons (pe_lc (own := [("field", 7)]) (g := gName 7) (tt := tYes) rfl scCt.nd (pi_tup (pv 6)) (blkOk_by (own := [("field", 7)]) (N := ["kinds", "constructors", "full", "_", "constructor", "kind", "fields", "field"]) (sc := defScope sCt) (by decide +kernel))
            (fun _ _ _ _ _ => pg_name (i := 7) scCt.nd rfl (Or.inl rfl)) (fun _ _ _ _ _ => pts_nil)
            (fun _ _ _ _ _ => asTE (te := tOp (rIn K false) (tVar 7) (tVar 2)) (pe_cmpR op_in_seq (pv 7) (pv 2) (by rfl)) rfl)) pa_nil))))))
          (pss_one (ps_expr (pe_bm PySem.F.plainAttrs_list PySem.F.slot_list_append PySem.F.type_list_append mt_append (pv 2) (pa_cons (pv 5) pa_nil)))) pss_nil))))))
    (pss_one (ps_for PassesOwn.never rfl (pi_tup (pv 0)) (pg_name (i := 5) scCt.nd rfl (.inl rfl)) (pss_one (ps_if (pt_cmpR op_notIn_seq (pv 5) (pv 2) (by rfl)) pss_never pss_nil))))), ?_⟩
  refine ⟨(by show 0 ≤ sizeLine; exact Nat.zero_le _), fun L nL => ?_⟩
  refine ⟨.ref a, rfl, a, _, rfl, .inr (SqT.of (same_new nL _ _ hs)), _, rfl, ?_, ?_, for_range (fun i σ H' => ∃ (o3 o4 o5 o6 : Option V) (fl : List Str), σ = [some (.ref a), some (.ref c), some (.ref L), o3, o4, o5, o6, none] ∧ Same H H' ∧ H' L = some (.lst (fl.map V.str)) ∧ Full m fl ∧ (1 ≤ i → ∀ k ∈ m.ks, k ∈ fl))
    ⟨none, none, none, none, [], rfl, same_new nL, upd_same, ⟨.nil, fun x hx => by cases hx⟩, fun h => by omega⟩ ?_ ?_⟩
  · omega
  · rw [List.length_map]
    omega
  · rintro i σ H1 hi ⟨o3, o4, o5, o6, fl, rfl, s1, eL, fu, al⟩
    refine ⟨.ref c, rfl, c, rfl, ⟨_, (hc.keep s1).sq⟩, for_tup (K := K) (a := c) (xs := xs) (fun j σ H' => ∃ (o4 o5 o6 : Option V) (fl : List Str), σ = [some (.ref a), some (.ref c), some (.ref L), some (.int (0 + (i : Int))), o4, o5, o6, none] ∧ Same H H' ∧ H' L = some (.lst (fl.map V.str)) ∧ Full m fl ∧ (∀ r ∈ m.rs.take j, r.2.2 = [] → r.2.1 ∈ fl) ∧ (1 ≤ i → ∀ k ∈ m.ks, k ∈ fl))
      ⟨o4, o5, o6, fl, rfl, s1, eL, fu, (fun r hr _ => by rw [List.take_zero] at hr; cases hr), al⟩ (fun j σ H' _ p => ?_) ?_ ?_⟩
    · obtain ⟨_, _, _, _, _, s2, _⟩ := p
      exact (hc.keep s2).sq
    · clear eL fu al
      rintro j x σ H2 hx ⟨o4, o5, o6, fl, rfl, s2, eL, fu, nn, al⟩
      obtain ⟨r, hr2, b, fa, rfl, hb, hf⟩ := rows_at hp hx
      have hrm := List.mem_of_getElem? hr2
      have hb2 := s2 _ _ hb
      have hf2 : StT H2 fa r.2.2 := s2 _ _ hf
      have l4 := fu.len g
      have gf := g.f3 r hrm
      refine ⟨.ref b, rfl, b, _, _, .str r.2.1, rfl, rfl, SqT.of hb2, rfl, .ref b, rfl, b, _, _, .ref fa, rfl, rfl, SqT.of hb2, rfl, _, _, rfl, ?_⟩
      have tk : ∀ fl' : List Str, (∀ x ∈ fl, x ∈ fl') → (r.2.2 = [] → r.2.1 ∈ fl') → ∀ r' ∈ m.rs.take (j + 1), r'.2.2 = [] → r'.2.1 ∈ fl' := fun fl' h1 h2 r' hr' e => by
        rw [List.take_add_one, hr2] at hr'
        rcases List.mem_append.mp hr' with z | z
        · exact h1 _ (nn r' z e)
        · have : r' = r := by simpa using z
          subst this
          exact h2 e
      refine ⟨.str r.2.1, rfl, .ref L, rfl, L, _, rfl, .inl (SqL.of eL), rfl, all_flat _, _, rfl, ?_⟩
      rw [if_pos rfl, inV_str]
      by_cases hk : r.2.1 ∈ fl
      · rw [decide_eq_true hk]
        refine iteF (iteF ?_)
        exact ⟨_, _, _, fl, rfl, s2, eL, fu, tk fl (fun _ h => h) fun _ => hk, al⟩
      · rw [decide_eq_false hk]
        refine iteT ?_
        refine ⟨.ref fa, rfl, fa, rfl, ⟨_, SqT.of hf2⟩, fun D nD => lc_funT (K := K) (a := fa) (xs := r.2.2.map V.str) (ys := (r.2.2.map fun z => decide (z ∈ fl)).map V.bl) (fun _ => rfl) nD (SqT.of hf2) (by rw [List.length_map]; omega) (by rw [List.length_map, List.length_map, List.length_map]) (fun n x y H3 hx hy s3 q => ?_) fun H3 s3 eD => ?_⟩
        · intro k
          rw [List.getElem?_map] at hx
          cases e : r.2.2[n]? with
          | none => rw [e] at hx; cases hx
          | some z =>
            rw [e] at hx
            cases hx
            rw [List.getElem?_map, List.getElem?_map, e] at hy
            cases hy
            refine ⟨.str z, rfl, .ref L, rfl, L, _, rfl, .inl (SqL.of (s3 _ _ eL)), rfl, all_flat _, ?_⟩
            rw [if_neg (by decide), inV_str]
            exact k H3 fun _ _ e => e
        · refine ⟨D, _, rfl, SqL.of eD, _, rfl, ?_⟩
          have eL3 := s3 _ _ eL
          have s4 := s2.trans s3
          cases hb : (r.2.2.map fun z => decide (z ∈ fl)).all id with
          | false =>
            refine iteF ⟨_, _, _, fl, rfl, s4, eL3, fu, tk fl (fun _ h => h) fun e => ?_, al⟩
            rw [e] at hb
            cases hb
          | true =>
            refine iteT ⟨.ref L, rfl, .inl ⟨rfl, _, SqL.of eL3⟩, .str r.2.1, rfl, L, _, _, rfl, rfl, eL3, ?_, _, _, _, fl ++ [r.2.1], rfl, same_upd s4 nL, ?_, ⟨?_, ?_⟩, tk _ (fun _ h => List.mem_append_left _ h) (fun _ => List.mem_append_right _ (List.mem_singleton.mpr rfl)), fun h k hk2 => List.mem_append_left _ (al h k hk2)⟩
            · rw [List.length_map]
              exact small1000 (by omega)
            · rw [upd_same, List.map_append]
              rfl
            · rw [List.nodup_append]
              exact ⟨fu.nd, List.nodup_cons.mpr ⟨by simp, .nil⟩, fun x hx y hy e => hk (by rw [List.mem_singleton.mp hy] at e; rw [← e]; exact hx)⟩
            · intro x hx
              rcases List.mem_append.mp hx with z | z
              · exact fu.sub x z
              · rw [List.mem_singleton.mp z]
                exact g.rk r hrm
    · clear eL fu al
      rintro σ H2 ⟨o4, o5, o6, fl, rfl, s2, eL, fu, nn, al⟩
      refine ⟨_, o4, o5, o6, fl, rfl, s2, eL, fu, fun _ k hk => ?_⟩
      obtain ⟨r, hr, rfl, e⟩ := g.tr k hk
      refine nn r ?_ e
      rw [ln, List.take_length]
      exact hr
  · rintro σ H1 ⟨o3, o4, o5, o6, fl, rfl, s1, eL, fu, al⟩
    have al2 := al (by rw [List.length_map]; omega)
    refine ⟨.ref a, rfl, a, rfl, ⟨_, SqT.of (s1 _ _ hs)⟩, for_tup (K := K) (a := a) (xs := m.ks.map V.str) (fun j σ H' => ∃ (o3 o4 o5 o6 : Option V), σ = [some (.ref a), some (.ref c), some (.ref L), o3, o4, o5, o6, none] ∧ H' = H1) ⟨_, _, _, _, rfl, rfl⟩ (fun j σ H' _ p => ?_) ?_ ?_⟩
    · obtain ⟨_, _, _, _, _, rfl⟩ := p
      exact SqT.of (s1 _ _ hs)
    · rintro j x σ H2 hx ⟨o3, o4, o5, o6, rfl, rfl⟩
      obtain ⟨z, hz, rfl⟩ : ∃ z, m.ks[j]? = some z ∧ x = V.str z := by
        rw [List.getElem?_map] at hx
        cases e : m.ks[j]? with
        | none => rw [e] at hx; cases hx
        | some z => rw [e] at hx; exact ⟨z, rfl, (Option.some.inj hx).symm⟩
      refine ⟨.str z, rfl, .ref L, rfl, L, _, rfl, .inl (SqL.of eL), rfl, all_flat _, _, rfl, ?_⟩
      rw [if_pos rfl, inV_str, decide_eq_true (al2 z (List.mem_of_getElem? hz))]
      exact iteF ⟨_, _, _, _, rfl, rfl⟩
    · rintro σ H2 ⟨o3, o4, o5, o6, rfl, rfl⟩
      exact q _ s1
end
end Ks
set_option Elab.async false
set_option linter.all false
set_option maxRecDepth 100000
set_option maxHeartbeats 4000000
namespace Ks
open PySem PySem.Spec PyProof.Rows L2 Gd Kx
/-! the places of names: {name: place for place, name in enumerate(names)} -/
def plF : Nat → List Str → List (Key × V)
  | _, [] => []
  | i, t :: r => (.inr t, .int (i : Nat)) :: plF (i + 1) r
def plc (ts : List Str) : List (Key × V) := plF 0 ts
theorem plF_len (ts : List Str) : ∀ i, (plF i ts).length = ts.length := by
  induction ts with
  | nil => intro i; rfl
  | cons t r ih => intro i; show (plF (i + 1) r).length + 1 = r.length + 1; rw [ih]
theorem plF_app (ts us : List Str) : ∀ i, plF i (ts ++ us) = plF i ts ++ plF (i + ts.length) us := by
  induction ts with
  | nil => intro i; rfl
  | cons t r ih =>
    intro i
    show (Sum.inr t, V.int (i : Nat)) :: plF (i + 1) (r ++ us) = (Sum.inr t, V.int (i : Nat)) :: (plF (i + 1) r ++ plF (i + (r.length + 1)) us)
    rw [ih, show i + 1 + r.length = i + (r.length + 1) by omega]
theorem plF_keys (ts : List Str) : ∀ i, (plF i ts).map (·.1) = ts.map Sum.inr := by
  induction ts with
  | nil => intro i; rfl
  | cons t r ih => intro i; show Sum.inr t :: (plF (i + 1) r).map (·.1) = Sum.inr t :: r.map Sum.inr; rw [ih]
theorem plc_put {ts : List Str} (nd : ts.Nodup) {i : Nat} {z : Str} (h : ts[i]? = some z) : putK (plc (ts.take i)) (.inr z) (.int (i : Nat)) = plc (ts.take (i + 1)) := by
  have hl : i < ts.length := (List.getElem?_eq_some_iff.mp h).1
  have nz : z ∉ ts.take i := fun m => by
    obtain ⟨j, hj, e⟩ := List.mem_iff_getElem.mp m
    rw [List.length_take] at hj
    rw [List.getElem_take] at e
    have e1 : ts[j]? = some z := by rw [List.getElem?_eq_getElem (by omega), e]
    have := (List.getElem?_inj (by omega) nd).mp (e1.trans h.symm)
    omega
  have na : ((plc (ts.take i)).any fun kv => decide (kv.1 = Sum.inr z)) = false := by
    rw [List.any_eq_false]
    intro kv hkv hd
    have hk : kv.1 ∈ (plc (ts.take i)).map (·.1) := List.mem_map.mpr ⟨kv, hkv, rfl⟩
    unfold plc at hk
    rw [plF_keys, of_decide_eq_true hd] at hk
    obtain ⟨y, hy, e⟩ := List.mem_map.mp hk
    cases e
    exact nz hy
  unfold putK
  rw [if_neg (by rw [na]; decide)]
  rw [List.take_add_one, h]
  unfold plc
  rw [plF_app, List.length_take, Nat.zero_add, Nat.min_eq_left (Nat.le_of_lt hl)]
  rfl
theorem plF_val {z : Str} (ts : List Str) : ∀ (i j : Nat), ts.Nodup → ts[j]? = some z → valV (plF i ts) (.inr z) = some (.int ((i + j : Nat) : Int)) := by
  induction ts with
  | nil => intro i j _ h; simp at h
  | cons t r ih =>
    intro i j nd h
    cases j with
    | zero =>
      rw [List.getElem?_cons_zero] at h
      cases h
      unfold plF valV
      rw [List.find?_cons_of_pos (by simp)]
      rfl
    | succ j =>
      rw [List.getElem?_cons_succ] at h
      have hz : z ∈ r := List.mem_of_getElem? h
      have ne : t ≠ z := fun e => (List.nodup_cons.mp nd).1 (e ▸ hz)
      have := ih (i + 1) j (List.nodup_cons.mp nd).2 h
      unfold plF
      unfold valV at this ⊢
      rw [List.find?_cons_of_neg (by simpa using ne), this]
      rw [show i + 1 + j = i + (j + 1) by omega]
theorem plc_val {z : Str} {ts : List Str} {j : Nat} (nd : ts.Nodup) (h : ts[j]? = some z) : valV (plc ts) (.inr z) = some (.int (j : Nat)) := by
  have := plF_val ts 0 j nd h
  rw [Nat.zero_add] at this
  exact this
theorem fz_inj {H : Hp} {a : Addr} {ts us : List Str} (h : FzT H a (ts.map V.str)) (h2 : FzT H a (us.map V.str)) : ts = us := by
  obtain ⟨o, e, _⟩ := h
  obtain ⟨o2, e2, _⟩ := h2
  have e3 := e.symm.trans e2
  injection e3 with e3
  injection e3 with _ e3
  injection e3 with e3
  exact List.map_inj_right (fun _ _ h => by injection h) |>.mp e3
/-- the walk of such a comprehension -/
theorem dc_places {K : PySem.W.Frag} {n D : Addr} {ts : List Str} {j1 j2 : Nat} {σ : L2.St} {vs : List Nat} {H : Hp} {Qd : Hp → Prop} (hS : FzT H n (ts.map V.str)) (hD : H D = none) (nd : ts.Nodup) (hl : ts.length < 1000)
    (h1 : ∀ a b, (((wipe σ vs).set j1 (some a)).set j2 (some b))[j2]? = some (some b)) (h2 : ∀ a b, (((wipe σ vs).set j1 (some a)).set j2 (some b))[j1]? = some (some a)) (hw : ∀ a b, wipe (((wipe σ vs).set j1 (some a)).set j2 (some b)) vs = wipe σ vs)
    (hd : ∀ H', Same H H' → H' D = some (.dK (plc ts)) → Qd H') :
    ∃ W : Nat → Nat → Hp → Prop, (∃ m, W 0 m (upd H D (.dK []))) ∧ ∀ i m H, W i m H →
      ((Iet K n).stop i H ∧ Qd H) ∨ ((Iet K n).go i H ∧ ∃ Nx : Hp → Prop, (∀ H', Nx H' → ∃ m', m' < m ∧ W (i + 1) m' H') ∧ ∀ x H', (Iet K n).yld i H x H' → gTup K 2 (gCons (gName j1) (gCons (gName j2) gNil)) x (wipe σ vs) H' fun σ2 H2 => wipe σ2 vs = wipe σ vs ∧ tYes σ2 H2 fun b H3 =>
        if b = true then tVar j2 σ2 H3 fun y H4 => tVar j1 σ2 H4 fun z H5 => ∃ kvs k, y = kV k ∧ H5 D = some (.dK kvs) ∧ kvs.length < sizeLine ∧ Nx (upd H5 D (.dK (putK kvs k z))) else Nx H3) := by
  refine ⟨fun i m H' => i + m = ts.length ∧ Same H H' ∧ H' D = some (.dK (plc (ts.take i))), ⟨ts.length, Nat.zero_add _, same_new hD, upd_same⟩, fun i m H' w => ?_⟩
  obtain ⟨em, s, eD⟩ := w
  have hq := (hS.keep s).sq (K := K)
  cases m with
  | zero =>
    refine .inl ⟨⟨_, hq, by rw [List.length_map]; omega⟩, hd H' s ?_⟩
    rw [eD, List.take_of_length_le (by omega)]
  | succ m =>
    have hi : i < ts.length := by omega
    have ez : ts[i]? = some ts[i] := List.getElem?_eq_getElem hi
    refine .inr ⟨⟨_, .str ts[i], hq, by rw [List.getElem?_map, ez]; rfl⟩, fun H2 => Same H H2 ∧ H2 D = some (.dK (plc (ts.take (i + 1)))), fun H2 ⟨a, b⟩ => ⟨m, Nat.lt_succ_self m, by omega, a, b⟩, ?_⟩
    rintro x H2 ⟨p, v, rfl, np, rfl, hv⟩
    have ev : v = .str ts[i] := by
      have := hv _ hq
      rw [List.getElem?_map, ez] at this
      exact (Option.some.inj this).symm
    subst ev
    refine ⟨p, _, rfl, SqT.of upd_same, rfl, _, _, rfl, _, _, rfl, rfl, hw _ _, Gd.yes_if ⟨.str ts[i], h1 _ _, .int (i : Nat), h2 _ _, plc (ts.take i), .inr ts[i], rfl, ?_, ?_, ?_, ?_⟩⟩
    · rw [upd_ne (ne_of_none eD np)]
      exact eD
    · unfold plc
      rw [plF_len, List.length_take]
      exact small1000 (by omega)
    · intro b o e
      have hb := s _ _ e
      rw [upd_ne (ne_of_none e hD), upd_ne (ne_of_none hb np)]
      exact hb
    · rw [upd_same, plc_put nd ez]
end Ks
set_option Elab.async false
set_option linter.all false
set_option maxRecDepth 100000
set_option maxHeartbeats 4000000
namespace Ks
open PySem PySem.Spec PyProof.Rows L2 Gd Kx
def cS (i : Nat) : Stmt := inClass (Kx.topS 31) i
def nIni : List Str := ["self", "kinds", "constructors", "constructor", "place", "name"]
theorem scIni : FnScope nIni ["self", "kinds", "constructors"] (defScope (cS 0)) := ⟨rfl, rfl, rfl, by decide +kernel, rfl, by decide +kernel, by decide +kernel⟩
/-- the fields of a schema -/
def scF (k c n d : Addr) : List (Str × V) := putF "_places" (.ref d) (putF "_names" (.ref n) (putF "_constructors" (.ref c) (putF "_kinds" (.ref k) [])))
theorem scF_k {k c n d : Addr} : (scF k c n d).lookup ("_kinds" : Str) = some (V.ref k) := rfl
theorem scF_c {k c n d : Addr} : (scF k c n d).lookup ("_constructors" : Str) = some (V.ref c) := rfl
theorem scF_n {k c n d : Addr} : (scF k c n d).lookup ("_names" : Str) = some (V.ref n) := rfl
theorem scF_p {k c n d : Addr} : (scF k c n d).lookup ("_places" : Str) = some (V.ref d) := rfl
/-- an instance with such fields and the places of its names -/
def InS (C : Addr) (H : Hp) (a dx k c n : Addr) (ts : List Str) : Prop := ∃ d : Addr, H a = some (.ins C dx (scF k c n d)) ∧ H d = some (.dK (plc ts))
theorem InS.keep {C : Addr} {H H' : Hp} {a dx k c n : Addr} {ts : List Str} (h : InS C H a dx k c n ts) (s : Same H H') : InS C H' a dx k c n ts := by
  obtain ⟨d, h1, h2⟩ := h
  exact ⟨d, s _ _ h1, s _ _ h2⟩
/-- a schema at a -/
def ScAt (C : Addr) (H : Hp) (a : Addr) (m : Md) : Prop := ∃ dx k c n : Addr, InS C H a dx k c n (m.rs.map (·.1)) ∧ StT H k m.ks ∧ RowsT H c m.rs ∧ FzT H n ((m.rs.map (·.1)).map V.str)
theorem ScAt.keep {C : Addr} {H H' : Hp} {a : Addr} {m : Md} (h : ScAt C H a m) (s : Same H H') : ScAt C H' a m := by
  obtain ⟨dx, k, c, n, h1, h2, h3, h4⟩ := h
  exact ⟨dx, k, c, n, h1.keep s, s _ _ h2, h3.keep s, h4.keep s⟩
/-- what is known of the class -/
structure SCl (K : PySem.W.Frag) (C : Addr) : Prop where
  cls : Cls K C
  nk : NoAttr K C "_kinds"
  nc : NoAttr K C "_constructors"
  nn : NoAttr K C "_names"
  np : NoAttr K C "_places"
section
variable {P : Program} {w : World} {K : PySem.W.Frag} {mg : Str → Option Value} {base : Heap} {C : Addr}
/-- all but x stands -/
def But (x : Addr) (H H' : Hp) : Prop := ∀ b o, b ≠ x → H b = some o → H' b = some o
def spIni (C : Addr) : Sp := fun vs H Q _ => ∃ (x dx k c : Addr) (m : Md), vs = [.ref x, .ref k, .ref c] ∧ H x = some (.ins C dx []) ∧ StT H k m.ks ∧ RowsT H c m.rs ∧ Good m ∧
  ∀ n H', But x H H' → n ≠ x → InS C H' x dx k c n (m.rs.map (·.1)) → FzT H' n ((m.rs.map (·.1)).map V.str) → Q .non H'
theorem ok_ini {f fk fc ft : Addr} {fd fdk fdc fdt : FuncData} (F : Fun K "__init__" "Schema.__init__" (cS 0) f fd) (T : TS0 mg) (Z : SCl K C)
    (GK : FnOk P w K mg base CX0 2 fk fdk ["kinds"] spCk) (kk : PySem.W.keepIn K (.ref fk) = true) (bK : Binds K fdk ["kinds"] []) (gK : mg "_check_kinds" = some (.ref fk))
    (GC : FnOk P w K mg base CX0 3 fc fdc ["constructors", "kinds"] spCc) (kc : PySem.W.keepIn K (.ref fc) = true) (bC : Binds K fdc ["constructors", "kinds"] []) (gC : mg "_check_constructors" = some (.ref fc))
    (GT : FnOk P w K mg base CX0 1 ft fdt ["kinds", "constructors"] (fun vs H Q E => ∃ (a c : Addr), vs = [.ref a, .ref c] ∧ spCc [.ref c, .ref a] H Q E)) (kt : PySem.W.keepIn K (.ref ft) = true) (bT : Binds K fdt ["kinds", "constructors"] []) (gT : mg "_check_trees" = some (.ref ft)) :
    FnOk P w K mg base CX0 4 f fd ["self", "kinds", "constructors"] (spIni C) := by
  refine F.ok scIni (fun vs H Q E h => ?_) (fun cv A ou s H vs Q E hr h => ?_)
  · obtain ⟨x, dx, k, c, m, rfl, _⟩ := h
    rfl
  obtain ⟨x, dx, k, c, m, rfl, hx, hs, hc, g, q⟩ := h
  have hr2 : Room 2 (A.deeper (envOfC "Schema.__init__" (defScope (cS 0)) s.heap.objs.size f cv)) := hr.mono (by decide)
  have hr1 : Room 1 (A.deeper (envOfC "Schema.__init__" (defScope (cS 0)) s.heap.objs.size f cv)) := hr.mono (by decide)
  refine ⟨_, pss_cons (ps_expr (pe_call GK hr2 (by rfl) gK kk bK .nil pass0 (pa_cons (pv 1) pa_nil)))
    (pss_cons (ps_expr (pe_call GC hr (by rfl) gC kc bC .nil pass0 (pa_cons (pv 2) (pa_cons (pv 1) pa_nil))))
    (pss_cons (ps_expr (pe_call GT hr1 (by rfl) gT kt bT .nil pass0 (pa_cons (pv 1) (pa_cons (pv 2) pa_nil))))
    (pss_cons (ps_fld (pv 0) (pv 1) rfl)
    (pss_cons (ps_fld (pv 0) (pv 2) rfl)
    (pss_cons (ps_fld (pv 0) (pe_tupF (by rfl) T.tup (pe_lc (own := [("constructor", 3)]) (g := gName 3) (tt := tYes) rfl scIni.nd (pi_tup (pv 2)) (blkOk_by (own := [("constructor", 3)]) (N := nIni) (sc := defScope (cS 0)) (by decide +kernel))
      (fun _ _ _ _ _ => pg_name (i := 3) scIni.nd rfl (Or.inl rfl)) (fun _ _ _ _ _ => pts_nil) (fun _ _ _ _ _ => asTE (te := tOp (rIxT K) (tVar 3) (tC (.int 0))) (pe_ix ix_tup (pv 3) pe_int (fun _ _ => rfl)) rfl))) rfl)
    (pss_one (ps_fld (pv 0) (pe_dc (own := [("place", 4), ("name", 5)]) (g := gTup K 2 (gCons (gName 4) (gCons (gName 5) gNil))) (tt := tYes) (tk := tVar 5) (tv := tVar 4) rfl scIni.nd (pi_enT (by rfl) T.enu (pa_cons (pe_fld (pv 0) rfl) pa_nil)) (blkOk_by (own := [("place", 4), ("name", 5)]) (N := nIni) (sc := defScope (cS 0)) (by decide +kernel))
      (fun _ _ _ _ _ => pg_tup (by rfl) (pgs_cons (pg_name (i := 4) scIni.nd rfl (Or.inl rfl)) (pgs_cons (pg_name (i := 5) scIni.nd rfl (Or.inl rfl)) pgs_nil))) (fun _ _ _ _ _ => pts_nil) (fun _ _ _ _ _ => pv 5) (fun _ _ _ _ _ => pv 4)) rfl))))))), ?_⟩
  refine ⟨.ref k, rfl, k, m, rfl, hs, g, fun H1 s1 => ?_⟩
  refine ⟨.ref c, rfl, .ref k, rfl, c, k, m, rfl, s1 _ _ hs, hc.keep s1, g, fun H2 s2 => ?_⟩
  have s12 := s1.trans s2
  refine ⟨.ref k, rfl, .ref c, rfl, k, c, rfl, c, k, m, rfl, s12 _ _ hs, hc.keep s12, g, fun H3 s3 => ?_⟩
  have s13 := s12.trans s3
  refine ⟨.ref k, rfl, .ref x, rfl, x, C, dx, [], rfl, s13 _ _ hx, Z.cls, Z.nk, by decide, ?_⟩
  refine ⟨.ref c, rfl, .ref x, rfl, x, C, dx, _, rfl, upd_same, Z.cls, Z.nc, (show 1 < 1000 by decide), ?_⟩
  have hs' : H k = some (.tup (m.ks.map V.str)) := hs
  have kx : k ≠ x := fun e => by rw [e, hx] at hs'; cases hs'
  obtain ⟨xs, hc1, hp⟩ := hc
  have b5 : But x H (upd (upd H3 x (.ins C dx (putF "_kinds" (V.ref k) []))) x (.ins C dx (putF "_constructors" (V.ref c) (putF "_kinds" (V.ref k) [])))) := fun b o n e => by
    rw [upd_ne n, upd_ne n]
    exact s13 _ _ e
  have x5 : (upd (upd H3 x (.ins C dx (putF "_kinds" (V.ref k) []))) x (.ins C dx (putF "_constructors" (V.ref c) (putF "_kinds" (V.ref k) [])))) x = some (.ins C dx (putF "_constructors" (V.ref c) (putF "_kinds" (V.ref k) []))) := upd_same
  revert b5 x5
  generalize upd (upd H3 x (.ins C dx (putF "_kinds" (V.ref k) []))) x (.ins C dx (putF "_constructors" (V.ref c) (putF "_kinds" (V.ref k) []))) = H5
  intro b5 x5
  have hc5 : TupA H5 c xs := hc1.by fun o _ n e => b5 _ _ (fun z => by rw [z, hx] at e; cases e; exact n _ _ _ rfl) e
  have r6 := g.r6
  have ln : xs.length = m.rs.length := Paired.length hp
  refine ⟨.ref c, rfl, c, rfl, ⟨_, hc5.sq⟩, fun D nD => lc_funT (K := K) (a := c) (xs := xs) (ys := (m.rs.map (·.1)).map V.str) (fun _ => rfl) nD hc5.sq (by omega) (by rw [List.length_map, List.length_map, ln]) (fun n y z H6 hy hz s6 p => ?_) fun H6 s6 eD => ?_⟩
  · intro kk
    obtain ⟨r, hr2, b, fa, rfl, hb, hf⟩ := rows_at hp hy
    rw [List.getElem?_map, List.getElem?_map, hr2] at hz
    cases hz
    have bx : b ≠ x := fun e => by rw [e, hx] at hb; cases hb
    exact ⟨.ref b, rfl, b, _, _, .str r.1, rfl, rfl, SqT.of (s6 _ _ (b5 _ _ bx hb)), rfl, kk H6 fun _ _ e => e⟩
  · refine ⟨D, _, rfl, SqL.of eD, fun N H7 nN s7 fz => ?_⟩
    have x6 := s6 _ _ x5
    have Nx : N ≠ x := fun e => by rw [← e, nN] at x6; cases x6
    refine ⟨.ref x, rfl, x, C, dx, _, rfl, s7 _ _ x6, Z.cls, Z.nn, (show 2 < 1000 by decide), ?_⟩
    have fz8 : FzT (upd H7 x (.ins C dx (putF "_names" (V.ref N) (putF "_constructors" (V.ref c) (putF "_kinds" (V.ref k) []))))) N ((m.rs.map (·.1)).map V.str) := by
      obtain ⟨o, e, r⟩ := fz
      exact ⟨o, by rw [upd_ne Nx]; exact e, r⟩
    have b8 : But x H (upd H7 x (.ins C dx (putF "_names" (V.ref N) (putF "_constructors" (V.ref c) (putF "_kinds" (V.ref k) []))))) := fun b o n e => by
      rw [upd_ne n]
      exact s7 _ _ (s6 _ _ (b5 _ _ n e))
    have x8 : (upd H7 x (.ins C dx (putF "_names" (V.ref N) (putF "_constructors" (V.ref c) (putF "_kinds" (V.ref k) []))))) x = some (.ins C dx (putF "_names" (V.ref N) (putF "_constructors" (V.ref c) (putF "_kinds" (V.ref k) [])))) := upd_same
    revert fz8 b8 x8
    generalize upd H7 x (.ins C dx (putF "_names" (V.ref N) (putF "_constructors" (V.ref c) (putF "_kinds" (V.ref k) [])))) = H8
    intro fz8 b8 x8
    refine ⟨.ref x, rfl, x, C, dx, _, _, rfl, x8, Z.cls, Z.nn, rfl, N, _, rfl, fz8.sq, fun Dd nDd => dc_places fz8 nDd g.rd (by rw [List.length_map]; omega) (fun _ _ => rfl) (fun _ _ => rfl) (fun _ _ => rfl) fun H9 s9 eDd => ?_⟩
    have x9 := s9 _ _ x8
    have Dx : Dd ≠ x := fun e => by rw [← e, nDd] at x8; cases x8
    refine ⟨.ref x, rfl, x, C, dx, _, rfl, x9, Z.cls, Z.np, (show 3 < 1000 by decide), ?_⟩
    refine q N _ (fun b o n e => ?_) Nx ⟨Dd, upd_same, ?_⟩ ?_
    · rw [upd_ne n]
      exact s9 _ _ (b8 _ _ n e)
    · rw [upd_ne Dx]
      exact eDd
    · obtain ⟨o, e, r⟩ := fz8
      exact ⟨o, by rw [upd_ne Nx]; exact s9 _ _ e, r⟩
end
end Ks
set_option Elab.async false
set_option linter.all false
set_option maxRecDepth 100000
set_option maxHeartbeats 4000000
namespace Ks
open PySem PySem.Spec PyProof.Rows L2 Gd Kx
theorem scGk : FnScope ["self"] ["self"] (defScope (cS 2)) := ⟨rfl, rfl, rfl, by decide +kernel, rfl, by decide +kernel, by decide +kernel⟩
theorem scGc : FnScope ["self"] ["self"] (defScope (cS 3)) := ⟨rfl, rfl, rfl, by decide +kernel, rfl, by decide +kernel, by decide +kernel⟩
theorem scGr : FnScope ["self"] ["self"] (defScope (cS 4)) := ⟨rfl, rfl, rfl, by decide +kernel, rfl, by decide +kernel, by decide +kernel⟩
theorem scGn : FnScope ["self"] ["self"] (defScope (cS 5)) := ⟨rfl, rfl, rfl, by decide +kernel, rfl, by decide +kernel, by decide +kernel⟩
theorem scOf : FnScope ["self", "kind", "constructor"] ["self", "kind"] (defScope (cS 6)) := ⟨rfl, rfl, rfl, by decide +kernel, rfl, by decide +kernel, by decide +kernel⟩
theorem scCo : FnScope ["self", "name"] ["self", "name"] (defScope (cS 7)) := ⟨rfl, rfl, rfl, by decide +kernel, rfl, by decide +kernel, by decide +kernel⟩
theorem scPl : FnScope ["self", "name"] ["self", "name"] (defScope (cS 8)) := ⟨rfl, rfl, rfl, by decide +kernel, rfl, by decide +kernel, by decide +kernel⟩
theorem scLn : FnScope ["self"] ["self"] (defScope (cS 11)) := ⟨rfl, rfl, rfl, by decide +kernel, rfl, by decide +kernel, by decide +kernel⟩
theorem scCn : FnScope ["self", "value"] ["self", "value"] (defScope (cS 12)) := ⟨rfl, rfl, rfl, by decide +kernel, rfl, by decide +kernel, by decide +kernel⟩
section
variable {P : Program} {w : World} {K : PySem.W.Frag} {mg : Str → Option Value} {base : Heap} {C : Addr}
/-- an instance with the fields of a schema -/
def Raw (C : Addr) (H : Hp) (a k c n : Addr) : Prop := ∃ (dx : Addr) (ts : List Str), InS C H a dx k c n ts ∧ FzT H n (ts.map V.str)
theorem Raw.keep {C : Addr} {H H' : Hp} {a k c n : Addr} (h : Raw C H a k c n) (s : Same H H') : Raw C H' a k c n := by
  obtain ⟨dx, ts, h1, h2⟩ := h
  exact ⟨dx, ts, h1.keep s, h2.keep s⟩
def spGk (C : Addr) : Sp := fun vs H Q _ => ∃ a k c n : Addr, vs = [.ref a] ∧ Raw C H a k c n ∧ Q (.ref k) H
def spGc (C : Addr) : Sp := fun vs H Q _ => ∃ a k c n : Addr, vs = [.ref a] ∧ Raw C H a k c n ∧ Q (.ref c) H
def spGn (C : Addr) : Sp := fun vs H Q _ => ∃ a k c n : Addr, vs = [.ref a] ∧ Raw C H a k c n ∧ Q (.ref n) H
def spGr (C : Addr) : Sp := fun vs H Q _ => ∃ (a k c n : Addr) (z : Str) (r : List Str), vs = [.ref a] ∧ Raw C H a k c n ∧ StT H k (z :: r) ∧ Q (.str z) H
theorem ok_gk {f : Addr} {fd : FuncData} (F : Fun K "kinds" "Schema.kinds" (cS 2) f fd) (Z : SCl K C) : FnOk P w K mg base CX0 1 f fd ["self"] (spGk C) := by
  refine F.ok scGk (fun vs H Q E h => ?_) (fun cv A ou s H vs Q E hr h => ?_)
  · obtain ⟨a, k, c, n, rfl, _⟩ := h
    rfl
  obtain ⟨a, k, c, n, rfl, ⟨dx, ts0, ⟨dp, e, ed⟩, fz0⟩, q⟩ := h
  exact ⟨_, pss_one (ps_ret (pe_fld (pv 0) rfl)), .ref a, rfl, a, C, dx, _, _, rfl, e, Z.cls, Z.nk, scF_k, q⟩
theorem ok_gc {f : Addr} {fd : FuncData} (F : Fun K "constructors" "Schema.constructors" (cS 3) f fd) (Z : SCl K C) : FnOk P w K mg base CX0 1 f fd ["self"] (spGc C) := by
  refine F.ok scGc (fun vs H Q E h => ?_) (fun cv A ou s H vs Q E hr h => ?_)
  · obtain ⟨a, k, c, n, rfl, _⟩ := h
    rfl
  obtain ⟨a, k, c, n, rfl, ⟨dx, ts0, ⟨dp, e, ed⟩, fz0⟩, q⟩ := h
  exact ⟨_, pss_one (ps_ret (pe_fld (pv 0) rfl)), .ref a, rfl, a, C, dx, _, _, rfl, e, Z.cls, Z.nc, scF_c, q⟩
theorem ok_gn {f : Addr} {fd : FuncData} (F : Fun K "names" "Schema.names" (cS 5) f fd) (Z : SCl K C) : FnOk P w K mg base CX0 1 f fd ["self"] (spGn C) := by
  refine F.ok scGn (fun vs H Q E h => ?_) (fun cv A ou s H vs Q E hr h => ?_)
  · obtain ⟨a, k, c, n, rfl, _⟩ := h
    rfl
  obtain ⟨a, k, c, n, rfl, ⟨dx, ts0, ⟨dp, e, ed⟩, fz0⟩, q⟩ := h
  exact ⟨_, pss_one (ps_ret (pe_fld (pv 0) rfl)), .ref a, rfl, a, C, dx, _, _, rfl, e, Z.cls, Z.nn, scF_n, q⟩
theorem ok_gr {f : Addr} {fd : FuncData} (F : Fun K "root" "Schema.root" (cS 4) f fd) (Z : SCl K C) : FnOk P w K mg base CX0 1 f fd ["self"] (spGr C) := by
  refine F.ok scGr (fun vs H Q E h => ?_) (fun cv A ou s H vs Q E hr h => ?_)
  · obtain ⟨a, k, c, n, z, r, rfl, _⟩ := h
    rfl
  obtain ⟨a, k, c, n, z, r, rfl, ⟨dx, ts0, ⟨dp, e, ed⟩, fz0⟩, hk, q⟩ := h
  exact ⟨_, pss_one (ps_ret (pe_ix ix_tup (pe_fld (pv 0) rfl) pe_int (fun _ _ => rfl))), .ref a, rfl, a, C, dx, _, _, rfl, e, Z.cls, Z.nk, scF_k, k, _, _, V.str z, rfl, rfl, SqT.of hk, atI_nat (j := 0) (v := V.str z) rfl, q⟩
def spLn (C : Addr) : Sp := fun vs H Q _ => ∃ (a k c n : Addr) (xs : List V), vs = [.ref a] ∧ Raw C H a k c n ∧ TupA H c xs ∧ Q (.int xs.length) H
theorem ok_ln {f : Addr} {fd : FuncData} (F : Fun K "__len__" "Schema.__len__" (cS 11) f fd) (T : TS0 mg) (Z : SCl K C) : FnOk P w K mg base CX0 1 f fd ["self"] (spLn C) := by
  refine F.ok scLn (fun vs H Q E h => ?_) (fun cv A ou s H vs Q E hr h => ?_)
  · obtain ⟨a, k, c, n, xs, rfl, _⟩ := h
    rfl
  obtain ⟨a, k, c, n, xs, rfl, ⟨dx, ts0, ⟨dp, e, ed⟩, fz0⟩, hc, q⟩ := h
  exact ⟨_, pss_one (ps_ret (pe_callB call_len_seq (by rfl) T.len PySem.boot_len (pa_cons (pe_fld (pv 0) rfl) pa_nil))), .ref a, rfl, a, C, dx, _, _, rfl, e, Z.cls, Z.nc, scF_c, c, xs, rfl, .inr hc.sq, q⟩
def spCn (K : PySem.W.Frag) (C : Addr) : Sp := fun vs H Q _ => ∃ (a k c n : Addr) (v : V) (ts : List Str) (b : Bool), vs = [.ref a, v] ∧ Raw C H a k c n ∧ FzT H n (ts.map V.str) ∧ OneOf K H v ts b ∧ Q (.bl b) H
theorem ok_cn {f fo : Addr} {fd fdo : FuncData} (F : Fun K "__contains__" "Schema.__contains__" (cS 12) f fd) (Z : SCl K C)
    (GO : FnOk P w K mg base CX0 1 fo fdo ["value", "names"] (spOne K)) (ko : PySem.W.keepIn K (.ref fo) = true) (bO : Binds K fdo ["value", "names"] []) (gO : mg "_is_one_of" = some (.ref fo)) : FnOk P w K mg base CX0 2 f fd ["self", "value"] (spCn K C) := by
  refine F.ok scCn (fun vs H Q E h => ?_) (fun cv A ou s H vs Q E hr h => ?_)
  · obtain ⟨a, k, c, n, v, ts, b, rfl, _⟩ := h
    rfl
  obtain ⟨a, k, c, n, v, ts, b, rfl, ⟨dx, ts0, ⟨dp, e, ed⟩, fz0⟩, hn, o, q⟩ := h
  exact ⟨_, pss_one (ps_ret (pe_call GO hr (by rfl) gO ko bO .nil pass0 (pa_cons (pv 1) (pa_cons (pe_fld (pv 0) rfl) pa_nil)))), v, rfl, .ref a, rfl, a, C, dx, _, _, rfl, e, Z.cls, Z.nn, scF_n, v, n, ts, b, rfl, hn.sq, o, q⟩
/-- the place of a name -/
def spPl (C : Addr) : Sp := fun vs H Q _ => ∃ (a k c n : Addr) (ts : List Str) (z : Str) (j : Nat), vs = [.ref a, .str z] ∧ Raw C H a k c n ∧ FzT H n (ts.map V.str) ∧ ts.Nodup ∧ ts[j]? = some z ∧ Q (.int (j : Nat)) H
theorem ok_pl {f fo : Addr} {fd fdo : FuncData} (F : Fun K "place" "Schema.place" (cS 8) f fd) (Z : SCl K C)
    (GO : FnOk P w K mg base CX0 1 fo fdo ["value", "names"] (spOne K)) (ko : PySem.W.keepIn K (.ref fo) = true) (bO : Binds K fdo ["value", "names"] []) (gO : mg "_is_one_of" = some (.ref fo)) : FnOk P w K mg base CX0 2 f fd ["self", "name"] (spPl C) := by
  refine F.ok scPl (fun vs H Q E h => ?_) (fun cv A ou s H vs Q E hr h => ?_)
  · obtain ⟨a, k, c, n, ts, z, j, rfl, _⟩ := h
    rfl
  obtain ⟨a, k, c, n, ts, z, j, rfl, ⟨dx, ts0, ⟨dp, e, ed⟩, fz0⟩, hn, nd, hj, q⟩ := h
  refine ⟨_, pss_cons (ps_if (pt_not (pt_val (pe_call GO hr (by rfl) gO ko bO .nil pass0 (pa_cons (pv 1) (pa_cons (pe_fld (pv 0) rfl) pa_nil))))) pss_never pss_nil)
    (pss_one (ps_ret (pe_dget (hu_of hr) (pe_fld (pv 0) rfl) (pv 1) (fun _ _ => rfl)))), ?_⟩
  refine ⟨.str z, rfl, .ref a, rfl, a, C, dx, _, _, rfl, e, Z.cls, Z.nn, scF_n, .str z, n, ts, true, rfl, hn.sq, .inl ⟨z, rfl, (decide_eq_true (List.mem_of_getElem? hj)).symm⟩, true, rfl, iteF ?_⟩
  have ets := fz_inj fz0 hn
  subst ets
  exact ⟨.ref a, rfl, a, C, dx, _, _, rfl, e, Z.cls, Z.np, scF_p, .str z, rfl, dp, _, rfl, (by have := DGet.k (k := Sum.inr z) ed; rw [plc_val nd hj] at this; exact this), q⟩
/-- a constructor by its name -/
def spCo (C : Addr) : Sp := fun vs H Q _ => ∃ (a k c n : Addr) (ts : List Str) (xs : List V) (z : Str) (j : Nat) (x : V), vs = [.ref a, .str z] ∧ Raw C H a k c n ∧ FzT H n (ts.map V.str) ∧ ts.Nodup ∧ ts[j]? = some z ∧ TupA H c xs ∧ xs[j]? = some x ∧ Q x H
theorem ok_co {f fp : Addr} {fd fdp : FuncData} (F : Fun K "constructor" "Schema.constructor" (cS 7) f fd) (Z : SCl K C)
    (GP : FnOk P w K mg base CX0 2 fp fdp ["self", "name"] (spPl C)) (mP : Meth K C "place" fp) (bP : Binds K fdp ["self", "name"] []) : FnOk P w K mg base CX0 3 f fd ["self", "name"] (spCo C) := by
  refine F.ok scCo (fun vs H Q E h => ?_) (fun cv A ou s H vs Q E hr h => ?_)
  · obtain ⟨a, k, c, n, ts, xs, z, j, x, rfl, _⟩ := h
    rfl
  obtain ⟨a, k, c, n, ts, xs, z, j, x, rfl, ⟨dx, ts0, ⟨dp, e, ed⟩, fz0⟩, hn, nd, hj, hc, hx, q⟩ := h
  refine ⟨_, pss_one (ps_ret (pe_ix ix_tup (pe_fld (pv 0) rfl) (pe_meth (pv 0) Z.cls mP GP hr bP .nil pass0 (pa_cons (pv 1) pa_nil)) (fun _ _ => rfl))), ?_⟩
  exact ⟨.ref a, rfl, a, C, dx, _, _, rfl, e, Z.cls, Z.nc, scF_c, .ref a, rfl, a, dx, _, rfl, e, rfl, .str z, rfl, a, k, c, n, ts, z, j, rfl, ⟨dx, ts0, ⟨dp, e, ed⟩, fz0⟩, hn, nd, hj, c, xs, _, x, rfl, rfl, hc.sq, atI_nat hx, q⟩
end
end Ks
set_option Elab.async false
set_option linter.all false
set_option maxRecDepth 100000
set_option maxHeartbeats 4000000
/-! operations on an instance of a class of one's own, by its defs: len, repr, in, bool, ==, != -/
namespace Gd
open PySem PySem.Spec PyProof.Rows L2
section
variable {X : Cx} {CX : CXT} {k : Nat} {C f a dx : Addr} {fs : List (Str × V)} {fd : FuncData} {ps : List Str} {sp : Sp} {E : XK} {pins : List (Addr × Obj)} {σ : L2.St} {H : Hp} {s : Shared} {Q : VK} {A : Around} {us : List Value} {vs : List V} {E' : Value → Shared → Prop}
theorem run_at (F : FnOk X.prog X.w X.K X.mg X.base CX k f fd ps sp) (hr : Room k A) (e0 : Env0 X.prog X.w X.K X.mg X.base A X.stack s H) (hb : Binds X.K fd ps []) (hx : Passes CX X.nox E) (I : Inv X pins σ H s) (r : Vals vs us) (h : sp vs H Q E) :
    wpAny (model X.prog X.w) A (call (.ref f) us) (EP X pins σ Q) E' s := by
  have hl : (us ++ ([] : List Value)).length = ps.length := by rw [List.append_nil, ← r.length]; exact F.len _ _ _ _ h
  have hB := hb s us I.kIn hl
  rw [List.append_nil] at hB
  refine wpAny_call (codeAny_mono (F.run A X.stack s H ⟨us, []⟩ us vs Q E hr e0 hB r h) fun r s' hq => ?_)
  cases r with
  | error er => exact False.elim (hx pins σ H s er s' (I.wish _) hq)
  | ok fl =>
    cases fl with
    | ret u =>
      obtain ⟨v, H', I3, rv, q3⟩ := I.after hq
      exact ⟨v, H', I3, rv, q3⟩
    | next => exact False.elim hq
    | brk => exact False.elim hq
    | cont => exact False.elim hq
/-- a def of the class with this name -/
structure Dm (K : PySem.W.Frag) (C : Addr) (m : Str) (f : Addr) : Prop where
  at_ : PySem.W.findIn K (.ref C) m = some (some (.ref f))
  fn : PySem.W.isFn K (.ref f) = true
/-- len(x) -/
def rLenO (C : Addr) (sp : Sp) (E : XK) : List V → Hp → VK → Prop := fun xs H Q => ∃ a dx fs, xs = [.ref a] ∧ H a = some (.ins C dx fs) ∧ sp [.ref a] H (fun v H' => ∃ n : Int, v = .int n ∧ 0 ≤ n ∧ n < 2 ^ 63 ∧ Q (.int n) H') E
theorem call_lenO (D : Dm X.K C "__len__" f) (F : FnOk X.prog X.w X.K X.mg X.base CX k f fd ps sp) (hr : Room (k + 1) X.A) (hb : Binds X.K fd ps []) (hx : Passes CX X.nox E) : CallR X (.builtin "len") (rLenO C sp E) := by
  intro pins s σ H xs us Q I r h
  obtain ⟨a, dx, fs, rfl, ea, q⟩ := h
  have e1 := Vals.ref1 r
  subst e1
  obtain ⟨mA, J, _⟩ := ins_get I.hok ea
  obtain ⟨od, J, _⟩ := J.look
  obtain ⟨m, hF⟩ := I.fr
  refine PySem.W.len_K hF I.ok.mod.kin J D.at_ D.fn (wpAny_mono (run_at F hr.in1 I.env0.in1 hb hx I r q) (fun v s' z => ?_) fun _ _ e => e)
  obtain ⟨y, H', I', ry, n, ey, n0, n1, q2⟩ := z
  subst ey
  obtain ⟨t, rfl⟩ := ry
  exact ⟨⟨n0, n1⟩, .int n, H', I'.tok _, ⟨_, rfl⟩, q2⟩
/-- repr(x) -/
def rReprO (C : Addr) (sp : Sp) (E : XK) : List V → Hp → VK → Prop := fun xs H Q => ∃ a dx fs, xs = [.ref a] ∧ H a = some (.ins C dx fs) ∧ sp [.ref a] H (fun v H' => ∃ z : Str, v = .str z ∧ Q (.str z) H') E
theorem call_reprO (D : Dm X.K C "__repr__" f) (F : FnOk X.prog X.w X.K X.mg X.base CX k f fd ps sp) (hr : Room (k + 1) X.A) (hb : Binds X.K fd ps []) (hx : Passes CX X.nox E) : CallR X (.builtin "repr") (rReprO C sp E) := by
  intro pins s σ H xs us Q I r h
  obtain ⟨a, dx, fs, rfl, ea, q⟩ := h
  have e1 := Vals.ref1 r
  subst e1
  obtain ⟨mA, J, _⟩ := ins_get I.hok ea
  obtain ⟨od, J, _⟩ := J.look
  obtain ⟨m, hF⟩ := I.fr
  refine PySem.W.repr_K hr.in1.units0 hF I.ok.mod.kin J D.at_ D.fn (wpAny_mono (run_at F hr.in1 I.env0.in1 hb hx I r q) (fun v s' z => ?_) fun _ _ e => e)
  obtain ⟨y, H', I', ry, z, ey, q2⟩ := z
  subst ey
  obtain ⟨t, rfl⟩ := ry
  exact ⟨.str z, H', I', ⟨_, rfl⟩, q2⟩
/-- v in x -/
def rInO (C : Addr) (sp : Sp) (E : XK) : R2 := fun v y H Q => ∃ a dx fs, y = .ref a ∧ H a = some (.ins C dx fs) ∧ sp [.ref a, v] H (fun r H' => ∃ b : Bool, r = .bl b ∧ Q (.bl b) H') E
theorem op_inO (D : Dm X.K C "__contains__" f) (F : FnOk X.prog X.w X.K X.mg X.base CX k f fd ps sp) (hr : Room k X.A) (hb : Binds X.K fd ps []) (hx : Passes CX X.nox E) : OpR X (compareOp .In) (rInO C sp E) := by
  intro pins s σ H x y v u Q I rx ry h
  obtain ⟨a, dx, fs, rfl, ea, q⟩ := h
  obtain rfl : u = Value.ref a := ry
  obtain ⟨mA, J, _⟩ := ins_get I.hok ea
  obtain ⟨od, J, _⟩ := J.look
  obtain ⟨m, hF⟩ := I.fr
  refine PySem.W.in_K hF I.ok.mod.kin J D.at_ D.fn (wpAny_mono (run_at F hr I.env0 hb hx I (.cons (show RelV (V.ref a) (Value.ref a) from rfl) (.cons rx .nil)) q) (fun r s' z => ?_) fun _ _ e => e)
  obtain ⟨y, H', I', ry, b, ey, q2⟩ := z
  subst ey
  obtain rfl : r = Value.bool b := ry
  exact wpAny_pure ⟨.bl b, H', I', rfl, q2⟩
/-- x == y, x an instance: y one too, or a value of a type that is no class above -/
def rEqO (K : PySem.W.Frag) (C : Addr) (sp : Sp) (E : XK) : R2 := fun x y H Q => ∃ a dx fs, x = .ref a ∧ H a = some (.ins C dx fs) ∧ ((∃ b dy gs, y = .ref b ∧ H b = some (.ins C dy gs)) ∨ ∃ t, TyOf K H y t ∧ PySem.W.notFirst K C t = true) ∧
  sp [.ref a, y] H (fun r H' => ∃ b : Bool, r = .bl b ∧ Q (.bl b) H') E
/-- what type a value has, as the machine asks -/
theorem looks_ty {M : Model} {K : PySem.W.Frag} {y : V} {u t : Value} (hK : X.K = K) (I : Inv X pins σ H s) (r : RelV y u) (ty : TyOf K H y t) : PySem.W.Looks M s.heap (typeOf u) t := by
  subst hK
  have ld : ∀ {b : Addr} {o : Obj}, s.heap.get? b = some o → PySem.W.Looks M s.heap (typeOf (.ref b)) o.cls := fun e => (PySem.W.Looks.ld e).andThen .now
  cases ty with
  | non => cases (show u = Value.none from r); exact .now
  | bl b => cases (show u = Value.bool b from r); exact .now
  | int i => obtain ⟨t, e⟩ := (show ∃ t, u = Value.int i t from r); cases e; exact .now
  | str z => obtain ⟨t, e⟩ := (show ∃ t, u = Value.str z t from r); cases e; exact .now
  | flt z => obtain ⟨t, e⟩ := (show ∃ t, u = Value.float z t from r); cases e; exact .now
  | @lst b xs e =>
    cases (show u = Value.ref b from r)
    obtain ⟨_, its, n, _, g⟩ := (show ObjOk X.prog X.w H s.heap b (.lst xs) from I.hok b _ e)
    exact ld g
  | @frz b ob xs e =>
    cases (show u = Value.ref b from r)
    obtain ⟨_, _, its, n, _, g⟩ := (show ObjOk X.prog X.w H s.heap b (.frz ob (.lst xs)) from I.hok b _ e)
    exact ld g
  | @tup b xs e =>
    cases (show u = Value.ref b from r)
    obtain ⟨_, its, _, o, g, c, _⟩ := (show ObjOk X.prog X.w H s.heap b (.tup xs) from I.hok b _ e)
    rw [← c]
    exact ld g
  | @dK b kvs e =>
    cases (show u = Value.ref b from r)
    obtain ⟨_, _, vs, _, o, es, ep, g, ex, _⟩ := (show ObjOk X.prog X.w H s.heap b (.dK kvs) from I.hok b _ e)
    rw [← ex.1]
    exact ld g
  | @dT b kvs e =>
    cases (show u = Value.ref b from r)
    obtain ⟨_, _, xs, _, o, es, ep, g, ex, _⟩ := (show ObjOk X.prog X.w H s.heap b (.dT kvs) from I.hok b _ e)
    rw [← ex.1]
    exact ld g
  | @ins b C dx fs e cl ha hn htk hm =>
    cases (show u = Value.ref b from r)
    obtain ⟨mA, J, _⟩ := ins_get I.hok e
    obtain ⟨od, J, _⟩ := J.look
    exact J.type
theorem op_eqO (D : Dm X.K C "__eq__" f) (F : FnOk X.prog X.w X.K X.mg X.base CX k f fd ps sp) (hr : Room k X.A) (hb : Binds X.K fd ps []) (hx : Passes CX X.nox E) : OpR X (compareOp .Eq) (rEqO X.K C sp E) := by
  intro pins s σ H x y v u Q I rx ry h
  obtain ⟨a, dx, fs, rfl, ea, hy, q⟩ := h
  obtain rfl : v = Value.ref a := rx
  obtain ⟨mA, J, _⟩ := ins_get I.hok ea
  obtain ⟨od, J, _⟩ := J.look
  obtain ⟨m, hF⟩ := I.fr
  obtain ⟨tb, hb', hn⟩ : ∃ tb, PySem.W.Looks (model X.prog X.w) s.heap (typeOf u) tb ∧ PySem.W.notFirst X.K C tb = true := by
    rcases hy with ⟨b, dy, gs, rfl, eb⟩ | ⟨t, ty, nf⟩
    · obtain rfl : u = Value.ref b := ry
      obtain ⟨mB, J2, _⟩ := ins_get I.hok eb
      obtain ⟨od2, J2, _⟩ := J2.look
      exact ⟨_, J2.type, by simp [PySem.W.notFirst]⟩
    · exact ⟨t, looks_ty rfl I ry ty, nf⟩
  show wpAny _ _ (richCompare .Eq (.ref a) u) _ _ _
  refine PySem.W.cmp_K (op := .Eq) hr.units0 hF I.ok.mod.kin J hb' hn D.at_ D.fn (wpAny_mono (run_at F hr I.env0 hb hx I (.cons (show RelV (V.ref a) (Value.ref a) from rfl) (.cons ry .nil)) q) (fun r s' z => ?_) fun _ _ e => e)
  obtain ⟨y, H', I', ry, b, ey, q2⟩ := z
  subst ey
  obtain rfl : r = Value.bool b := ry
  exact ⟨.bl b, H', I', rfl, q2⟩
end
end Gd
set_option Elab.async false
set_option linter.all false
set_option maxRecDepth 100000
set_option maxHeartbeats 4000000
namespace Ks
open PySem PySem.Spec PyProof.Rows L2 Gd Kx
theorem scEq : FnScope ["self", "other"] ["self", "other"] (defScope (cS 13)) := ⟨rfl, rfl, rfl, by decide +kernel, rfl, by decide +kernel, by decide +kernel⟩
theorem scRp : FnScope ["self"] ["self"] (defScope (cS 10)) := ⟨rfl, rfl, rfl, by decide +kernel, rfl, by decide +kernel, by decide +kernel⟩
/-! ### kinds and constructors as plain data -/
def dSs (ss : List Str) : PyData := .tuple (ss.map .str)
def dRw (r : Rw) : PyData := .tuple [.str r.1, .str r.2.1, dSs r.2.2]
def dRs (rs : List Rw) : PyData := .tuple (rs.map dRw)
section
variable {K : PySem.W.Frag} {H : Hp}
theorem dp_strs : ∀ ss : List Str, DpAll K H (ss.map V.str) (ss.map PyData.str)
  | [] => .nil
  | s :: r => .cons (.str s) (dp_strs r)
theorem dp_st {a : Addr} {ss : List Str} (h : SqT K H a (ss.map V.str)) : Dp K H (.ref a) (dSs ss) := .tup h (dp_strs ss)
theorem dp_row {x : V} {r : Rw} (h : RowV H x r) : Dp K H x (dRw r) := by
  obtain ⟨b, f, rfl, h1, h2⟩ := h
  exact .tup (SqT.of h1) (.cons (.str _) (.cons (.str _) (.cons (dp_st (SqT.of h2)) .nil)))
theorem dp_rws : ∀ {xs : List V} {rs : List Rw}, Paired (RowV H) xs rs → DpAll K H xs (rs.map dRw)
  | _, _, .nil => .nil
  | _, _, .cons h t => .cons (dp_row h) (dp_rws t)
theorem dp_rs {c : Addr} {rs : List Rw} (h : RowsT H c rs) : Dp K H (.ref c) (dRs rs) := by
  obtain ⟨xs, e, p⟩ := h
  exact .tup e.sq (dp_rws p)
end
theorem eqvAll_map {α : Type} [DecidableEq α] {d : α → PyData} (h : ∀ x y : α, PyData.eqv (d x) (d y) = decide (x = y)) : ∀ xs ys : List α, PyData.eqvAll (xs.map d) (ys.map d) = decide (xs = ys)
  | [], [] => rfl
  | [], y :: ys => rfl
  | x :: xs, [] => rfl
  | x :: xs, y :: ys => by
    show (PyData.eqv (d x) (d y) && PyData.eqvAll (xs.map d) (ys.map d)) = _
    rw [h, eqvAll_map h xs ys, Bool.eq_iff_iff]
    simp
theorem eqv_str (x y : Str) : PyData.eqv (.str x) (.str y) = decide (x = y) := by
  show (x == y) = _
  rw [Bool.eq_iff_iff]
  simp
theorem eqv_ss (a b : List Str) : PyData.eqv (dSs a) (dSs b) = decide (a = b) := eqvAll_map eqv_str a b
theorem eqv_rw (a b : Rw) : PyData.eqv (dRw a) (dRw b) = decide (a = b) := by
  show (PyData.eqv (.str a.1) (.str b.1) && (PyData.eqv (.str a.2.1) (.str b.2.1) && (PyData.eqv (dSs a.2.2) (dSs b.2.2) && true))) = _
  rw [eqv_str, eqv_str, eqv_ss, Bool.eq_iff_iff]
  obtain ⟨a1, a2, a3⟩ := a
  obtain ⟨b1, b2, b3⟩ := b
  simp
theorem eqv_rs (a b : List Rw) : PyData.eqv (dRs a) (dRs b) = decide (a = b) := eqvAll_map eqv_rw a b
theorem inN_ok {c : Nat} (h : inN c = true) : c < 0x110000 := by
  have m : c ∈ signs.cps.toList := of_decide_eq_true h
  have all : ∀ d ∈ signs.cps.toList, d < 0x110000 := by decide +kernel
  exact all c m
theorem nm_ok {z : Str} (h : nmS z = true) : PyData.strOk z = true := by
  unfold PyData.strOk
  rw [← Array.all_toList]
  unfold nmS at h
  cases ec : z.cps.toList with
  | nil => rfl
  | cons c r =>
    rw [ec, nmL_cons, Bool.and_eq_true_iff] at h
    exact List.all_eq_true.mpr fun d hd => decide_eq_true (inN_ok (List.all_eq_true.mp h.2 d hd))
theorem lay_all : ∀ {ds : List PyData}, (∀ d ∈ ds, d.canLay0 = true) → PyData.canLayAll0 ds = true
  | [], _ => rfl
  | d :: r, h => by
    show (PyData.canLay0 d && PyData.canLayAll0 r) = true
    rw [h d (List.mem_cons_self ..), lay_all fun x hx => h x (List.mem_cons_of_mem _ hx)]
    rfl
theorem dep_all {n : Nat} : ∀ {ds : List PyData}, (∀ d ∈ ds, d.depth ≤ n) → PyData.depthAll ds ≤ n + 1
  | [], _ => by show 0 ≤ _; omega
  | d :: r, h => by
    have a := h d (List.mem_cons_self ..)
    have b := dep_all fun x hx => h x (List.mem_cons_of_mem _ hx)
    rw [PyData.depthAll]
    omega
theorem lay_ss {ss : List Str} (h : ∀ s ∈ ss, nmS s = true) : (dSs ss).canLay0 = true ∧ (dSs ss).depth ≤ 3 := by
  refine ⟨lay_all fun d hd => ?_, ?_⟩
  · obtain ⟨s, hs, rfl⟩ := List.mem_map.mp hd
    exact nm_ok (h s hs)
  · have := dep_all (n := 1) (ds := ss.map PyData.str) fun d hd => by
      obtain ⟨s, hs, rfl⟩ := List.mem_map.mp hd
      rw [PyData.depth]
      omega
    unfold dSs
    rw [PyData.depth]
    omega
theorem lay_rw {ks : List Str} (hk : ∀ s ∈ ks, nmS s = true) {r : Rw} (g : RwOk ks r) : (dRw r).canLay0 = true ∧ (dRw r).depth ≤ 5 := by
  have e := lay_ss (ss := r.2.2) fun s hs => hk s (g.f s hs)
  have all : ∀ d ∈ [PyData.str r.1, .str r.2.1, dSs r.2.2], d.canLay0 = true ∧ d.depth ≤ 3 := by
    intro d hd
    simp only [List.mem_cons, List.not_mem_nil, or_false] at hd
    rcases hd with rfl | rfl | rfl
    · exact ⟨nm_ok g.n, by rw [PyData.depth]; omega⟩
    · exact ⟨nm_ok (hk _ g.k), by rw [PyData.depth]; omega⟩
    · exact e
  refine ⟨lay_all fun d hd => (all d hd).1, ?_⟩
  have := dep_all (n := 3) fun d hd => (all d hd).2
  unfold dRw
  rw [PyData.depth]
  omega
theorem Good.shK {m : Md} (g : Good m) : SeqAt.shaped (dSs m.ks) = true := by
  obtain ⟨h1, h2⟩ := lay_ss g.kn
  unfold SeqAt.shaped
  rw [h1, decide_eq_true (by omega)]
  rfl
theorem Good.shR {m : Md} (g : Good m) : SeqAt.shaped (dRs m.rs) = true := by
  have all : ∀ d ∈ m.rs.map dRw, d.canLay0 = true ∧ d.depth ≤ 5 := fun d hd => by
    obtain ⟨r, hr, rfl⟩ := List.mem_map.mp hd
    exact lay_rw g.kn (g.row hr)
  have d := dep_all (n := 5) fun d hd => (all d hd).2
  unfold SeqAt.shaped
  have e : (dRs m.rs).depth ≤ 64 := by
    unfold dRs
    rw [PyData.depth]
    omega
  rw [show (dRs m.rs).canLay0 = true from lay_all fun d hd => (all d hd).1, decide_eq_true e]
  rfl
/-- what isinstance asks of the class -/
structure SCi (K : PySem.W.Frag) (C : Addr) : Prop where
  ca : PySem.W.findIn K (.ref C) "__class__" = some (some (.builtin "object.__class__"))
  cn : PySem.W.specialIn K (.builtin "object.__class__") "__get__" = some (some (.builtin "getset_descriptor.__get__"))
  ct : PySem.W.takesIn K (.builtin "object.__class__") = some true
  mo : PySem.W.mroIn K C (.type "object") = some true
section
variable {P : Program} {w : World} {K : PySem.W.Frag} {mg : Str → Option Value} {base : Heap} {C : Addr}
theorem ScAt.ty {H : Hp} {a : Addr} {m : Md} (h : ScAt C H a m) (Z : SCl K C) (I : SCi K C) : TyOf K H (.ref a) (.ref C) := by
  obtain ⟨dx, k, c, n, ⟨dp, e, _⟩, _⟩ := h
  exact .ins e Z.cls I.ca I.cn I.ct I.mo
/-- the == of schemas -/
def spEq (K : PySem.W.Frag) (C : Addr) : Sp := fun vs H Q _ => ∃ (a : Addr) (y : V) (m : Md), vs = [.ref a, y] ∧ ScAt C H a m ∧ Good m ∧
  ((∃ (b : Addr) (m' : Md), y = .ref b ∧ ScAt C H b m' ∧ Good m' ∧ Q (.bl (decide (m.ks = m'.ks) && decide (m.rs = m'.rs))) H) ∨ (∃ t, TyX K H y t ∧ PySem.W.kitOne K t (.ref C) = some false ∧ Q (.bl false) H))
theorem ok_eq {f : Addr} {fd : FuncData} (F : Fun K "__eq__" "Schema.__eq__" (cS 13) f fd) (T : TS0 mg) (gS : mg "Schema" = some (.ref C)) (Z : SCl K C) (I : SCi K C) : FnOk P w K mg base CX0 1 f fd ["self", "other"] (spEq K C) := by
  refine F.ok scEq (fun vs H Q E h => ?_) (fun cv A ou s H vs Q E hr h => ?_)
  · obtain ⟨a, y, m, rfl, _⟩ := h
    rfl
  obtain ⟨a, y, m, rfl, ha, g, h⟩ := h
  have hu := hr.units
  refine ⟨_, pss_one (ps_ret (pe_and (pe_callB call_isi (by rfl) T.isi boot_isinstance (pa_cons (pv 1) (pa_cons (pe_glob (v := .ref C) (by rfl) gS rfl) pa_nil)))
    (pe_and (pe_cmpR (op_eqD hu) (pe_fld (pv 0) rfl) (pe_fld (pv 1) rfl) (nomark _)) (pe_one (pe_cmpR (op_eqD hu) (pe_fld (pv 0) rfl) (pe_fld (pv 1) rfl) (nomark _)))))), ?_⟩
  rcases h with ⟨b, m', rfl, hb, g', q⟩ | ⟨t, ty, ek, q⟩
  · refine ⟨.ref b, rfl, .ref b, .ref C, _, .ref C, true, rfl, .own C, .base (hb.ty Z I), ?_, _, rfl, ?_⟩
    · unfold PySem.W.kitOne
      rw [if_pos (beq_self_eq_true _)]
    refine iteT ?_
    obtain ⟨dx, k, c, n, ⟨dpa, ea, _⟩, ek, ec, en⟩ := ha
    obtain ⟨dy, k', c', n', ⟨dpb, eb, _⟩, ek', ec', en'⟩ := hb
    refine ⟨.ref a, rfl, a, C, dx, _, _, rfl, ea, Z.cls, Z.nk, scF_k, .ref b, rfl, b, C, dy, _, _, rfl, eb, Z.cls, Z.nk, scF_k, _, _, dp_st (SqT.of ek), dp_st (SqT.of ek'), g.shK, g'.shK, ?_⟩
    rw [eqv_ss]
    refine ⟨_, rfl, ?_⟩
    cases h1 : decide (m.ks = m'.ks) with
    | false =>
      rw [h1] at q
      exact iteF q
    | true =>
      rw [h1] at q
      refine iteT ⟨.ref a, rfl, a, C, dx, _, _, rfl, ea, Z.cls, Z.nc, scF_c, .ref b, rfl, b, C, dy, _, _, rfl, eb, Z.cls, Z.nc, scF_c, _, _, dp_rs ec, dp_rs ec', g.shR, g'.shR, ?_⟩
      rw [eqv_rs]
      exact q
  · refine ⟨y, rfl, y, .ref C, _, .ref C, false, rfl, .own C, ty, ek, _, rfl, iteF q⟩
end
end Ks
set_option Elab.async false
set_option linter.all false
set_option maxRecDepth 100000
set_option maxHeartbeats 4000000
/-! the truth of an own instance by its __len__, bool(x) -/
namespace PySem.W
open PySem PySem.Calls PyProof.Rows Builtin
section
variable {prog : Program} {w : World} {A : Around} {E : Value → Shared → Prop} {s : Shared} {K : Frag} {x C L f : Addr} {h₀ : Heap} {m : Str → Option Value} {ox : Obj} {od : Option Obj}
theorem truthy_len {Q : Bool → Shared → Prop} (F : Fr h₀ L s.heap m) (X₀ : K.In h₀) (I : InstAt s.heap x ox C od) (hs : findIn K (.ref C) "__bool__" = some none) (hl : findIn K (.ref C) "__len__" = some (some (.ref f))) (hf : isFn K (.ref f) = true)
    (h : wpAny (model prog w) A.in1 (call (.ref f) [.ref x]) (fun v s' => ∃ n t, v = .int n t ∧ (0 ≤ n ∧ n < 2 ^ 63) ∧ Q (n != 0) { s' with toks := s'.toks + 1 }) E s) : wpAny (model prog w) A (truthy (.ref x)) Q E s := by
  have X := X₀.keeps F.keep
  have key : wpAny (model prog w) A (runValue (.builtin "len" ⟨[.ref x], []⟩)) (fun r s' => ∃ n t, r = .int n t ∧ Q (n != 0) s') E s := by
    refine wpAny_runValue (codeAny_builtin entry_len ?_)
    rw [Around.under_plainId plain_len _]
    unfold Builtin.«len»
    refine wpAny_bind (m := oneArg "len" _) (wpAny_pure ?_)
    refine wpAny_bind (m := callSpecial? (.ref x) (Str.ofString "__len__")) (special_fn X I hl (beq_iff_eq.mp hf) (wpAny_mono h (fun r s' hr => ?_) fun _ _ y => y))
    obtain ⟨n, t, rfl, ⟨h0, h1⟩, hq⟩ := hr
    refine wpAny_bind (wpAny_holding (wpAny_pure ?_))
    refine wpAny_bind (wpAny_letGo ?_)
    show wpAny _ _ (if n < 0 then _ else _) _ _ _
    rw [if_neg (by omega)]
    show wpAny _ _ (if n ≥ 2 ^ 63 then _ else _) _ _ _
    rw [if_neg (by omega)]
    exact wpAny_bind (wpAny_mkInt (wpAny_pure ⟨n, _, rfl, hq⟩))
  unfold truthy
  refine wpAny_bind (m := callSpecial? (.ref x) (Str.ofString "__bool__")) (wpAny_bind (wpAny_bind (I.type.here ((looks_findIn X hs).here (wpAny_pure ?_)))))
  refine wpAny_bind (wpAny_bind (I.type.here ((looks_findIn X hl).here ?_)))
  show wpAny _ _ (if (some (Value.ref f)).isNone = true then _ else _) _ _ _
  rw [if_neg (by simp)]
  refine wpAny_bind (wpAny_mono key (fun r s' z => ?_) fun _ _ e => e)
  obtain ⟨n, t, rfl, q⟩ := z
  exact wpAny_pure q
theorem bool_new {a : Addr} : MeetsIn prog w (Builtin.«bool.__new__» ⟨[.type "bool", .ref a], []⟩) (fun A R s => wpAny (model prog w) A.in1 (truthy (.ref a)) (fun b s' => R (.ok (.ret (.bool b))) s') (fun e s' => R (.error e) s') s) :=
  .of_wp fun A R s h => by
    have f1 := F.conv_sub_bool
    obtain ⟨hp, g, d, tk, os⟩ := s
    have h2 : ∀ {Q : Bool → Shared → Prop}, (∀ b s', R (.ok (.ret (.bool b))) s' → Q b s') → wpAny (model prog w) A.in1 (truthy (.ref a)) Q (fun e s' => R (.error e) s') ⟨hp, g, d, tk, os⟩ := fun q => wpAny_mono h (fun b s' z => q b s' z) fun _ _ e => e
    repeat (any_goals (first | assumption | (with_reducible refine h2 fun b s' z => ?_) | wp_step))
    all_goals exact ⟨_, rfl, z⟩

end
end PySem.W
namespace Gd
open PySem PySem.Spec PyProof.Rows L2
section
variable {X : Cx} {CX : CXT} {k : Nat} {C f : Addr} {fd : FuncData} {ps : List Str} {sp : Sp} {E : XK}
/-- bool(x), by len(x) -/
def rBoolO (C : Addr) (sp : Sp) (E : XK) : List V → Hp → VK → Prop := fun xs H Q => ∃ a dx fs, xs = [.ref a] ∧ H a = some (.ins C dx fs) ∧ sp [.ref a] H (fun v H' => ∃ n : Int, v = .int n ∧ 0 ≤ n ∧ n < 2 ^ 63 ∧ Q (.bl (n != 0)) H') E
theorem call_boolO (D : Dm X.K C "__len__" f) (nb : PySem.W.findIn X.K (.ref C) "__bool__" = some none) (F : FnOk X.prog X.w X.K X.mg X.base CX k f fd ps sp) (hr : Room (k + 3) X.A) (hb : Binds X.K fd ps []) (hx : Passes CX X.nox E) : CallR X (.type "bool") (rBoolO C sp E) := by
  intro pins s σ H xs us Q I r h
  obtain ⟨a, dx, fs, rfl, ea, q⟩ := h
  have e1 := Vals.ref1 r
  subst e1
  obtain ⟨mA, J, _⟩ := ins_get I.hok ea
  obtain ⟨od, J, _⟩ := J.look
  obtain ⟨m, hF⟩ := I.fr
  refine callType_newIn PySem.F.called_bool PySem.F.newNe_bool (PySem.F.typeCall_bool_1 _) (PySem.F.newCall_bool_1 _) (fun obj => PySem.F.args_object_init_2 obj _) PySem.F.entry_bool_new PySem.W.bool_new ?_
  refine PySem.W.truthy_len hF I.ok.mod.kin J nb D.at_ D.fn (wpAny_mono (run_at F hr.in1.in1.in1 I.env0.in1.in1.in1 hb hx I r q) (fun v s' z => ?_) fun _ _ e => e)
  obtain ⟨y, H', I', ry, n, ey, n0, n1, q2⟩ := z
  subst ey
  obtain ⟨t, rfl⟩ := ry
  exact ⟨n, t, rfl, ⟨n0, n1⟩, rfl, .bl (n != 0), H', I'.tok _, rfl, q2⟩
end
end Gd
set_option Elab.async false
set_option linter.all false
set_option maxRecDepth 100000
set_option maxHeartbeats 4000000
/-! != of two own instances whose class has an == and no != of its own -/
namespace PySem.W
open PySem PySem.Calls PyProof.Rows Builtin
section
variable {prog : Program} {w : World} {A : Around} {E : Value → Shared → Prop} {s : Shared} {K : Frag} {x y C L f : Addr} {h₀ : Heap} {m : Str → Option Value} {ox oy : Obj} {od od2 : Option Obj}
theorem ifBound_slot {M : Model} {name : Str} {id B : String} {args : List Value} {Q : Option Value → Shared → Prop} (X : K.In s.heap) (I : InstAt s.heap x ox C od) (hs : findIn K (.ref C) name = some (some (.builtin id))) (S : Slot B name id)
    (h : wpAny M A (call (.builtin id) (.ref x :: args)) (fun v => Q (some v)) E s) : wpAny M A (callSpecialIfBound? (.ref x) name args) Q E s := by
  simp only [callSpecialIfBound?, bindSpecialIfBound?]
  refine wpAny_holding (wpAny_bind (wpAny_bind (wpAny_bind (I.type.here ((looks_findIn X hs).here ?_)))))
  simp only [S.bind]
  refine wpAny_bind (wpAny_askSetting (wpAny_ite ?_))
  have fin : wpAny M A (call (.builtin id) ([.ref x] ++ args) >>= fun v => pure (some v)) Q E s := wpAny_bind (wpAny_mono h (fun v s' z => wpAny_pure z) fun _ _ z => z)
  split
  · exact wpAny_bind (wpAny_pure (wpAny_pure fin))
  · exact wpAny_tryCatch (wpAny_bind (wpAny_pure (wpAny_pure fin)))
theorem ne_body {Q : Fin → Shared → Prop} (hu : A.units < cLine) (X : K.In s.heap) (I : InstAt s.heap x ox C od) (hs : findIn K (.ref C) "__eq__" = some (some (.ref f))) (hf : isFn K (.ref f) = true)
    (h : wpAny (model prog w) A (call (.ref f) [.ref x, .ref y]) (fun v s' => ∃ b, v = .bool b ∧ Q (.done (.ret (.bool (!b)))) s') E s) : wpAny (model prog w) A (Builtin.«object.__ne__» ⟨[.ref x, .ref y], []⟩) Q E s := by
  unfold Builtin.«object.__ne__»
  refine wpAny_bind (m := slotArgs "__ne__" 1 _) (wpAny_pure ?_)
  refine wpAny_bind (wpAny_cRoomFor hu ?_)
  refine wpAny_bind (ifBound_K X I hs hf (wpAny_mono h (fun v s' z => ?_) fun _ _ e => e))
  obtain ⟨b, rfl, q⟩ := z
  refine wpAny_bind (m := truthy (.bool b)) (wpAny_pure ?_)
  exact wpAny_pure q
theorem ne_K {Q : Value → Shared → Prop} (hu : A.units + 1 < cLine) (F : Fr h₀ L s.heap m) (X₀ : K.In h₀) (I : InstAt s.heap x ox C od) (J : InstAt s.heap y oy C od2) (hn : findIn K (.ref C) "__ne__" = some (some (.builtin "object.__ne__"))) (mo : mroIn K C (.type "object") = some true)
    (hs : findIn K (.ref C) "__eq__" = some (some (.ref f))) (hf : isFn K (.ref f) = true) (hv : A.in1.units < cLine)
    (h : wpAny (model prog w) A.in1 (call (.ref f) [.ref x, .ref y]) (fun v s' => ∃ b, v = .bool b ∧ Q (.bool (!b)) s') E s) : wpAny (model prog w) A (richCompare .NotEq (.ref x) (.ref y)) Q E s := by
  have X := X₀.keeps F.keep
  have one : wpAny (model prog w) A (tryCompare (.ref x) "__ne__" (.ref y)) (fun r s' => ∃ v, r = some v ∧ Q v s') E s := by
    unfold tryCompare
    refine wpAny_bind (ifBound_slot X I hn PySem.F.cmp_object.ne (wpAny_call (codeAny_call_builtin PySem.F.cmp_object.ne.plain PySem.F.cmpEntry_ne
      (check_slot PySem.F.cmpKind_ne PySem.F.cmpSplit_ne (I.type.andThen (looks_mroIn X mo)) (PySem.F.cmpArgs_ne _ _) (ne_body hv X I hs hf (wpAny_mono h (fun v s' z => ?_) fun _ _ e => e))))))
    obtain ⟨b, rfl, q⟩ := z
    exact ⟨b, rfl, wpAny_pure ⟨_, rfl, q⟩⟩
  unfold richCompare
  simp only [oneThing_ref]
  refine wpAny_holding (wpAny_bind (wpAny_cRoomFor (Nat.lt_of_succ_lt hu) ?_))
  refine wpAny_bind (I.type.here (wpAny_bind (J.type.here ?_)))
  rw [if_neg (by simp)]
  refine wpAny_bind (wpAny_pure ?_)
  simp only [Bool.false_eq_true, if_false]
  refine wpAny_bind (wpAny_mono one (fun r s' z => ?_) fun _ _ e => e)
  obtain ⟨v, rfl, hq⟩ := z
  exact wpAny_pure hq
end
end PySem.W

namespace Gd
open PySem PySem.Spec PyProof.Rows L2
section
variable {X : Cx} {CX : CXT} {k : Nat} {C f : Addr} {fd : FuncData} {ps : List Str} {sp : Sp} {E : XK}
/-- x != y, both instances, by their == -/
def rNeO (C : Addr) (sp : Sp) (E : XK) : R2 := fun x y H Q => ∃ a dx fs b dy gs, x = .ref a ∧ y = .ref b ∧ H a = some (.ins C dx fs) ∧ H b = some (.ins C dy gs) ∧ sp [.ref a, .ref b] H (fun r H' => ∃ b : Bool, r = .bl b ∧ Q (.bl (!b)) H') E
theorem op_neO (D : Dm X.K C "__eq__" f) (nn : PySem.W.findIn X.K (.ref C) "__ne__" = some (some (.builtin "object.__ne__"))) (mo : PySem.W.mroIn X.K C (.type "object") = some true) (F : FnOk X.prog X.w X.K X.mg X.base CX k f fd ps sp) (hr : Room (k + 1) X.A) (hb : Binds X.K fd ps []) (hx : Passes CX X.nox E) : OpR X (compareOp .NotEq) (rNeO C sp E) := by
  intro pins s σ H x y v u Q I rx ry h
  obtain ⟨a, dx, fs, b, dy, gs, rfl, rfl, ea, eb, q⟩ := h
  obtain rfl : v = Value.ref a := rx
  obtain rfl : u = Value.ref b := ry
  obtain ⟨mA, J, _⟩ := ins_get I.hok ea
  obtain ⟨od, J, _⟩ := J.look
  obtain ⟨mB, J2, _⟩ := ins_get I.hok eb
  obtain ⟨od2, J2, _⟩ := J2.look
  obtain ⟨m, hF⟩ := I.fr
  show wpAny _ _ (richCompare .NotEq (.ref a) (.ref b)) _ _ _
  have hu := hr.units
  refine PySem.W.ne_K (by omega) hF I.ok.mod.kin J J2 nn mo D.at_ D.fn hr.in1.units0 (wpAny_mono (run_at F hr.in1 I.env0.in1 hb hx I (.cons (show RelV (V.ref a) (Value.ref a) from rfl) (.cons (show RelV (V.ref b) (Value.ref b) from rfl) .nil)) q) (fun r s' z => ?_) fun _ _ e => e)
  obtain ⟨y, H', I', ry, b, ey, q2⟩ := z
  subst ey
  obtain rfl : r = Value.bool b := ry
  exact ⟨b, rfl, .bl (!b), H', I', rfl, q2⟩
end
end Gd
set_option Elab.async false
set_option linter.all false
set_option maxRecDepth 100000
set_option maxHeartbeats 4000000
/-! a built-in's == with an instance of an own class declines -/
namespace PySem.W
open PySem PySem.Calls PyProof.Rows Builtin
section
variable {prog : Program} {w : World} {K : Frag} {a C : Addr} {ox : Obj} {od : Option Obj} {u : Value}
theorem tup_declines (e : subIn K (.ref C) (.type "tuple") = some false) : MeetsIn prog w (Builtin.«tuple.__eq__» ⟨[u, .ref a], []⟩) (fun _ R s => (K.In s.heap ∧ InstAt s.heap a ox C od) ∧ R (.ok (.ret .notImplemented)) s) :=
  .of_wp fun A R s h => by
    obtain ⟨⟨X, I⟩, h⟩ := h
    have hi : Looks (model prog w) s.heap (isInstance (.ref a) (.type "tuple")) false := I.type.andThen (looks_subIn X e)
    refine wpAny_bind (m := slotArgs "__eq__" 1 _) (wpAny_pure ?_)
    refine wpAny_bind (hi.here ?_)
    exact wpAny_bind (wpAny_pure (wpAny_pure ⟨_, rfl, h⟩))
theorem dict_declines (e : subIn K (.ref C) (.type "dict") = some false) : MeetsIn prog w (Builtin.«dict.__eq__» ⟨[u, .ref a], []⟩) (fun _ R s => (K.In s.heap ∧ InstAt s.heap a ox C od) ∧ R (.ok (.ret .notImplemented)) s) :=
  .of_wp fun A R s h => by
    obtain ⟨⟨X, I⟩, h⟩ := h
    have hi : Looks (model prog w) s.heap (isInstance (.ref a) (.type "dict")) false := I.type.andThen (looks_subIn X e)
    refine wpAny_bind (m := Dict.dictSlotArgs "__eq__" _) (wpAny_pure ?_)
    refine wpAny_bind (hi.here ?_)
    exact wpAny_bind (wpAny_rule (wpAny_bind (wpAny_pure (wpAny_pure ⟨_, rfl, h⟩))))
theorem str_declines {z : Str} {tk : Tok} (hd : ox.data = .plain) : MeetsIn prog w (Builtin.«str.__eq__» ⟨[.str z tk, .ref a], []⟩) (fun _ R s => s.heap.get? a = some ox ∧ R (.ok (.ret .notImplemented)) s) :=
  .of_wp fun A R s h => by
    obtain ⟨ho, h⟩ := h
    refine wpAny_bind (m := Str.strSlot "__eq__" 1 _) (wpAny_pure ?_)
    refine wpAny_bind (m := asStr? (.ref a)) (wpAny_bind (wpAny_loadPart ho ?_))
    rw [hd]
    refine wpAny_pure ?_
    exact wpAny_bind (wpAny_rule (wpAny_pure ⟨_, rfl, h⟩))
theorem int_declines {i : Int} {tk : Tok} (hd : ox.data = .plain) : MeetsIn prog w (Builtin.«int.__eq__» ⟨[.int i tk, .ref a], []⟩) (fun _ R s => s.heap.get? a = some ox ∧ R (.ok (.ret .notImplemented)) s) :=
  .of_wp fun A R s h => by
    obtain ⟨ho, h⟩ := h
    refine wpAny_bind (m := slotArgs "__eq__" 1 _) (wpAny_pure ?_)
    refine wpAny_bind (m := Int.intOfSelf (.int i tk)) (wpAny_pure ?_)
    refine wpAny_bind (m := asInt? (.ref a)) (wpAny_bind (wpAny_loadPart ho ?_))
    rw [hd]
    refine wpAny_pure ?_
    exact wpAny_bind (wpAny_rule (wpAny_pure ⟨_, rfl, h⟩))
theorem bool_declines {b : Bool} (hd : ox.data = .plain) : MeetsIn prog w (Builtin.«int.__eq__» ⟨[.bool b, .ref a], []⟩) (fun _ R s => s.heap.get? a = some ox ∧ R (.ok (.ret .notImplemented)) s) :=
  .of_wp fun A R s h => by
    obtain ⟨ho, h⟩ := h
    refine wpAny_bind (m := slotArgs "__eq__" 1 _) (wpAny_pure ?_)
    refine wpAny_bind (m := Int.intOfSelf (.bool b)) (wpAny_pure ?_)
    refine wpAny_bind (m := asInt? (.ref a)) (wpAny_bind (wpAny_loadPart ho ?_))
    rw [hd]
    refine wpAny_pure ?_
    exact wpAny_bind (wpAny_rule (wpAny_pure ⟨_, rfl, h⟩))
end
section
variable {prog : Program} {w : World} {A : Around} {E : Value → Shared → Prop} {s : Shared} {K : Frag} {a C L f : Addr} {h₀ : Heap} {m : Str → Option Value} {ox : Obj} {od : Option Obj} {u : Value} {T id : String}
/-- u == x, u of a built-in type whose == declines: x's own == is asked -/
theorem eq_turned {Q : Value → Shared → Prop} (hu : A.units < cLine) (F : Fr h₀ L s.heap m) (X₀ : K.In h₀) (I : InstAt s.heap a ox C od) (hT : s.TypeIs u T) (S : Slot T "__eq__" id) (sub : subIn K (.ref C) (.type T) = some false) (one : oneThing? .Eq u (.ref a) = none)
    (dec : ∀ Q' : Value → Shared → Prop, Q' .notImplemented s → wpAny (model prog w) A (call (.builtin id) [u, .ref a]) Q' E s) (hs : findIn K (.ref C) "__eq__" = some (some (.ref f))) (hf : isFn K (.ref f) = true)
    (h : wpAny (model prog w) A (call (.ref f) [.ref a, u]) (CmpBack Q) E s) : wpAny (model prog w) A (richCompare .Eq u (.ref a)) Q E s := by
  have X := X₀.keeps F.keep
  have own : wpAny (model prog w) A (tryCompare (.ref a) (cmpInfo .Eq).2.2 u) (fun r s' => ∃ v, r = some v ∧ Q v s') E s := by
    unfold tryCompare
    refine wpAny_bind (ifBound_K X I hs hf (wpAny_mono h (fun v s' hv => ?_) fun _ _ e => e))
    cases v <;> first | exact hv.elim | exact wpAny_pure ⟨_, rfl, hv⟩
  unfold richCompare
  simp only [one]
  refine wpAny_holding (wpAny_bind (wpAny_cRoomFor hu ?_))
  refine wpAny_bind (wpAny_typeOf hT (wpAny_bind (I.type.here ?_)))
  rw [if_pos (by simp)]
  refine wpAny_bind ((looks_subIn X sub).here ?_)
  simp only [Bool.false_eq_true, if_false]
  refine wpAny_bind (wpAny_tryCompare_declines hT S (dec _ ⟨rfl, ?_⟩))
  simp only [Bool.not_false, if_true]
  refine wpAny_bind (wpAny_mono own (fun r s' z => ?_) fun _ _ e => e)
  obtain ⟨v, rfl, hq⟩ := z
  exact wpAny_pure hq
end
end PySem.W
set_option Elab.async false
set_option linter.all false
set_option maxRecDepth 100000
set_option maxHeartbeats 4000000
namespace Gd
open PySem PySem.Spec PyProof.Rows L2
section
variable {X : Cx} {CX : CXT} {k : Nat} {C f : Addr} {fd : FuncData} {ps : List Str} {sp : Sp} {E : XK}
/-- values of built-in types whose == declines an instance -/
inductive Bt (K : PySem.W.Frag) (H : Hp) : V → Prop where
  | non : Bt K H .non
  | bl (b : Bool) : Bt K H (.bl b)
  | int (i : Int) : Bt K H (.int i)
  | str (z : Str) : Bt K H (.str z)
  | tup {a : Addr} {xs : List V} (h : SqT K H a xs) : Bt K H (.ref a)
  | dct {a : Addr} {kvs : List (Key × V)} (h : H a = some (.dK kvs)) : Bt K H (.ref a)
def rEqT (K : PySem.W.Frag) (C : Addr) (sp : Sp) (E : XK) : R2 := fun x y H Q => ∃ a dx fs, y = .ref a ∧ H a = some (.ins C dx fs) ∧ Bt K H x ∧ sp [.ref a, x] H (fun r H' => ∃ b : Bool, r = .bl b ∧ Q (.bl b) H') E
theorem op_eqT (D : Dm X.K C "__eq__" f) (hsub : ∀ T ∈ ["NoneType", "bool", "int", "str", "tuple", "dict"], PySem.W.subIn X.K (.ref C) (.type T) = some false) (F : FnOk X.prog X.w X.K X.mg X.base CX k f fd ps sp) (hr : Room k X.A) (hb : Binds X.K fd ps []) (hx : Passes CX X.nox E) : OpR X (compareOp .Eq) (rEqT X.K C sp E) := by
  intro pins s σ H x y v u Q I rx ry h
  obtain ⟨a, dx, fs, rfl, ea, bt, q⟩ := h
  obtain rfl : u = Value.ref a := ry
  obtain ⟨mA, J, _⟩ := ins_get I.hok ea
  obtain ⟨od, J, _⟩ := J.look
  obtain ⟨m, hF⟩ := I.fr
  have own : ∀ Ex : Value → Shared → Prop, wpAny (model X.prog X.w) X.A (call (.ref f) [.ref a, v]) (PySem.W.CmpBack (EP X pins σ Q)) Ex s := fun Ex => wpAny_mono (run_at F hr I.env0 hb hx I (.cons (show RelV (V.ref a) (Value.ref a) from rfl) (.cons rx .nil)) q) (fun r s' z => by
    obtain ⟨y, H', I', ry, b, ey, q2⟩ := z
    subst ey
    obtain rfl : r = Value.bool b := ry
    exact ⟨.bl b, H', I', rfl, q2⟩) fun _ _ e => e
  have hu := hr.units0
  have X0 := I.ok.mod.kin
  show wpAny _ _ (richCompare .Eq v (.ref a)) _ _ _
  cases bt with
  | non =>
    cases (show v = Value.none from rx)
    exact PySem.W.eq_turned hu hF X0 J (T := "NoneType") rfl PySem.F.slot_NoneType_eq (hsub _ (by simp)) rfl (fun Q' z => call_gives PySem.F.slot_NoneType_eq rfl PySem.F.entry_NoneType_eq (PySem.F.args_NoneType_eq_2 _ _) (PySem.SeqAt.NoneType___eq___none_ref_0 a) z) D.at_ D.fn (own _)
  | bl b =>
    cases (show v = Value.bool b from rx)
    exact PySem.W.eq_turned hu hF X0 J (T := "bool") rfl PySem.F.slot_bool_eq (hsub _ (by simp)) rfl (fun Q' z => call_meetsIn PySem.F.slot_bool_eq rfl PySem.F.entry_int_eq (PySem.F.args_int_eq_2 _ _) (PySem.W.bool_declines rfl) ⟨J.at_, z⟩) D.at_ D.fn (own _)
  | int i =>
    obtain ⟨t, e⟩ := (show ∃ t, v = Value.int i t from rx)
    cases e
    exact PySem.W.eq_turned hu hF X0 J (T := "int") (typeIs_int s i t) PySem.F.slot_int_eq (hsub _ (by simp)) rfl (fun Q' z => call_meetsIn PySem.F.slot_int_eq (typeIs_int s i t) PySem.F.entry_int_eq (PySem.F.args_int_eq_2 _ _) (PySem.W.int_declines rfl) ⟨J.at_, z⟩) D.at_ D.fn (own _)
  | str w =>
    obtain ⟨t, e⟩ := (show ∃ t, v = Value.str w t from rx)
    cases e
    exact PySem.W.eq_turned hu hF X0 J (T := "str") (typeIs_str s w t) PySem.F.slot_str_eq (hsub _ (by simp)) rfl (fun Q' z => call_meetsIn PySem.F.slot_str_eq (typeIs_str s w t) PySem.F.entry_str_eq (PySem.F.args_str_eq_2 _ _) (PySem.W.str_declines rfl) ⟨J.at_, z⟩) D.at_ D.fn (own _)
  | @tup b xs hq =>
    cases (show v = Value.ref b from rx)
    obtain ⟨its, _, ⟨o, eo, co, _⟩, _⟩ := I.tuple hq
    have hT : s.TypeIs (.ref b) "tuple" := ⟨o, eo, co⟩
    exact PySem.W.eq_turned hu hF X0 J (T := "tuple") hT PySem.F.slot_tuple_eq (hsub _ (by simp)) rfl (fun Q' z => call_meetsIn PySem.F.slot_tuple_eq hT PySem.F.entry_tuple_eq (PySem.F.args_tuple_eq_2 _ _) (PySem.W.tup_declines (hsub _ (by simp))) ⟨⟨I.kIn, J⟩, z⟩) D.at_ D.fn (own _)
  | @dct b kvs hd =>
    cases (show v = Value.ref b from rx)
    obtain ⟨_, _, vs, _, o, es, ep, eo, ex, _⟩ := (show ObjOk X.prog X.w H s.heap b (.dK kvs) from I.hok b _ hd)
    have hT : s.TypeIs (.ref b) "dict" := ⟨o, eo, ex.1⟩
    exact PySem.W.eq_turned hu hF X0 J (T := "dict") hT PySem.F.slot_dict_eq (hsub _ (by simp)) rfl (fun Q' z => call_meetsIn PySem.F.slot_dict_eq hT PySem.F.entry_dict_eq (PySem.F.args_dict_eq_2 _ _) (PySem.W.dict_declines (hsub _ (by simp))) ⟨⟨I.kIn, J⟩, z⟩) D.at_ D.fn (own _)
end
end Gd
set_option Elab.async false
set_option linter.all false
set_option maxRecDepth 100000
set_option maxHeartbeats 4000000
/-! str(x), x an instance with its own __str__ -/
namespace PySem.W
open PySem PySem.Calls PyProof.Rows Builtin
section
variable {prog : Program} {w : World} {A : Around} {E : Value → Shared → Prop} {s : Shared} {K : Frag} {x C L f : Addr} {h₀ : Heap} {m : Str → Option Value} {ox : Obj} {od : Option Obj}
theorem str_new_in {v : Value} : MeetsIn prog w (Builtin.«str.__new__» ⟨[.type "str", v], []⟩) (fun A R s => wpAny (model prog w) A.in1 (Builtin.Str.strOf v) (fun r s' => R (.ok (.ret r)) s') (fun e s' => R (.error e) s') s) :=
  .of_wp fun A R s h => by
    rw [str_new_tree v]
    refine wpAny_bind (wpAny_pure ?_)
    refine wpAny_bind (wpAny_of_eq isSubtype_str_str ?_)
    exact wpAny_bind (wpAny_mono h (fun r s' z => wpAny_pure ⟨_, rfl, z⟩) fun _ _ e => e)
theorem strOf_O {Q : Value → Shared → Prop} (hu : A.units < cLine) (X : K.In s.heap) (I : InstAt s.heap x ox C od) (hs : findIn K (.ref C) "__str__" = some (some (.ref f))) (hf : isFn K (.ref f) = true)
    (h : wpAny (model prog w) A (call (.ref f) [.ref x]) (StrBack Q) E s) : wpAny (model prog w) A (Builtin.Str.strOf (.ref x)) Q E s := by
  have sp : ∀ {Q' : Option Value → Shared → Prop}, (∀ z t s', Q (.str z t) s' → Q' (some (.str z t)) s') → wpAny (model prog w) A (callSpecial? (.ref x) "__str__") Q' E s := fun q => special_fn X I hs (beq_iff_eq.mp hf) (wpAny_mono h (fun r s' hr => by cases r <;> first | exact hr.elim | exact q _ _ _ hr) fun _ _ y => y)
  unfold Builtin.Str.strOf
  repeat (first | with_reducible refine wpAny_cRoomFor hu ?_ | (with_reducible refine sp fun z t s' q => ?_) | exact q | wp_step)
end
end PySem.W
namespace Gd
open PySem PySem.Spec PyProof.Rows L2
section
variable {X : Cx} {CX : CXT} {k : Nat} {C f : Addr} {fd : FuncData} {ps : List Str} {sp : Sp} {E : XK}
/-- str(x) -/
def rStrO (C : Addr) (sp : Sp) (E : XK) : List V → Hp → VK → Prop := fun xs H Q => ∃ a dx fs, xs = [.ref a] ∧ H a = some (.ins C dx fs) ∧ sp [.ref a] H (fun v H' => ∃ z : Str, v = .str z ∧ Q (.str z) H') E
theorem call_strO (D : Dm X.K C "__str__" f) (F : FnOk X.prog X.w X.K X.mg X.base CX k f fd ps sp) (hr : Room (k + 2) X.A) (hb : Binds X.K fd ps []) (hx : Passes CX X.nox E) : CallR X (.type "str") (rStrO C sp E) := by
  intro pins s σ H xs us Q I r h
  obtain ⟨a, dx, fs, rfl, ea, q⟩ := h
  have e1 := Vals.ref1 r
  subst e1
  obtain ⟨mA, J, _⟩ := ins_get I.hok ea
  obtain ⟨od, J, _⟩ := J.look
  refine callType_newIn PySem.F.called_str (by decide) (PySem.F.typeCall_str_1 _) (PySem.F.newCall_str_1 _) (fun obj => PySem.F.args_object_init_2 obj _) PySem.F.entry_str_new PySem.W.str_new_in ?_
  refine PySem.W.strOf_O hr.in1.in1.units0 I.kIn J D.at_ D.fn (wpAny_mono (run_at F hr.in1.in1 I.env0.in1.in1 hb hx I r q) (fun v s' z => ?_) fun _ _ e => e)
  obtain ⟨y, H', I', ry, z, ey, q2⟩ := z
  subst ey
  obtain ⟨t, rfl⟩ := ry
  exact ⟨typeIs_str _ _ _, .str z, H', I', ⟨_, rfl⟩, q2⟩
end
end Gd
set_option Elab.async false
set_option linter.all false
set_option maxRecDepth 100000
set_option maxHeartbeats 4000000
/-! defs with a star parameter; max with a default -/
namespace Gd
open PySem PySem.Spec PyProof.Rows L2 StX
theorem bind_star3 {B : List Value → Sem (List (Str × Value))} {p1 p2 p3 pv : Str} (h0 : ∀ a b c, B [a, b, c] = (newTuple [] >>= fun t => pure [(p1, a), (p2, b), (p3, c), (pv, t)])) (h1 : ∀ a b c r rs, B (a :: b :: c :: r :: rs) = (newTuple (r :: rs) >>= fun t => pure [(p1, a), (p2, b), (p3, c), (pv, t)])) :
    ∀ us rest : List Value, us.length = [p1, p2, p3].length → B (us ++ rest) = (newTuple rest >>= fun t => pure ([p1, p2, p3].zip us ++ [(pv, t)]))
  | [a, b, c], [], _ => h0 a b c
  | [a, b, c], r :: rs, _ => h1 a b c r rs
/-- the greatest of some, at least one -/
def maxL : List Int → Int
  | [] => 0
  | n :: r => PySem.W.maxOf n r
theorem reads_ints {h : Heap} : ∀ {ns : List Int} {its : List Value}, Vals (ns.map V.int) its → ∃ as, ReadsAll h its (ns.map PyData.int) as
  | [], its, r => by
    cases its with
    | nil => exact ⟨_, .nil⟩
    | cons _ _ => cases r
  | n :: ns, its, r => by
    cases r with
    | @cons _ u _ us r1 r2 =>
      obtain ⟨t, e⟩ := (show ∃ t, u = Value.int n t from r1)
      subst e
      obtain ⟨as, ih⟩ := reads_ints (h := h) r2
      exact ⟨_, .cons (.int n t) ih⟩
section
variable {X : Cx}
/-- max(xs, default=d), xs a list of whole numbers -/
def rMaxD (K : PySem.W.Frag) : List V → List V → Hp → VK → Prop := fun xs zs H Q => ∃ (a : Addr) (ns : List Int) (d : V), xs = [.ref a] ∧ zs = [d] ∧ SqL K H a (ns.map V.int) ∧ (ns = [] → Q d H) ∧ (ns ≠ [] → Q (.int (maxL ns)) H)
theorem call_maxD (hc : X.calm = true) (hu : X.A.units + 1 < cLine) : CallRK X (.builtin "max") ["default"] (rMaxD X.K) := by
  intro pins s σ H xs zs us ws Q I r rz h
  obtain ⟨a, ns, d, rfl, rfl, hl, h0, h1⟩ := h
  obtain ⟨u, rfl, rx⟩ := r.one
  cases rx
  obtain ⟨dv, rfl, rd⟩ := rz.one
  obtain ⟨its, rv, pl, hz⟩ := I.list hl
  have hold : PySem.W.HoldAll s.heap its.toArray.toList ns := by
    obtain ⟨as, q⟩ := reads_ints (h := s.heap) rv
    have : its.toArray.toList = its := by simp
    rw [this]
    exact ⟨as, q⟩
  show wpAny _ _ (call (.builtin "max") [.ref a] [(Str.ofString "default", dv)]) _ _ _
  refine PySem.W.max_list_datum_default (I.ok.hd hc) pl.isList hold (by show X.A.units + 1 + 0 < cLine; omega) (fun e h' tk hk => ⟨d, H, I.kept (t' := tk) hk, rd, h0 e⟩) fun y ys i v h' tk e hi hh hk => ?_
  subst e
  obtain ⟨as, q⟩ := hh
  refine ⟨_, H, I.kept (t' := tk) hk, ?_, h1 (by simp)⟩
  have q' : Reads h' v (.int (PySem.W.maxOf y ys)) as := q
  cases q' with
  | int _ t => exact ⟨t, rfl⟩
end
/-! ### an instance made by keywords, the star parameter empty -/
def FnRK (P : Program) (w : World) (K : PySem.W.Frag) (mg : Str → Option Value) (base : Heap) (CX : CXT) (k : Nat) (f : Addr) (ks : List Str) (sp : Sp) : Prop :=
  ∀ (A : Around) (outer : List Env) (s : Shared) (H : Hp) (u : Value) (v : V) (ws : List Value) (zs : List V) (Q : VK) (E : XK), Room k A → Env0 P w K mg base A outer s H → RelV v u → Vals zs ws → zs.length = ks.length → sp (v :: zs) H Q E →
    codeAny (model P w) A (.call (.ref f) ⟨[u], ks.zip ws⟩) (CR CX outer P w H s Q E) s
section
variable {CX : CXT} {P : Program} {w : World} {K : PySem.W.Frag} {mg : Str → Option Value} {base : Heap} {k : Nat} {f : Addr} {name qual : Str} {params : Arguments} {body : List Stmt} {scope : Scope} {dV kV doc pm cdv ct oc : Value} {an od : Option Addr}
  {osl : Array (Option Value)} {N ps ks : List Str} {sp : Sp} {g : List Value → List Value} {gV : List V → List V} {pv : Str}
theorem fn_starK (lk : K.lookup f = some ⟨oc, od, .func (PySem.W.fnOf name qual params body scope dV kV doc pm an cdv ct), osl⟩) (hcd : PySem.W.codeIn K cdv qual = true) (S : FnScope N (ps ++ [pv]) scope) (hCX : CXUp CX)
    (hb : ∀ (u : Value) (ws : List Value), ws.length = ks.length → bindArgs (PySem.W.fnOf name qual params body scope dV kV doc pm an cdv ct) ⟨[u], ks.zip ws⟩ = (newTuple [] >>= fun t => pure (ps.zip (u :: g ws) ++ [(pv, t)])))
    (hg : ∀ (zs : List V) (ws : List Value), Vals zs ws → zs.length = ks.length → Vals (gV zs) (g ws) ∧ (gV zs).length + 1 = ps.length)
    (hbody : ∀ (A : Around) (outer : List Env) (s : Shared) (H : Hp) (vs : List V) (Q : VK) (E : XK), Room k (A.deeper (envOfC qual scope s.heap.objs.size f cdv)) → sp vs H Q E →
      ∃ t, PSs (cxOf CX P w K mg base N qual scope f cdv A outer s H E) body t ∧ t { nx := fun _ H' => Q .non H', rt := Q } (start N vs) H) :
    FnRK P w K mg base CX (k + 1) f ks (fun vs H Q E => ∃ v zs, vs = v :: zs ∧ ∀ p, H p = Option.none → sp (v :: gV zs ++ [V.ref p]) (upd H p (.tup [])) Q E) := by
  intro A outer s H u v ws zs Q E hr e0 r rz hl hsp
  obtain ⟨v', zs', ev, hq⟩ := hsp
  injection ev with e1 e2
  subst e1 e2
  have hn : H s.heap.objs.size = Option.none := e0.hok.fresh (Nat.le_refl _)
  obtain ⟨g1, g2⟩ := hg zs ws rz hl
  refine run_bnd lk hcd S hr e0 (G := fun xs H2 => ∃ p, H p = Option.none ∧ xs = v :: gV zs ++ [V.ref p] ∧ H2 = upd H p (.tup [])) (fun A' Ex Q' h => ?_) fun s2 H2 xs ⟨p, hp, ex, eH⟩ hr' => ?_
  · rw [hb u ws (by rw [← rz.length]; exact hl)]
    refine wpAny_bind (wpAny_newTuple (wpAny_pure ?_) (Nat.zero_le _))
    have new : ObjOk P w (upd H s.heap.objs.size (.tup [])) (s.heap.push ({ cls := .type "tuple", data := .seq ([] : List Value).toArray } : Obj)) s.heap.objs.size (.tup []) := ⟨Nat.zero_le _, [], .nil, ⟨_, Heap.get?_push_size _ rfl, rfl, _, rfl⟩⟩
    have un := un_laid (fs := frs outer) (s := s) (o := ({ cls := .type "tuple", data := .seq ([] : List Value).toArray } : Obj)) (u := .tup []) hn
    have r2 : Vals (v :: gV zs) (u :: g ws) := .cons r g1
    have z := h _ _ (v :: gV zs ++ [V.ref s.heap.objs.size]) (u :: g ws ++ [Value.ref s.heap.objs.size]) (env0_laid e0 new) un rfl (fun e s' => hCX outer s H _ _ E e s' un (fun b o q => Heap.get?_push_of_some _ q) rfl) (r2.append (.cons rfl .nil))
      (by rw [List.length_append, List.length_append, List.length_cons, g2] <;> rfl) ⟨_, hn, rfl, rfl⟩
    have el : (u :: g ws).length = ps.length := by rw [← r2.length, List.length_cons, g2]
    rw [List.zip_append el.symm] at z
    exact z
  · subst ex eH
    exact hbody A outer s2 _ _ Q E hr' (hq p hp)
end
def tMakeRK (C : Addr) (ks : List Str) (sp : Sp) (E : XK) (tk : TA) : TE := fun σ H Q => tk σ H fun zs H1 => zs.length = ks.length ∧ ∀ x dx, H1 x = Option.none → H1 dx = Option.none → dx ≠ x →
  sp (V.ref x :: zs) (upd (upd H1 dx (.own x)) x (.ins C dx [])) (fun v H2 => v = .non ∧ Q (.ref x) H2) E
section
variable {X : Cx} {CX : CXT} {k i : Nat} {f C : Addr} {sp : Sp} {E : XK} {x : Str} {kws : List Keyword} {ks : List Str} {tk : TA} {p pos : Pos}
theorem pe_makeRK (M : Mk X.K C f) (F : FnRK X.prog X.w X.K X.mg X.base CX k f ks sp) (hr : Room (k + 1) X.A) (hg : Gl X x) (hm : X.mg x = some (.ref C)) (hx : Passes CX X E) (hkw : PK X kws tk)
    (hall : (backToKw pos (keywordEach kws X.env)).all (·.1.isSome) = true := by rfl) (hks : (backToKw pos (keywordEach kws X.env)).filterMap (·.1) = ks := by rfl) (hdb : (x == ("__debug__" : Str)) = false := by decide)
    (hpl : ((backTo pos (starEach [] X.env)).any (·.1) || (backToKw pos (keywordEach kws X.env)).any (·.1.isNone)) = false := by rfl) : PE X (.Call (.Name x p) [] kws pos) (tMakeRK C ks sp E tk) := by
  refine ⟨fun pins s σ H Q I h => ?_⟩
  refine wpAny_Call_Name_kw (ld_glob I hg hm ?_ hdb)
  refine PySem.W.callWith_KW0 (h₀ := X.base) I.ok.mod.kin M.kp hall ?_ hpl
  refine thn (hkw.run pos pins s σ H _ I h) fun ws s2 ⟨zs, H2, I2, rz, l2, q2⟩ => ⟨I2.kIn, ?_⟩
  rw [hks]
  have hq := q2 (s2.heap.objs.size + 1) s2.heap.objs.size (I2.hok.fresh (Nat.le_succ _)) (I2.hok.fresh (Nat.le_refl _)) (Nat.ne_of_lt (Nat.lt_succ_self _))
  have I3 := Inv.made (C := C) I2
  refine wpAny_call (make_map (f := f) I2.kIn M.makes M.init (beq_iff_eq.mp M.fn) (codeAny_mono (F _ X.stack _ _ (Value.ref (s2.heap.objs.size + 1)) (V.ref (s2.heap.objs.size + 1)) ws zs _ E (hr.make C [] (ks.zip ws)) (I3.env0.make C [] (ks.zip ws)) rfl rz l2 hq) fun r s' hq' => ?_))
  cases r with
  | error e => exact hx pins σ _ _ e s' I3 hq'
  | ok fl =>
    cases fl with
    | ret u =>
      obtain ⟨v, H', I4, rv, ev, q3⟩ := I3.after hq'
      subst ev
      exact ⟨rv, ⟨V.ref (s2.heap.objs.size + 1), H', I4, rfl, q3⟩⟩
    | next => exact False.elim hq'
    | brk => exact False.elim hq'
    | cont => exact False.elim hq'
end
end Gd
set_option Elab.async false
set_option linter.all false
set_option maxRecDepth 100000
set_option maxHeartbeats 4000000
/-! dicts whose keys are nested tuples: tracked by what is true of their object -/
namespace Gd
open PySem PySem.Spec PyProof.Rows L2
mutual
/-- the value is such a key -/
inductive NK (H : Hp) : NestedKey → V → Prop
  | non : NK H .none .non
  | int (i : Int) : NK H (.num i) (.int i)
  | str (z : Str) : NK H (.text z) (.str z)
  | tup {a : Addr} {xs : List V} {ks : List NestedKey} : H a = some (.tup xs) → NKA H ks xs → NK H (.tup ks) (.ref a)
inductive NKA (H : Hp) : List NestedKey → List V → Prop
  | nil : NKA H [] []
  | cons {k : NestedKey} {x : V} {ks : List NestedKey} {xs : List V} : NK H k x → NKA H ks xs → NKA H (k :: ks) (x :: xs)
end
mutual
theorem NK.keep {H H' : Hp} (s : ∀ b ys, H b = some (.tup ys) → H' b = some (.tup ys)) : ∀ (k : NestedKey) (x : V), NK H k x → NK H' k x
  | .none, _, h => by cases h; exact .non
  | .num i, _, h => by cases h; exact .int i
  | .text z, _, h => by cases h; exact .str z
  | .tup ks, _, h => by
    cases h with
    | tup h1 h2 => exact .tup (s _ _ h1) (NKA.keep s ks _ h2)
theorem NKA.keep {H H' : Hp} (s : ∀ b ys, H b = some (.tup ys) → H' b = some (.tup ys)) : ∀ (ks : List NestedKey) (xs : List V), NKA H ks xs → NKA H' ks xs
  | [], _, h => by cases h; exact .nil
  | k :: r, _, h => by
    cases h with
    | cons h1 h2 => exact .cons (NK.keep s k _ h1) (NKA.keep s r _ h2)
end
section
variable {P : Program} {w : World}
mutual
theorem nk_is {H : Hp} {h : Heap} (ok : HOk P w H h) : ∀ (k : NestedKey) (x : V) (u : Value), NK H k x → RelV x u → NestedIs h k u
  | .none, _, u, hk, r => by
    cases hk
    cases (show u = Value.none from r)
    exact .none
  | .num i, _, u, hk, r => by
    cases hk
    obtain ⟨t, e⟩ := (show ∃ t, u = Value.int i t from r)
    rw [e]
    exact .int i t
  | .text z, _, u, hk, r => by
    cases hk
    obtain ⟨t, e⟩ := (show ∃ t, u = Value.str z t from r)
    rw [e]
    exact .text z t
  | .tup ks, x, u, hk, r => by
    cases hk with
    | @tup a xs _ h1 h2 =>
      cases (show u = Value.ref a from r)
      obtain ⟨_, its, rv, o, e1, e2, n, e3⟩ := (show ObjOk P w H h a (.tup xs) from ok a _ h1)
      refine .tup e1 e2 e3 ?_
      have : its.toArray.toList = its := by simp
      rw [this]
      exact nka_is ok ks xs its h2 rv
theorem nka_is {H : Hp} {h : Heap} (ok : HOk P w H h) : ∀ (ks : List NestedKey) (xs : List V) (us : List Value), NKA H ks xs → Vals xs us → NestedAll h ks us
  | [], _, us, hk, r => by
    cases hk
    cases r
    exact .nil
  | k :: rr, xs, us, hk, r => by
    cases hk with
    | cons h1 h2 =>
      cases r with
      | cons r1 r2 => exact .cons (nk_is ok k _ _ h1 r1) (nka_is ok rr _ _ h2 r2)
end
/-- the object of such a dict -/
def DNh (P : Program) (w : World) (d : Addr) (ys : List (NestedKey × Addr × Value)) : Heap → Prop := fun h => ∃ o es ep, h.get? d = some o ∧ o.ExactDict ∧ o.data = .dict es ep ∧ es.toList = ys.map (entryOfKey (nestedKind P w))
abbrev KN : List (NestedKey × Addr × V) → List (NestedKey × Addr × Value) → Prop := Paired fun p q => p.1 = q.1 ∧ p.2.1 = q.2.1 ∧ RelV p.2.2 q.2.2
/-- the dict at d holds these keys, at these addresses, and values -/
structure DN (P : Program) (w : World) (H : Hp) (d : Addr) (xs : List (NestedKey × Addr × V)) : Prop where
  z : xs.length ≤ sizeLine
  nd : (xs.map (·.1)).Nodup
  keys : ∀ x ∈ xs, NK H x.1 (.ref x.2.1) ∧ x.1.depth ≤ 8
  at_ : (xs = [] ∧ H d = some (.dT [])) ∨ ((d == sysModules) = false ∧ ∃ ys, KN xs ys ∧ H d = some (.ext (DNh P w d ys)))
theorem DN.keep {H H' : Hp} {d : Addr} {xs : List (NestedKey × Addr × V)} (h : DN P w H d xs) (s : ∀ b ys, H b = some (.tup ys) → H' b = some (.tup ys)) (e : H' d = H d) : DN P w H' d xs :=
  ⟨h.z, h.nd, fun x hx => ⟨NK.keep s _ _ (h.keys x hx).1, (h.keys x hx).2⟩, by rw [e]; exact h.at_⟩
theorem DN.same {H H' : Hp} {d : Addr} {xs : List (NestedKey × Addr × V)} (h : DN P w H d xs) (s : Same H H') : DN P w H' d xs := by
  refine h.keep (fun b ys e => s _ _ e) ?_
  rcases h.at_ with ⟨_, e⟩ | ⟨_, _, _, e⟩
  · rw [e, s _ _ e]
  · rw [e, s _ _ e]
theorem DN.new {H : Hp} {d : Addr} (e : H d = some (.dT [])) : DN P w H d [] := ⟨Nat.zero_le _, .nil, (fun x hx => by cases hx), .inl ⟨rfl, e⟩⟩
theorem dn_rd {H : Hp} {h : Heap} {d : Addr} {xs : List (NestedKey × Addr × V)} (ok : HOk P w H h) (e : DN P w H d xs) : (d == sysModules) = false ∧ ∃ ys, KN xs ys ∧ h.DictOfH (nestedKind P w) d ys := by
  rcases e.at_ with ⟨rfl, e1⟩ | ⟨hs, ys, pr, e1⟩
  · obtain ⟨_, y, xs, r, o, es, ep, h1, h2, h3, h4, h5⟩ := dt_of ok e1
    have hx : xs = [] := by cases r; rfl
    subst hx
    exact ⟨y, [], .nil, o, es, ep, h1, h2, h3, h4, (fun x hx => by cases hx), .nil⟩
  · obtain ⟨⟨o, es, ep, h1, h2, h3, h4⟩, _⟩ := (show ObjOk P w H h d (.ext (DNh P w d ys)) from ok d _ e1)
    refine ⟨hs, ys, pr, o, es, ep, h1, h2, h3, h4, ?_, ?_⟩
    · have all : ∀ {l : List (NestedKey × Addr × V)} {m : List (NestedKey × Addr × Value)}, KN l m → (∀ x ∈ l, NK H x.1 (.ref x.2.1) ∧ x.1.depth ≤ 8) → ∀ x ∈ m, (nestedKind P w).is h x.1 x.2.1 := by
        intro l m q
        induction q with
        | nil => intro _ x hx; cases hx
        | @cons p q ps qs hq t ih =>
          intro hl x hx
          rcases List.mem_cons.mp hx with e | hx
          · subst e
            have z := hl p (List.mem_cons_self ..)
            rw [hq.1, hq.2.1] at z
            exact ⟨nk_is ok _ _ _ z.1 rfl, z.2⟩
          · exact ih (fun y hy => hl y (List.mem_cons_of_mem _ hy)) x hx
      exact all pr e.keys
    · have ek : ∀ {l : List (NestedKey × Addr × V)} {m : List (NestedKey × Addr × Value)}, KN l m → l.map (·.1) = m.map (·.1) := by
        intro l m q
        induction q with
        | nil => rfl
        | cons h t ih => rw [List.map_cons, List.map_cons, ih, h.1]
      rw [← ek pr]
      exact e.nd
def fnd (xs : List (NestedKey × Addr × V)) (k : NestedKey) : Option (Addr × V) := (xs.find? fun x => decide (x.1 = k)).map (·.2)
theorem kn_fnd {xs : List (NestedKey × Addr × V)} {ys : List (NestedKey × Addr × Value)} (r : KN xs ys) (k : NestedKey) : (fnd xs k = none ∧ atKey ys k = none) ∨ ∃ a v u, fnd xs k = some (a, v) ∧ atKey ys k = some (a, u) ∧ RelV v u := by
  induction r with
  | nil => exact .inl ⟨rfl, rfl⟩
  | @cons p q ps qs h t ih =>
    obtain ⟨h1, h2, h3⟩ := h
    by_cases e : p.1 = k
    · have e' : q.1 = k := h1.symm.trans e
      refine .inr ⟨p.2.1, p.2.2, q.2.2, by simp [fnd, List.find?_cons, e], ?_, h3⟩
      rw [h2]
      simp [atKey, List.find?_cons, e']
    · have e' : ¬ q.1 = k := fun z => e (h1.trans z)
      have a : fnd (p :: ps) k = fnd ps k := by simp [fnd, List.find?_cons, e]
      have b : atKey (q :: qs) k = atKey qs k := by simp [atKey, List.find?_cons, e']
      rw [a, b]
      exact ih
end
section
variable {X : Cx}
theorem room_n {A : Around} (hu : A.units + 64 < cLine) : (nestedKind X.prog X.w).room A.in1 := by
  show A.in1.units + 8 < cLine
  have : A.in1.units = A.units + 1 := by
    first | rfl | simp [Around.in1]
  omega
/-- row not in d -/
def rNinN (P : Program) (w : World) : R2 := fun x y H Q => ∃ (a d : Addr) (k : NestedKey) (xs : List (NestedKey × Addr × V)), x = .ref a ∧ y = .ref d ∧ NK H k (.ref a) ∧ k.depth ≤ 8 ∧ DN P w H d xs ∧ Q (.bl (!(fnd xs k).isSome)) H
theorem op_notInN (hu : X.A.units + 64 < cLine) : OpR X (compareOp .NotIn) (rNinN X.prog X.w) := by
  intro pins s σ H x y v u Q I rx ry h
  obtain ⟨a, d, k, xs, rfl, rfl, hk, hd, hn, q⟩ := h
  cases (show v = Value.ref a from rx)
  cases (show u = Value.ref d from ry)
  obtain ⟨hs, ys, pr, dd⟩ := dn_rd I.hok hn
  refine wpAny_notIn_heap (room_n (X := X) hu) ⟨nk_is I.hok k _ _ hk rfl, hd⟩ hs dd ?_
  have e : (atKey ys k).isSome = (fnd xs k).isSome := by
    rcases kn_fnd pr k with ⟨h1, h2⟩ | ⟨_, _, _, h1, h2, _⟩
    · rw [h1, h2]; rfl
    · rw [h1, h2]; rfl
  rw [e]
  exact ⟨.bl _, H, I.tok _, rfl, q⟩
/-- d[row] -/
def rIxN (P : Program) (w : World) : R2 := fun x y H Q => ∃ (d a : Addr) (k : NestedKey) (xs : List (NestedKey × Addr × V)) (b : Addr) (v : V), x = .ref d ∧ y = .ref a ∧ NK H k (.ref a) ∧ k.depth ≤ 8 ∧ DN P w H d xs ∧ fnd xs k = some (b, v) ∧ Q v H
def tDGetN (P : Program) (w : World) (td ty : TE) : TE := fun σ H Q => td σ H fun x H1 => ty σ H1 fun y H2 => rIxN P w x y H2 Q
theorem pe_dgetN {o i : Expr} {pos : Pos} {td ty : TE} (hu : X.A.units + 64 < cLine) (ho : PE X o td) (hi : PE X i ty) (hs : NoSl i) : PE X (.Subscript o i pos) (tDGetN X.prog X.w td ty) := by
  refine ⟨fun pins s σ H Q I h => ?_⟩
  refine subD_of PySem.F.slot_dict_getitem.lookup hs (thn (ho.run pins s σ H _ I h) fun u s1 ⟨x, H1, I1, rx, q1⟩ => thn (hi.run pins s1 σ H1 _ I1 q1) fun iv s2 ⟨y, H2, I2, ry, d, a, k, xs, b, v, ex, ey, hk, hd, hn, hf, q2⟩ => ?_)
  subst ex ey
  obtain rfl : u = Value.ref d := rx
  obtain rfl : iv = Value.ref a := ry
  obtain ⟨hs', ys, pr, dd⟩ := dn_rd I2.hok hn
  refine ⟨dd.typeIs, ?_⟩
  rcases kn_fnd pr k with ⟨h1, _⟩ | ⟨a', v', u', h1, h2, rv⟩
  · rw [h1] at hf; cases hf
  · rw [h1] at hf
    cases hf
    exact wpAny_getItem_heap (room_n (X := X) hu) ⟨nk_is I2.hok k _ _ hk rfl, hd⟩ dd h2 ⟨v, H2, I2.tok _, rv, q2⟩
/-- d[row] = v, row not yet there -/
def tSetN (P : Program) (w : World) : TSet := fun o i v H Q => ∃ (d a : Addr) (k : NestedKey) (xs : List (NestedKey × Addr × V)), o = .ref d ∧ i = .ref a ∧ NK H k (.ref a) ∧ k.depth ≤ 8 ∧ DN P w H d xs ∧ fnd xs k = none ∧ xs.length < sizeLine ∧
  ∀ H', (∀ b, b ≠ d → H' b = H b) → DN P w H' d (xs ++ [(k, a, v)]) → Q H'
theorem set_n (hu : X.A.units + 64 < cLine) : PSet X (tSetN X.prog X.w) := by
  intro pins s σ H o i v ov iv u Q I ro ri rv h
  obtain ⟨d, a, k, xs, rfl, rfl, hk, hdep, hn, hf, hl, q⟩ := h
  obtain rfl : ov = Value.ref d := ro
  obtain rfl : iv = Value.ref a := ri
  obtain ⟨hs, ys, pr, dd⟩ := dn_rd I.hok hn
  have ak : atKey ys k = none := by
    rcases kn_fnd pr k with ⟨_, h2⟩ | ⟨_, _, _, h1, _⟩
    · exact h2
    · rw [h1] at hf; cases hf
  have lz : ys.length ≤ sizeLine := by rw [← Paired.length pr]; exact hn.z
  have key := nk_is I.hok k _ (.ref a) hk rfl
  have mu : Mut (H d) := by
    rcases hn.at_ with ⟨_, e⟩ | ⟨_, _, _, e⟩
    · rw [e]; exact True.intro
    · rw [e]; exact True.intro
  have ntup : ∀ b zs, H b = some (.tup zs) → b ≠ d := fun b zs e z => by
    rw [z] at e
    rcases hn.at_ with ⟨_, e2⟩ | ⟨_, _, _, e2⟩
    · rw [e] at e2; cases e2
    · rw [e] at e2; cases e2
  refine wpAny_setItem_heap (hsz := lz) (room_n (X := X) hu) ⟨key, hdep⟩ dd fun h' dd' sb => ?_
  rw [storedH_new ak] at dd'
  obtain ⟨o', es, ep, g1, g2, g3, g4, g5, g6⟩ := dd'
  have pr' : KN (xs ++ [(k, a, v)]) (ys ++ [(k, a, u)]) := Paired.snoc pr ⟨rfl, rfl, rv⟩
  refine ⟨upd H d (.ext (DNh X.prog X.w d (ys ++ [(k, a, u)]))), d_write I mu sb ⟨o', g1⟩ ⟨⟨o', es, ep, g1, g2, g3, g4⟩, ⟨o', g1⟩, ?_⟩, q _ (fun b hb => upd_ne hb) ⟨?_, ?_, ?_, ?_⟩⟩
  · rintro h1 h2 ⟨o, es, ep, z1, z2, z3, z4⟩ kp
    exact ⟨o, es, ep, kp _ z1, z2, z3, z4⟩
  · rw [List.length_append, List.length_singleton]
    omega
  · rw [List.map_append]
    refine List.nodup_append.mpr ⟨hn.nd, List.nodup_cons.mpr ⟨by simp, .nil⟩, fun x hx y hy e => ?_⟩
    obtain ⟨z, hz, rfl⟩ := List.mem_map.mp hx
    have hy' : y = k := by simpa using hy
    have : fnd xs k ≠ none := by
      unfold fnd
      intro hh
      rw [Option.map_eq_none_iff, List.find?_eq_none] at hh
      exact hh z hz (decide_eq_true (by rw [e, hy']))
    exact this hf
  · intro x hx
    have kp : ∀ b zs, H b = some (.tup zs) → (upd H d (.ext (DNh X.prog X.w d (ys ++ [(k, a, u)])))) b = some (.tup zs) := fun b zs e => by
      rw [upd_ne (ntup b zs e)]
      exact e
    rcases List.mem_append.mp hx with hx | hx
    · exact ⟨NK.keep kp _ _ (hn.keys x hx).1, (hn.keys x hx).2⟩
    · rw [List.mem_singleton.mp hx]
      exact ⟨NK.keep kp _ _ hk, hdep⟩
  · exact .inr ⟨hs, _, pr', upd_same⟩
/-- len(d) -/
theorem call_lenN : CallR X (.builtin "len") (fun xs H Q => ∃ (d : Addr) (ys : List (NestedKey × Addr × V)), xs = [.ref d] ∧ DN X.prog X.w H d ys ∧ Q (.int ys.length) H) := by
  intro pins s σ H xs us Q I r h
  obtain ⟨d, zs, rfl, hn, q⟩ := h
  obtain ⟨u, rfl, rx⟩ := r.one
  cases rx
  obtain ⟨hs, ys, pr, dd⟩ := dn_rd I.hok hn
  have hm : s.heap.DictKeyed (nestedKind X.prog X.w) d (pairsH ys) := ⟨ys, dd, rfl⟩
  have ln : (pairsH ys).length = zs.length := by rw [pairsH_length, Paired.length pr]
  have z := hn.z
  rw [sizeLine_eq] at z
  refine PyProof.Rows.call_len_slot (n := (pairsH ys).length) hm.typeIs PySem.F.slot_dict_len (fun Q' hq => len_keyed hs hm hq) (by omega) (by omega) ?_
  rw [ln]
  exact ⟨.int zs.length, H, I.tok _, ⟨_, rfl⟩, q⟩
/-- *d in a list -/
def tStarN (P : Program) (w : World) (te : TE) (t : TA) : TA := fun σ H Q => te σ H fun x H1 => ∃ (d : Addr) (zs : List (NestedKey × Addr × V)), x = .ref d ∧ DN P w H1 d zs ∧ t σ H1 fun ys H2 => Q (zs.map (fun z => V.ref z.2.1) ++ ys) H2
theorem star_n {pins : List (Addr × Obj)} {σ : L2.St} {H : Hp} {s : Shared} {d : Addr} {zs : List (NestedKey × Addr × V)} {E : Value → Shared → Prop} {Q : List Value → Shared → Prop} (hc : X.calm = true) (I : Inv X pins σ H s) (h : DN X.prog X.w H d zs)
    (hQ : ∀ us s', Inv X pins σ H s' → Vals (zs.map fun z => V.ref z.2.1) us → Q us s') : PySem.W.StarOf (model X.prog X.w) X.A E (.ref d) Q s := by
  obtain ⟨hs, ys, pr, o, es, ep, g1, g2, g3, g4, g5, g6⟩ := dn_rd I.hok h
  have hT : s.TypeIs (.ref d) "dict" := ⟨o, g1, g2.1⟩
  have l1 : es.size = ys.length := size_of_entries g4
  have l2 : zs.length = ys.length := Paired.length pr
  have z := h.z
  have col : wpAny (model X.prog X.w) X.A (collect (.ref d)) Q E s := by
    refine PySem.W.kdu_collect (kdl_raw hs g2 g3) (I.ok.hd hc) g1 (by omega) fun h' tk acc kp it => ?_
    refine hQ _ _ (I.kept (t' := tk) kp) ?_
    have hl : acc.toList.length = ys.length := by rw [Array.length_toList, it.1]; exact l1
    have ea : acc.toList = ys.map fun x => Value.ref x.2.1 := by
      apply List.ext_getElem?
      intro j
      rw [List.getElem?_map]
      cases hj : acc.toList[j]? with
      | none =>
        have h1 := List.getElem?_eq_none_iff.mp hj
        rw [List.getElem?_eq_none (by omega)]
        rfl
      | some v =>
        obtain ⟨en, hen, hv⟩ := it.2 j v (by rw [← Array.getElem?_toList]; exact hj)
        have qe := entry_at g4 j
        rw [hen] at qe
        cases hb : ys[j]? with
        | none => rw [hb] at qe; cases qe
        | some y =>
          rw [hb] at qe
          cases qe
          rw [hv]
          rfl
    rw [ea]
    have vs : ∀ {l : List (NestedKey × Addr × V)} {m : List (NestedKey × Addr × Value)}, KN l m → Vals (l.map fun z => V.ref z.2.1) (m.map fun x => Value.ref x.2.1) := by
      intro l m q
      induction q with
      | nil => exact .nil
      | cons h t ih =>
        refine .cons ?_ ih
        show Value.ref _ = Value.ref _
        rw [h.2.1]
    exact vs pr
  unfold PySem.W.StarOf notIterableAtAll
  exact wpAny_bind (wpAny_specialOf hT PySem.F.slot_dict_iter.lookup (wpAny_pure ⟨rfl, col⟩))
theorem pa_starN {e : Expr} {es : List Expr} {te : TE} {t : TA} {p : Pos} (hc : X.calm = true) (he : PE X e te) (hr : PA X es t) (hs : starEach (.Starred e p :: es) X.env = (true, eval e X.env) :: starEach es X.env := by rfl) : PA X (.Starred e p :: es) (tStarN X.prog X.w te t) := by
  refine ⟨fun pos pins s σ H Q I h => ?_⟩
  refine PySem.W.items_star (thn (he.run pins s σ H _ I h) fun v s1 ⟨y, H1, I1, ry, d, zs, ey, hx, q⟩ => ?_) hs
  subst ey
  obtain rfl : v = Value.ref d := ry
  refine star_n hc I1 hx fun us s2 I2 rv => ?_
  exact thn (hr.run pos pins s2 σ H1 _ I2 q) fun ws s3 ⟨vs, H3, I3, r3, q3⟩ => ⟨_ ++ vs, H3, I3, rv.append r3, q3⟩
end
end Gd
set_option Elab.async false
set_option linter.all false
set_option maxRecDepth 100000
set_option maxHeartbeats 4000000
namespace Ks
open PySem PySem.Spec PyProof.Rows L2 Gd Kx
/-! ### trees -/
inductive Tr where
  | n0 (r : Rw)
  | n1 (r : Rw) (a : Tr)
  | n2 (r : Rw) (a b : Tr)
  | n3 (r : Rw) (a b c : Tr)
deriving DecidableEq
namespace Tr
def row : Tr → Rw
  | n0 r => r
  | n1 r _ => r
  | n2 r _ _ => r
  | n3 r _ _ _ => r
def kids : Tr → List Tr
  | n0 _ => []
  | n1 _ a => [a]
  | n2 _ a b => [a, b]
  | n3 _ a b c => [a, b, c]
theorem ind {p : Tr → Prop} (h : ∀ t, (∀ c ∈ t.kids, p c) → p t) : ∀ t, p t
  | n0 r => h _ fun c hc => by cases hc
  | n1 r a => h _ fun c hc => by
    have e : c = a := List.mem_singleton.mp hc
    rw [e]
    exact ind h a
  | n2 r a b => h _ fun c hc => by
    have e : c = a ∨ c = b := by simpa [kids] using hc
    rcases e with e | e
    · rw [e]; exact ind h a
    · rw [e]; exact ind h b
  | n3 r a b d => h _ fun c hc => by
    have e : c = a ∨ c = b ∨ c = d := by simpa [kids] using hc
    rcases e with e | e | e
    · rw [e]; exact ind h a
    · rw [e]; exact ind h b
    · rw [e]; exact ind h d
theorem ext : ∀ {t u : Tr}, t.row = u.row → t.kids = u.kids → t = u := by
  intro t u h k
  cases t <;> cases u <;> simp_all [row, kids]
theorem kids3 (t : Tr) : t.kids.length ≤ 3 := by cases t <;> simp [kids]
def mk (r : Rw) : List Tr → Tr
  | [] => n0 r
  | [a] => n1 r a
  | [a, b] => n2 r a b
  | a :: b :: c :: _ => n3 r a b c
theorem mk_row (r : Rw) (l : List Tr) : (mk r l).row = r := by
  match l with
  | [] => rfl
  | [_] => rfl
  | [_, _] => rfl
  | _ :: _ :: _ :: _ => rfl
theorem mk_kids (r : Rw) {l : List Tr} (h : l.length ≤ 3) : (mk r l).kids = l := by
  match l, h with
  | [], _ => rfl
  | [_], _ => rfl
  | [_, _], _ => rfl
  | [_, _, _], _ => rfl
theorem mk_self (t : Tr) : mk t.row t.kids = t := by cases t <;> rfl
def size : Tr → Nat
  | n0 _ => 1
  | n1 _ a => 1 + a.size
  | n2 _ a b => 1 + (a.size + b.size)
  | n3 _ a b c => 1 + (a.size + (b.size + c.size))
theorem size_eq (t : Tr) : t.size = 1 + (t.kids.map size).sum := by cases t <;> simp [size, kids]
def dep : Tr → Nat
  | n0 _ => 1
  | n1 _ a => 1 + a.dep
  | n2 _ a b => 1 + max a.dep b.dep
  | n3 _ a b c => 1 + max a.dep (max b.dep c.dep)
theorem size_kid {t c : Tr} (h : c ∈ t.kids) : c.size < t.size := by
  cases t <;> simp [kids] at h
  · subst h; simp [size]
  · rcases h with rfl | rfl <;> simp [size] <;> omega
  · rcases h with rfl | rfl | rfl <;> simp [size] <;> omega
def Ok (m : Md) : Tr → Prop
  | n0 r => r ∈ m.rs ∧ r.2.2 = []
  | n1 r a => r ∈ m.rs ∧ r.2.2 = [a.row.2.1] ∧ a.Ok m
  | n2 r a b => r ∈ m.rs ∧ r.2.2 = [a.row.2.1, b.row.2.1] ∧ a.Ok m ∧ b.Ok m
  | n3 r a b c => r ∈ m.rs ∧ r.2.2 = [a.row.2.1, b.row.2.1, c.row.2.1] ∧ a.Ok m ∧ b.Ok m ∧ c.Ok m
theorem ok_iff {m : Md} {t : Tr} : t.Ok m ↔ t.row ∈ m.rs ∧ t.row.2.2 = t.kids.map (·.row.2.1) ∧ ∀ c ∈ t.kids, c.Ok m := by
  cases t <;> simp [Ok, row, kids]
def post : Tr → List Tr
  | n0 r => [n0 r]
  | n1 r a => a.post ++ [n1 r a]
  | n2 r a b => a.post ++ (b.post ++ [n2 r a b])
  | n3 r a b c => a.post ++ (b.post ++ (c.post ++ [n3 r a b c]))
theorem post_eq (t : Tr) : t.post = t.kids.flatMap post ++ [t] := by cases t <;> simp [post, kids]
theorem post_size (t : Tr) : ∀ u ∈ t.post, u.size ≤ t.size := by
  induction t using ind with
  | h t ih =>
    intro u hu
    rw [post_eq] at hu
    rcases List.mem_append.mp hu with hu | hu
    · obtain ⟨c, hc, hu⟩ := List.mem_flatMap.mp hu
      have := ih c hc u hu
      have := size_kid hc
      omega
    · rw [List.mem_singleton.mp hu]
      exact Nat.le_refl _
theorem post_ok {m : Md} (t : Tr) (g : t.Ok m) : ∀ u ∈ t.post, u.Ok m := by
  induction t using ind with
  | h t ih =>
    intro u hu
    rw [post_eq] at hu
    rcases List.mem_append.mp hu with hu | hu
    · obtain ⟨c, hc, hu⟩ := List.mem_flatMap.mp hu
      exact ih c hc ((ok_iff.mp g).2.2 c hc) u hu
    · rw [List.mem_singleton.mp hu]
      exact g
theorem kids_post (t : Tr) : ∀ u ∈ t.post, ∀ c ∈ u.kids, c ∈ t.post := by
  induction t using ind with
  | h t ih =>
    intro u hu c hc
    rw [post_eq] at hu ⊢
    rcases List.mem_append.mp hu with hu | hu
    · obtain ⟨d, hd, hu⟩ := List.mem_flatMap.mp hu
      exact List.mem_append_left _ (List.mem_flatMap.mpr ⟨d, hd, ih d hd u hu c hc⟩)
    · rw [List.mem_singleton.mp hu] at hc
      exact List.mem_append_left _ (List.mem_flatMap.mpr ⟨c, hc, by rw [post_eq]; exact List.mem_append_right _ (List.mem_singleton.mpr rfl)⟩)
end Tr
/-! ### lists without repetition, filled -/
def add (D : List Tr) (t : Tr) : List Tr := if t ∈ D then D else D ++ [t]
def addAll (D : List Tr) (L : List Tr) : List Tr := L.foldl add D
theorem add_in {D : List Tr} {t : Tr} (h : t ∈ D) : add D t = D := if_pos h
theorem add_out {D : List Tr} {t : Tr} (h : t ∉ D) : add D t = D ++ [t] := if_neg h
theorem addAll_app (D L M : List Tr) : addAll D (L ++ M) = addAll (addAll D L) M := List.foldl_append ..
theorem mem_add {D : List Tr} {t u : Tr} : u ∈ add D t ↔ u ∈ D ∨ u = t := by
  unfold add
  split
  · rename_i h
    refine ⟨.inl, fun e => ?_⟩
    rcases e with e | e
    · exact e
    · rw [e]; exact h
  · rw [List.mem_append, List.mem_singleton]
theorem mem_addAll {u : Tr} : ∀ {L D : List Tr}, u ∈ addAll D L ↔ u ∈ D ∨ u ∈ L
  | [], D => by simp [addAll]
  | t :: r, D => by
    show u ∈ addAll (add D t) r ↔ _
    rw [mem_addAll, mem_add, List.mem_cons]
    constructor
    · rintro ((h | h) | h)
      · exact .inl h
      · exact .inr (.inl h)
      · exact .inr (.inr h)
    · rintro (h | h | h)
      · exact .inl (.inl h)
      · exact .inl (.inr h)
      · exact .inr h
theorem add_pre (D : List Tr) (t : Tr) : ∃ E, add D t = D ++ E := by
  unfold add
  split
  · exact ⟨[], (List.append_nil _).symm⟩
  · exact ⟨[t], rfl⟩
theorem addAll_pre : ∀ (L D : List Tr), ∃ E, addAll D L = D ++ E
  | [], D => ⟨[], (List.append_nil _).symm⟩
  | t :: r, D => by
    obtain ⟨E, e⟩ := add_pre D t
    obtain ⟨F, f⟩ := addAll_pre r (add D t)
    refine ⟨E ++ F, ?_⟩
    show addAll (add D t) r = _
    rw [f, e, List.append_assoc]
theorem add_nd {D : List Tr} {t : Tr} (h : D.Nodup) : (add D t).Nodup := by
  unfold add
  split
  · exact h
  · rename_i n
    rw [List.nodup_append]
    exact ⟨h, List.nodup_cons.mpr ⟨by simp, .nil⟩, fun x hx y hy e => n (by rw [List.mem_singleton.mp hy] at e; rw [← e]; exact hx)⟩
theorem addAll_nd : ∀ {L D : List Tr}, D.Nodup → (addAll D L).Nodup
  | [], _, h => h
  | t :: r, D, h => addAll_nd (L := r) (add_nd h)
theorem addAll_dd (D : List Tr) : ∀ L : List Tr, addAll D (addAll [] L) = addAll D L := by
  intro L
  have : ∀ (L : List Tr), addAll D (addAll [] L.reverse) = addAll D L.reverse := by
    intro L
    induction L with
    | nil => rfl
    | cons x r ih =>
      rw [List.reverse_cons, addAll_app, addAll_app]
      show addAll D (add (addAll [] r.reverse) x) = add (addAll D r.reverse) x
      by_cases h : x ∈ addAll [] r.reverse
      · rw [add_in h, ih, add_in (mem_addAll.mpr (.inr (by rcases mem_addAll.mp h with z | z; cases z; exact z)))]
      · rw [add_out h, addAll_app, ih]
        rfl
  have := this L.reverse
  rwa [List.reverse_reverse] at this
/-- each tree's fields stand ahead of it -/
def Ord (D : List Tr) : Prop := ∀ i u, D[i]? = some u → ∀ c ∈ u.kids, c ∈ D.take i
theorem Ord.mem {D : List Tr} (o : Ord D) {u c : Tr} (h : u ∈ D) (hc : c ∈ u.kids) : c ∈ D := by
  obtain ⟨i, hi, e⟩ := List.mem_iff_getElem.mp h
  exact List.mem_of_mem_take (o i u (by rw [List.getElem?_eq_getElem hi, e]) c hc)
theorem ord_nil : Ord [] := fun i u h => by simp at h
theorem ord_add {D : List Tr} {t : Tr} (o : Ord D) (h : ∀ c ∈ t.kids, c ∈ D) : Ord (add D t) := by
  unfold add
  split
  · exact o
  · intro i u e c hc
    by_cases hi : i < D.length
    · rw [List.getElem?_append_left hi] at e
      rw [List.take_append_of_le_length (Nat.le_of_lt hi)]
      exact o i u e c hc
    · have hl := (List.getElem?_eq_some_iff.mp e).1
      rw [List.length_append, List.length_singleton] at hl
      have ei : i = D.length := by omega
      subst ei
      rw [List.getElem?_append_right (Nat.le_refl _), Nat.sub_self] at e
      cases e
      rw [List.take_left' rfl]
      exact h c hc
theorem ord_post (t : Tr) : ∀ D : List Tr, Ord D → Ord (addAll D t.post) := by
  induction t using Tr.ind with
  | h t ih =>
    intro D o
    rw [Tr.post_eq, addAll_app]
    have k : ∀ (L : List Tr), (∀ c ∈ L, c ∈ t.kids) → ∀ D, Ord D → Ord (addAll D (L.flatMap Tr.post)) := by
      intro L
      induction L with
      | nil => intro _ D o; exact o
      | cons c r ih2 =>
        intro h D o
        rw [List.flatMap_cons, addAll_app]
        exact ih2 (fun x hx => h x (List.mem_cons_of_mem _ hx)) _ (ih c (h c (List.mem_cons_self ..)) D o)
    refine ord_add (k t.kids (fun _ h => h) D o) fun c hc => mem_addAll.mpr (.inr (List.mem_flatMap.mpr ⟨c, hc, ?_⟩))
    rw [Tr.post_eq]
    exact List.mem_append_right _ (List.mem_singleton.mpr rfl)
theorem ord_posts (L : List Tr) : ∀ D : List Tr, Ord D → Ord (addAll D (L.flatMap Tr.post)) := by
  induction L with
  | nil => intro D o; exact o
  | cons c r ih =>
    intro D o
    rw [List.flatMap_cons, addAll_app]
    exact ih _ (ord_post c D o)
theorem ord_take {D : List Tr} (o : Ord D) (n : Nat) : Ord (D.take n) := by
  intro i u e c hc
  rw [List.getElem?_take] at e
  split at e
  · rename_i h
    have := o i u e c hc
    rw [List.take_take, Nat.min_eq_left (Nat.le_of_lt h)]
    exact this
  · cases e
/-- all the trees in a tree, each once, fields first -/
def sub (t : Tr) : List Tr := addAll [] t.post
def below (L : List Tr) : List Tr := addAll [] (L.flatMap Tr.post)
theorem sub_eq (t : Tr) : sub t = below t.kids ++ [t] := by
  unfold sub below
  rw [Tr.post_eq, addAll_app]
  refine add_out fun h => ?_
  rcases mem_addAll.mp h with z | z
  · cases z
  · obtain ⟨c, hc, hu⟩ := List.mem_flatMap.mp z
    have := Tr.post_size c t hu
    have := Tr.size_kid hc
    omega
theorem sub_nd (t : Tr) : (sub t).Nodup := addAll_nd .nil
theorem below_nd (L : List Tr) : (below L).Nodup := addAll_nd .nil
theorem sub_ord (t : Tr) : Ord (sub t) := ord_post t [] ord_nil
theorem below_ord (L : List Tr) : Ord (below L) := ord_posts L [] ord_nil
theorem sub_ok {m : Md} {t : Tr} (g : t.Ok m) : ∀ u ∈ sub t, u.Ok m := fun u hu => by
  rcases mem_addAll.mp hu with z | z
  · cases z
  · exact Tr.post_ok t g u z
theorem below_snoc (L : List Tr) (c : Tr) : below (L ++ [c]) = addAll (below L) (sub c) := by
  unfold below sub
  rw [List.flatMap_append, addAll_app, addAll_dd, List.flatMap_cons, List.flatMap_nil, List.append_nil]
theorem below_mem {L : List Tr} {c : Tr} (h : c ∈ L) : c ∈ below L := mem_addAll.mpr (.inr (List.mem_flatMap.mpr ⟨c, h, by rw [Tr.post_eq]; exact List.mem_append_right _ (List.mem_singleton.mpr rfl)⟩))
/-! ### rows -/
abbrev Rn : Type := Str × List Nat
def code (D : List Tr) (t : Tr) : Rn := (t.row.1, t.kids.map fun c => D.idxOf c)
def codes (D : List Tr) : List Rn := D.map (code D)
theorem code_app {D : List Tr} (E : List Tr) {t : Tr} (h : ∀ c ∈ t.kids, c ∈ D) : code (D ++ E) t = code D t := by
  unfold code
  congr 1
  refine List.map_congr_left fun c hc => ?_
  rw [List.idxOf_append, if_pos (h c hc)]
theorem codes_snoc {D : List Tr} {t : Tr} (o : Ord D) (h : ∀ c ∈ t.kids, c ∈ D) : codes (D ++ [t]) = codes D ++ [code D t] := by
  unfold codes
  rw [List.map_append, List.map_cons, List.map_nil, code_app _ h]
  congr 1
  exact List.map_congr_left fun u hu => code_app _ fun c hc => o.mem hu hc
theorem codes_take {D : List Tr} (o : Ord D) (n : Nat) : codes (D.take n) = (codes D).take n := by
  unfold codes
  rw [← List.map_take]
  refine List.map_congr_left fun u hu => ?_
  have e : D = D.take n ++ D.drop n := (List.take_append_drop n D).symm
  conv => rhs; rw [e]
  rw [code_app]
  exact fun c hc => (ord_take o n).mem hu hc
theorem names_inj {m : Md} (g : (m.rs.map (·.1)).Nodup) {r r' : Rw} (h : r ∈ m.rs) (h' : r' ∈ m.rs) (e : r.1 = r'.1) : r = r' := by
  obtain ⟨i, hi, ei⟩ := List.mem_iff_getElem.mp h
  obtain ⟨j, hj, ej⟩ := List.mem_iff_getElem.mp h'
  have : i = j := by
    have := (List.getElem?_inj (l := m.rs.map (·.1)) (i := i) (j := j) (by rw [List.length_map]; exact hi) g).mp (by
      rw [List.getElem?_map, List.getElem?_map, List.getElem?_eq_getElem hi, List.getElem?_eq_getElem hj, ei, ej]
      exact congrArg some e)
    exact this
  subst this
  rw [← ei, ← ej]
theorem idx_at {D : List Tr} {c : Tr} (h : c ∈ D) : D[D.idxOf c]? = some c := by
  have hl := List.idxOf_lt_length_of_mem h
  rw [List.getElem?_eq_getElem hl, List.getElem_idxOf hl]
theorem idx_of {D : List Tr} (nd : D.Nodup) {i : Nat} {c : Tr} (h : D[i]? = some c) : D.idxOf c = i := by
  obtain ⟨hi, e⟩ := List.getElem?_eq_some_iff.mp h
  rw [← e]
  exact nd.idxOf_getElem i hi
theorem idx_inj {D : List Tr} {c d : Tr} (hc : c ∈ D) (hd : d ∈ D) (e : D.idxOf c = D.idxOf d) : c = d := by
  have h1 := idx_at hc
  have h2 := idx_at hd
  rw [e, h2] at h1
  exact (Option.some.inj h1).symm
theorem map_idx_inj {D : List Tr} : ∀ {L M : List Tr}, (∀ c ∈ L, c ∈ D) → (∀ c ∈ M, c ∈ D) → L.map (fun c => D.idxOf c) = M.map (fun c => D.idxOf c) → L = M
  | [], [], _, _, _ => rfl
  | [], _ :: _, _, _, h => by simp at h
  | _ :: _, [], _, _, h => by simp at h
  | a :: r, b :: s, h1, h2, h => by
    rw [List.map_cons, List.map_cons] at h
    injection h with e1 e2
    rw [idx_inj (h1 a (List.mem_cons_self ..)) (h2 b (List.mem_cons_self ..)) e1, map_idx_inj (fun c hc => h1 c (List.mem_cons_of_mem _ hc)) (fun c hc => h2 c (List.mem_cons_of_mem _ hc)) e2]
theorem code_inj {m : Md} (g : (m.rs.map (·.1)).Nodup) {D : List Tr} {t u : Tr} (ht : t.Ok m) (hu : u.Ok m) (kt : ∀ c ∈ t.kids, c ∈ D) (ku : ∀ c ∈ u.kids, c ∈ D) (e : code D t = code D u) : t = u := by
  have e1 : t.row.1 = u.row.1 := congrArg (fun x : Rn => x.1) e
  have e2 : t.kids.map (fun c => D.idxOf c) = u.kids.map (fun c => D.idxOf c) := congrArg (fun x : Rn => x.2) e
  exact Tr.ext (names_inj g (Tr.ok_iff.mp ht).1 (Tr.ok_iff.mp hu).1 e1) (map_idx_inj kt ku e2)
theorem code_mem {m : Md} (g : (m.rs.map (·.1)).Nodup) {D : List Tr} (o : Ord D) (ok : ∀ u ∈ D, u.Ok m) {t : Tr} (ht : t.Ok m) (kt : ∀ c ∈ t.kids, c ∈ D) : code D t ∈ codes D ↔ t ∈ D := by
  constructor
  · intro h
    obtain ⟨u, hu, e⟩ := List.mem_map.mp h
    rw [← code_inj g (ok u hu) ht (fun c hc => o.mem hu hc) kt e]
    exact hu
  · intro h
    exact List.mem_map.mpr ⟨t, h, rfl⟩
theorem codes_nd {m : Md} (g : (m.rs.map (·.1)).Nodup) {D : List Tr} (o : Ord D) (nd : D.Nodup) (ok : ∀ u ∈ D, u.Ok m) : (codes D).Nodup := by
  unfold codes
  rw [List.nodup_iff_pairwise_ne, List.pairwise_map]
  refine List.Pairwise.imp_of_mem (fun {a b} ha hb n e => n ?_) (List.nodup_iff_pairwise_ne.mp nd)
  exact code_inj g (ok a ha) (ok b hb) (fun c hc => o.mem ha hc) (fun c hc => o.mem hb hc) e
theorem sub_last (t : Tr) : (sub t)[(sub t).length - 1]? = some t := by
  rw [sub_eq, List.length_append, List.length_singleton, Nat.add_sub_cancel, List.getElem?_append_right (Nat.le_refl _), Nat.sub_self]
  rfl
end Ks
set_option Elab.async false
set_option linter.all false
set_option maxRecDepth 100000
set_option maxHeartbeats 4000000
namespace Ks
open PySem PySem.Spec PyProof.Rows L2 Gd Kx
/-! ### trees in the heap -/
def cT (i : Nat) : Stmt := inClass (Kx.topS 47) i
/-- the fields of a tree -/
def trF (R s : Addr) (n k : Str) (F : Addr) (z d : Int) : List (Str × V) :=
  putF "_depth" (.int d) (putF "_size" (.int z) (putF "_fields" (.ref F) (putF "kind" (.str k) (putF "name" (.str n) (putF "_schema" (.ref s) (putF "_rows" (.ref R) []))))))
section
variable {R s F : Addr} {n k : Str} {z d : Int}
theorem trF_R : (trF R s n k F z d).lookup ("_rows" : Str) = some (V.ref R) := rfl
theorem trF_s : (trF R s n k F z d).lookup ("_schema" : Str) = some (V.ref s) := rfl
theorem trF_n : (trF R s n k F z d).lookup ("name" : Str) = some (V.str n) := rfl
theorem trF_k : (trF R s n k F z d).lookup ("kind" : Str) = some (V.str k) := rfl
theorem trF_F : (trF R s n k F z d).lookup ("_fields" : Str) = some (V.ref F) := rfl
theorem trF_z : (trF R s n k F z d).lookup ("_size" : Str) = some (V.int z) := rfl
theorem trF_d : (trF R s n k F z d).lookup ("_depth" : Str) = some (V.int d) := rfl
end
def nsV (ks : List Nat) : List V := ks.map fun k => V.int ((k : Nat) : Int)
def RowN (H : Hp) (x : V) (r : Rn) : Prop := ∃ b q : Addr, x = .ref b ∧ H b = some (.tup [.str r.1, .ref q]) ∧ H q = some (.tup (nsV r.2))
def RwsT (H : Hp) (R : Addr) (rs : List Rn) : Prop := ∃ xs : List V, H R = some (.tup xs) ∧ Paired (RowN H) xs rs
theorem RowN.keep {H H' : Hp} {x : V} {r : Rn} (h : RowN H x r) (s : Same H H') : RowN H' x r := by
  obtain ⟨b, q, e, h1, h2⟩ := h
  exact ⟨b, q, e, s _ _ h1, s _ _ h2⟩
theorem RwsT.keep {H H' : Hp} {R : Addr} {rs : List Rn} (h : RwsT H R rs) (s : Same H H') : RwsT H' R rs := by
  obtain ⟨xs, e, p⟩ := h
  exact ⟨xs, s _ _ e, Paired.mapP p fun _ _ q => RowN.keep q s⟩
theorem par_at {α β : Type} {G : α → β → Prop} : ∀ {xs : List α} {rs : List β} {n : Nat} {x : α}, Paired G xs rs → xs[n]? = some x → ∃ r, rs[n]? = some r ∧ G x r
  | _, _, n, x, .nil, h => by simp at h
  | _, _, 0, x, .cons (b := i) r t, h => by
    have e := Option.some.inj h
    subst e
    exact ⟨i, rfl, r⟩
  | _, _, n + 1, x, .cons r t, h => by
    obtain ⟨i, e, q⟩ := par_at (n := n) t (by simpa using h)
    exact ⟨i, by simpa using e, q⟩
/-- a tree at a -/
inductive TrAt (CT CS : Addr) (m : Md) (H : Hp) : Addr → Tr → Prop
  | mk {a dx R s F : Addr} {t : Tr} {bs : List Addr} : H a = some (.ins CT dx (trF R s t.row.1 t.row.2.1 F (t.size : Nat) (t.dep : Nat))) → ScAt CS H s m → RwsT H R (codes (sub t)) → H F = some (.tup (bs.map V.ref)) → bs.length = t.kids.length →
      (∀ (i : Nat) (b : Addr) (c : Tr), bs[i]? = some b → t.kids[i]? = some c → TrAt CT CS m H b c) → TrAt CT CS m H a t
theorem TrAt.keep {CT CS : Addr} {m : Md} {H H' : Hp} {a : Addr} {t : Tr} (h : TrAt CT CS m H a t) (s : Same H H') : TrAt CT CS m H' a t := by
  induction h with
  | mk h1 h2 h3 h4 h5 _ ih => exact .mk (s _ _ h1) (h2.keep s) (h3.keep s) (s _ _ h4) h5 ih
/-- what is known of the class -/
structure TCl (K : PySem.W.Frag) (C : Addr) : Prop where
  cls : Cls K C
  nR : NoAttr K C "_rows"
  ns : NoAttr K C "_schema"
  nn : NoAttr K C "name"
  nk : NoAttr K C "kind"
  nF : NoAttr K C "_fields"
  nz : NoAttr K C "_size"
  nd : NoAttr K C "_depth"
theorem scGs : FnScope ["self"] ["self"] (defScope (cT 3)) := ⟨rfl, rfl, rfl, by decide +kernel, rfl, by decide +kernel, by decide +kernel⟩
theorem scGR : FnScope ["self"] ["self"] (defScope (cT 4)) := ⟨rfl, rfl, rfl, by decide +kernel, rfl, by decide +kernel, by decide +kernel⟩
theorem scGF : FnScope ["self"] ["self"] (defScope (cT 5)) := ⟨rfl, rfl, rfl, by decide +kernel, rfl, by decide +kernel, by decide +kernel⟩
theorem scGz : FnScope ["self"] ["self"] (defScope (cT 6)) := ⟨rfl, rfl, rfl, by decide +kernel, rfl, by decide +kernel, by decide +kernel⟩
theorem scGd : FnScope ["self"] ["self"] (defScope (cT 7)) := ⟨rfl, rfl, rfl, by decide +kernel, rfl, by decide +kernel, by decide +kernel⟩
abbrev sChk : Stmt := Kx.topS 35
abbrev sIto : Stmt := Kx.topS 39
abbrev sCf : Stmt := Kx.topS 40
theorem scChk : FnScope ["schema"] ["schema"] (defScope sChk) := ⟨rfl, rfl, rfl, by decide +kernel, rfl, by decide +kernel, by decide +kernel⟩
theorem scIto : FnScope ["value", "schema", "kind"] ["value", "schema", "kind"] (defScope sIto) := ⟨rfl, rfl, rfl, by decide +kernel, rfl, by decide +kernel, by decide +kernel⟩
theorem scCf : FnScope ["schema", "kinds", "fields", "index", "kind"] ["schema", "kinds", "fields"] (defScope sCf) := ⟨rfl, rfl, rfl, by decide +kernel, rfl, by decide +kernel, by decide +kernel⟩
section
variable {P : Program} {w : World} {K : PySem.W.Frag} {mg : Str → Option Value} {base : Heap} {CT CS : Addr}
/-- an attribute, given back -/
def spGet (C : Addr) (x : Str) : Sp := fun vs H Q _ => ∃ (a dx : Addr) (fs : List (Str × V)) (v : V), vs = [.ref a] ∧ H a = some (.ins C dx fs) ∧ fs.lookup x = some v ∧ Q v H
theorem ok_gs {f : Addr} {fd : FuncData} (F : Fun K "schema" "Tree.schema" (cT 3) f fd) (Z : TCl K CT) : FnOk P w K mg base CX0 1 f fd ["self"] (spGet CT "_schema") := by
  refine F.ok scGs (fun vs H Q E h => ?_) (fun cv A ou s H vs Q E hr h => ?_)
  · obtain ⟨a, dx, fs, v, rfl, _⟩ := h
    rfl
  obtain ⟨a, dx, fs, v, rfl, e, l, q⟩ := h
  exact ⟨_, pss_one (ps_ret (pe_fld (pv 0) rfl)), .ref a, rfl, a, CT, dx, _, _, rfl, e, Z.cls, Z.ns, l, q⟩
theorem ok_gR {f : Addr} {fd : FuncData} (F : Fun K "rows" "Tree.rows" (cT 4) f fd) (Z : TCl K CT) : FnOk P w K mg base CX0 1 f fd ["self"] (spGet CT "_rows") := by
  refine F.ok scGR (fun vs H Q E h => ?_) (fun cv A ou s H vs Q E hr h => ?_)
  · obtain ⟨a, dx, fs, v, rfl, _⟩ := h
    rfl
  obtain ⟨a, dx, fs, v, rfl, e, l, q⟩ := h
  exact ⟨_, pss_one (ps_ret (pe_fld (pv 0) rfl)), .ref a, rfl, a, CT, dx, _, _, rfl, e, Z.cls, Z.nR, l, q⟩
theorem ok_gF {f : Addr} {fd : FuncData} (F : Fun K "fields" "Tree.fields" (cT 5) f fd) (Z : TCl K CT) : FnOk P w K mg base CX0 1 f fd ["self"] (spGet CT "_fields") := by
  refine F.ok scGF (fun vs H Q E h => ?_) (fun cv A ou s H vs Q E hr h => ?_)
  · obtain ⟨a, dx, fs, v, rfl, _⟩ := h
    rfl
  obtain ⟨a, dx, fs, v, rfl, e, l, q⟩ := h
  exact ⟨_, pss_one (ps_ret (pe_fld (pv 0) rfl)), .ref a, rfl, a, CT, dx, _, _, rfl, e, Z.cls, Z.nF, l, q⟩
theorem ok_gz {f : Addr} {fd : FuncData} (F : Fun K "size" "Tree.size" (cT 6) f fd) (Z : TCl K CT) : FnOk P w K mg base CX0 1 f fd ["self"] (spGet CT "_size") := by
  refine F.ok scGz (fun vs H Q E h => ?_) (fun cv A ou s H vs Q E hr h => ?_)
  · obtain ⟨a, dx, fs, v, rfl, _⟩ := h
    rfl
  obtain ⟨a, dx, fs, v, rfl, e, l, q⟩ := h
  exact ⟨_, pss_one (ps_ret (pe_fld (pv 0) rfl)), .ref a, rfl, a, CT, dx, _, _, rfl, e, Z.cls, Z.nz, l, q⟩
theorem ok_gd {f : Addr} {fd : FuncData} (F : Fun K "depth" "Tree.depth" (cT 7) f fd) (Z : TCl K CT) : FnOk P w K mg base CX0 1 f fd ["self"] (spGet CT "_depth") := by
  refine F.ok scGd (fun vs H Q E h => ?_) (fun cv A ou s H vs Q E hr h => ?_)
  · obtain ⟨a, dx, fs, v, rfl, _⟩ := h
    rfl
  obtain ⟨a, dx, fs, v, rfl, e, l, q⟩ := h
  exact ⟨_, pss_one (ps_ret (pe_fld (pv 0) rfl)), .ref a, rfl, a, CT, dx, _, _, rfl, e, Z.cls, Z.nd, l, q⟩
/-- the schema class's services -/
structure Sch (P : Program) (w : World) (K : PySem.W.Frag) (mg : Str → Option Value) (base : Heap) (CS : Addr) : Prop where
  cl : SCl K CS
  ci : SCi K CS
  gl : mg "Schema" = some (.ref CS)
  eq : ∃ f fd, Dm K CS "__eq__" f ∧ FnOk P w K mg base CX0 1 f fd ["self", "other"] (spEq K CS) ∧ Binds K fd ["self", "other"] []
  co : ∃ f fd, Meth K CS "constructor" f ∧ FnOk P w K mg base CX0 3 f fd ["self", "name"] (spCo CS) ∧ Binds K fd ["self", "name"] []
theorem ScAt.ins {H : Hp} {a : Addr} {m : Md} (h : ScAt CS H a m) : ∃ dx fs, H a = some (.ins CS dx fs) := by
  obtain ⟨dx, k, c, n, ⟨dp, e, _⟩, _⟩ := h
  exact ⟨dx, _, e⟩
/-- nothing is wrong with a schema -/
def spChk (CS : Addr) : Sp := fun vs H Q _ => ∃ (s : Addr) (m : Md), vs = [.ref s] ∧ ScAt CS H s m ∧ Q .non H
theorem ok_chk {f : Addr} {fd : FuncData} (F : Fun K "check_schema" "check_schema" sChk f fd) (mi : mg "isinstance" = none) (S : Sch P w K mg base CS) : FnOk P w K mg base CX0 1 f fd ["schema"] (spChk CS) := by
  refine F.ok scChk (fun vs H Q E h => ?_) (fun cv A ou s H vs Q E hr h => ?_)
  · obtain ⟨a, m, rfl, _⟩ := h
    rfl
  obtain ⟨a, m, rfl, hs, q⟩ := h
  refine ⟨_, pss_one (ps_if (pt_not (pt_val (pe_callB call_isi (by rfl) mi boot_isinstance (pa_cons (pv 0) (pa_cons (pe_glob (v := .ref CS) (by rfl) S.gl rfl) pa_nil))))) pss_never pss_nil), ?_⟩
  refine ⟨.ref a, rfl, .ref a, .ref CS, _, .ref CS, true, rfl, .own CS, .base (hs.ty S.cl S.ci), ?_, _, rfl, iteF q⟩
  unfold PySem.W.kitOne
  rw [if_pos (beq_self_eq_true _)]
/-- the tree class's getters -/
structure Tch (P : Program) (w : World) (K : PySem.W.Frag) (mg : Str → Option Value) (base : Heap) (CT : Addr) : Prop where
  cl : TCl K CT
  ci : SCi K CT
  gl : mg "Tree" = some (.ref CT)
  gs : ∃ p f fd, PropOf K CT "schema" p f ∧ FnOk P w K mg base CX0 1 f fd ["self"] (spGet CT "_schema") ∧ Binds K fd ["self"] []
  gR : ∃ p f fd, PropOf K CT "rows" p f ∧ FnOk P w K mg base CX0 1 f fd ["self"] (spGet CT "_rows") ∧ Binds K fd ["self"] []
  gF : ∃ p f fd, PropOf K CT "fields" p f ∧ FnOk P w K mg base CX0 1 f fd ["self"] (spGet CT "_fields") ∧ Binds K fd ["self"] []
  gz : ∃ p f fd, PropOf K CT "size" p f ∧ FnOk P w K mg base CX0 1 f fd ["self"] (spGet CT "_size") ∧ Binds K fd ["self"] []
  gd : ∃ p f fd, PropOf K CT "depth" p f ∧ FnOk P w K mg base CX0 1 f fd ["self"] (spGet CT "_depth") ∧ Binds K fd ["self"] []
theorem TrAt.ty {m : Md} {H : Hp} {a : Addr} {t : Tr} (h : TrAt CT CS m H a t) (Z : TCl K CT) (I : SCi K CT) : TyOf K H (.ref a) (.ref CT) := by
  cases h with
  | mk e _ _ _ _ _ => exact .ins e Z.cls I.ca I.cn I.ct I.mo
theorem kit_self (C : Addr) : PySem.W.kitOne K (.ref C) (.ref C) = some true := by
  unfold PySem.W.kitOne
  rw [if_pos (beq_self_eq_true _)]
/-- a tree of this kind -/
def spIto (CT CS : Addr) : Sp := fun vs H Q _ => ∃ (b s : Addr) (k : Str) (m : Md) (t : Tr), vs = [.ref b, .ref s, .str k] ∧ TrAt CT CS m H b t ∧ ScAt CS H s m ∧ Good m ∧ Q (.bl (decide (t.row.2.1 = k))) H
theorem ok_ito {f : Addr} {fd : FuncData} (F : Fun K "is_tree_of" "is_tree_of" sIto f fd) (mi : mg "isinstance" = none) (S : Sch P w K mg base CS) (T : Tch P w K mg base CT) : FnOk P w K mg base CX0 3 f fd ["value", "schema", "kind"] (spIto CT CS) := by
  refine F.ok scIto (fun vs H Q E h => ?_) (fun cv A ou s H vs Q E hr h => ?_)
  · obtain ⟨b, s, k, m, t, rfl, _⟩ := h
    rfl
  obtain ⟨b, a, k, m, t, rfl, ht, hs, g, q⟩ := h
  obtain ⟨fe, de, De, Fe, be⟩ := S.eq
  obtain ⟨ps, fs, ds, Ps, Fs, bs⟩ := T.gs
  have hr1 : Room 1 (A.deeper (envOfC "is_tree_of" (defScope sIto) s.heap.objs.size f cv)) := hr.mono (by decide)
  refine ⟨_, pss_one (ps_ret (pe_and (pe_callB call_isi (by rfl) mi boot_isinstance (pa_cons (pv 0) (pa_cons (pe_glob (v := .ref CT) (by rfl) T.gl rfl) pa_nil)))
    (pe_and (pe_cmpR op_eq (pe_fld (pv 0) rfl) (pv 2) (nomark _)) (pe_one (pe_cmpR (op_eqO De Fe hr1 be pass0) (pe_prop (pv 0) T.cl.cls Ps Fs hr bs .nil pass0 rfl) (pv 1) (nomark _)))))), ?_⟩
  have ty := ht.ty T.cl T.ci
  cases ht with
  | @mk _ dx R s' F' _ _ e h2 h3 h4 h5 h6 =>
  refine ⟨.ref b, rfl, .ref b, .ref CT, _, .ref CT, true, rfl, .own CT, .base ty, kit_self CT, _, rfl, iteT ?_⟩
  refine ⟨.ref b, rfl, b, CT, dx, _, _, rfl, e, T.cl.cls, T.cl.nk, trF_k, .str k, rfl, rfl, _, rfl, ?_⟩
  rw [show decide (V.str t.row.2.1 = V.str k) = decide (t.row.2.1 = k) by rw [Bool.eq_iff_iff]; simp]
  cases hk : decide (t.row.2.1 = k) with
  | false =>
    rw [hk] at q
    exact iteF q
  | true =>
    rw [hk] at q
    obtain ⟨d1, f1, e1⟩ := h2.ins
    obtain ⟨d2, f2, e2⟩ := hs.ins
    refine iteT ⟨.ref b, rfl, b, dx, _, rfl, e, b, dx, _, .ref s', rfl, e, trF_s, .ref a, rfl, s', d1, f1, rfl, e1, .inl ⟨a, d2, f2, rfl, e2⟩, s', .ref a, m, rfl, h2, g, .inl ⟨a, m, rfl, hs, g, _, rfl, ?_⟩⟩
    rw [decide_eq_true rfl, decide_eq_true rfl]
    exact q
end
end Ks
set_option Elab.async false
set_option linter.all false
set_option maxRecDepth 100000
set_option maxHeartbeats 4000000
namespace Ks
open PySem PySem.Spec PyProof.Rows L2 Gd Kx
/-! ### the rows below a tree -/
abbrev sRb : Stmt := Kx.topS 41
abbrev nRb : List Str := ["name", "fields", "places", "tops", "field", "numbers", "its_name", "its_numbers", "row", "k"]
theorem scRb : FnScope nRb ["name", "fields"] (defScope sRb) := ⟨rfl, rfl, rfl, by decide +kernel, rfl, by decide +kernel, by decide +kernel⟩
/-- a row as a key -/
def rk (r : Rn) : NestedKey := .tup [.text r.1, .tup (r.2.map fun k => .num ((k : Nat) : Int))]
theorem nums_inj : ∀ {a b : List Nat}, a.map (fun k => NestedKey.num ((k : Nat) : Int)) = b.map (fun k => NestedKey.num ((k : Nat) : Int)) → a = b
  | [], [], _ => rfl
  | [], _ :: _, h => by simp at h
  | _ :: _, [], h => by simp at h
  | x :: r, y :: s, h => by
    rw [List.map_cons, List.map_cons] at h
    injection h with h1 h2
    injection h1 with h1
    rw [show x = y by omega, nums_inj h2]
theorem rk_inj {r s : Rn} (h : rk r = rk s) : r = s := by
  obtain ⟨a, b⟩ := r
  obtain ⟨c, d⟩ := s
  unfold rk at h
  injection h with h
  injection h with h1 h2
  injection h1 with h1
  injection h2 with h2 _
  injection h2 with h2
  exact Prod.ext h1 (nums_inj h2)
theorem rk_depth (r : Rn) : (rk r).depth ≤ 8 := by
  have e : ∀ l : List Nat, NestedKey.depthAll (l.map fun k => NestedKey.num ((k : Nat) : Int)) ≤ 1 := by
    intro l
    induction l with
    | nil => simp [NestedKey.depthAll]
    | cons x r ih => simp [NestedKey.depthAll, NestedKey.depth] at ih ⊢; omega
  have := e r.2
  simp only [rk, NestedKey.depth, NestedKey.depthAll]
  omega
theorem nka_nums {H : Hp} : ∀ l : List Nat, NKA H (l.map fun k => .num ((k : Nat) : Int)) (nsV l)
  | [] => .nil
  | k :: r => .cons (.int _) (nka_nums r)
theorem nka_nums' {H : Hp} : ∀ {l : List Nat} {xs : List V}, NKA H (l.map fun k => .num ((k : Nat) : Int)) xs → xs = nsV l
  | [], _, .nil => rfl
  | k :: r, _, .cons (.int _) t => by rw [nka_nums' t]; rfl
theorem rk_of {H : Hp} {x : V} {r : Rn} (h : RowN H x r) : NK H (rk r) x := by
  obtain ⟨b, q, rfl, h1, h2⟩ := h
  exact .tup h1 (.cons (.str _) (.cons (.tup h2 (nka_nums _)) .nil))
theorem of_rk {H : Hp} {x : V} {r : Rn} (h : NK H (rk r) x) : RowN H x r := by
  cases h with
  | @tup b _ _ h1 h2 =>
    cases h2 with
    | cons a t =>
      cases a
      cases t with
      | cons a t =>
        cases t
        cases a with
        | @tup q _ _ h3 h4 =>
          rw [nka_nums' h4] at h3
          exact ⟨b, q, rfl, h1, h3⟩
section
variable {P : Program} {w : World}
/-- the dict at d holds the places of these rows -/
def KD (P : Program) (w : World) (H : Hp) (d : Addr) (rs : List Rn) : Prop := ∃ xs, DN P w H d xs ∧ xs.map (·.1) = rs.map rk ∧ ∀ (i : Nat) (x : NestedKey × Addr × V), xs[i]? = some x → x.2.2 = V.int ((i : Nat) : Int)
theorem KD.keep {H H' : Hp} {d : Addr} {rs : List Rn} (h : KD P w H d rs) (s : Same H H') : KD P w H' d rs := by
  obtain ⟨xs, a, b, c⟩ := h
  exact ⟨xs, a.same s, b, c⟩
theorem kd_new {H : Hp} {d : Addr} (e : H d = some (.dT [])) : KD P w H d [] := ⟨[], .new e, rfl, fun i x h => by simp at h⟩
theorem fnd_none {xs : List (NestedKey × Addr × V)} {rs : List Rn} (e : xs.map (·.1) = rs.map rk) {r : Rn} (n : r ∉ rs) : fnd xs (rk r) = none := by
  unfold fnd
  rw [Option.map_eq_none_iff, List.find?_eq_none]
  intro x hx hd
  have hm : x.1 ∈ rs.map rk := by rw [← e]; exact List.mem_map.mpr ⟨x, hx, rfl⟩
  obtain ⟨s, hs, es⟩ := List.mem_map.mp hm
  have : x.1 = rk r := of_decide_eq_true hd
  rw [← es] at this
  exact n (rk_inj this ▸ hs)
theorem fnd_at : ∀ {xs : List (NestedKey × Addr × V)} {i : Nat} {x : NestedKey × Addr × V}, (xs.map (·.1)).Nodup → xs[i]? = some x → fnd xs x.1 = some x.2
  | [], i, x, _, h => by simp at h
  | y :: r, 0, x, _, h => by
    cases h
    simp [fnd, List.find?_cons]
  | y :: r, i + 1, x, nd, h => by
    rw [List.map_cons, List.nodup_cons] at nd
    rw [List.getElem?_cons_succ] at h
    have ne : ¬ y.1 = x.1 := fun e => nd.1 (e ▸ List.mem_map.mpr ⟨x, List.mem_of_getElem? h, rfl⟩)
    have ih := fnd_at nd.2 h
    unfold fnd at ih ⊢
    rw [List.find?_cons_of_neg (by simpa using ne)]
    exact ih
theorem fnd_some {H : Hp} {d : Addr} {xs : List (NestedKey × Addr × V)} {rs : List Rn} (D : DN P w H d xs) (e : xs.map (·.1) = rs.map rk) (v : ∀ (i : Nat) (x : NestedKey × Addr × V), xs[i]? = some x → x.2.2 = V.int ((i : Nat) : Int))
    {i : Nat} {r : Rn} (h : rs[i]? = some r) : ∃ b, fnd xs (rk r) = some (b, .int ((i : Nat) : Int)) := by
  have h1 : (xs.map (·.1))[i]? = some (rk r) := by rw [e, List.getElem?_map, h]; rfl
  rw [List.getElem?_map] at h1
  cases ex : xs[i]? with
  | none => rw [ex] at h1; cases h1
  | some x =>
    rw [ex] at h1
    have ek : x.1 = rk r := Option.some.inj h1
    have := fnd_at D.nd ex
    rw [ek] at this
    refine ⟨x.2.1, ?_⟩
    rw [this, ← v i x ex]
theorem kd_snoc {H : Hp} {d a : Addr} {xs : List (NestedKey × Addr × V)} {rs : List Rn} {r : Rn} (e : xs.map (·.1) = rs.map rk) (v : ∀ (i : Nat) (x : NestedKey × Addr × V), xs[i]? = some x → x.2.2 = V.int ((i : Nat) : Int))
    (D : DN P w H d (xs ++ [(rk r, a, V.int ((rs.length : Nat) : Int))])) : KD P w H d (rs ++ [r]) := by
  have hl : xs.length = rs.length := by
    have := congrArg List.length e
    rwa [List.length_map, List.length_map] at this
  refine ⟨_, D, by rw [List.map_append, List.map_append, e]; rfl, fun i x h => ?_⟩
  by_cases hi : i < xs.length
  · rw [List.getElem?_append_left hi] at h
    exact v i x h
  · rw [List.getElem?_append_right (by omega)] at h
    have h0 := (List.getElem?_eq_some_iff.mp h).1
    rw [List.length_singleton] at h0
    have ei : i = rs.length := by omega
    subst ei
    rw [show rs.length - xs.length = 0 by omega] at h
    cases h
    rfl
theorem kd_refs {H : Hp} : ∀ {xs : List (NestedKey × Addr × V)} {rs : List Rn}, xs.map (·.1) = rs.map rk → (∀ x ∈ xs, NK H x.1 (.ref x.2.1) ∧ x.1.depth ≤ 8) → Paired (RowN H) (xs.map fun z => V.ref z.2.1) rs
  | [], [], _, _ => .nil
  | [], _ :: _, e, _ => by simp at e
  | _ :: _, [], e, _ => by simp at e
  | x :: r, s :: t, e, k => by
    rw [List.map_cons, List.map_cons] at e
    injection e with e1 e2
    have k1 := (k x (List.mem_cons_self ..)).1
    rw [e1] at k1
    exact .cons (of_rk k1) (kd_refs e2 fun y hy => k y (List.mem_cons_of_mem _ hy))
end
/-- the trees at these addresses -/
structure Kids (CT CS : Addr) (m : Md) (H : Hp) (bs : List Addr) (cs : List Tr) : Prop where
  len : bs.length = cs.length
  at_ : ∀ (i : Nat) (b : Addr) (c : Tr), bs[i]? = some b → cs[i]? = some c → TrAt CT CS m H b c
theorem Kids.keep {CT CS : Addr} {m : Md} {H H' : Hp} {bs : List Addr} {cs : List Tr} (h : Kids CT CS m H bs cs) (s : Same H H') : Kids CT CS m H' bs cs := ⟨h.len, fun i b c e1 e2 => (h.at_ i b c e1 e2).keep s⟩
theorem Kids.get {CT CS : Addr} {m : Md} {H : Hp} {bs : List Addr} {cs : List Tr} (h : Kids CT CS m H bs cs) {i : Nat} {x : V} (e : (bs.map V.ref)[i]? = some x) : ∃ b c, x = .ref b ∧ bs[i]? = some b ∧ cs[i]? = some c ∧ TrAt CT CS m H b c := by
  rw [List.getElem?_map] at e
  cases eb : bs[i]? with
  | none => rw [eb] at e; cases e
  | some b =>
    rw [eb] at e
    have hi := (List.getElem?_eq_some_iff.mp eb).1
    have ec : cs[i]? = some (cs[i]'(by rw [← h.len]; exact hi)) := List.getElem?_eq_getElem _
    exact ⟨b, _, (Option.some.inj e).symm, rfl, ec, h.at_ i b _ eb ec⟩
theorem nsV_at {l : List Nat} {i k : Nat} (h : l[i]? = some k) : (nsV l)[i]? = some (V.int ((k : Nat) : Int)) := by
  unfold nsV
  rw [List.getElem?_map, h]
  rfl
theorem nsV_app (a b : List Nat) : nsV (a ++ b) = nsV a ++ nsV b := List.map_append ..
theorem nsV_len (l : List Nat) : (nsV l).length = l.length := List.length_map ..
theorem idx_app {D : List Tr} (E : List Tr) {L : List Tr} (h : ∀ c ∈ L, c ∈ D) : L.map (fun c => (D ++ E).idxOf c) = L.map (fun c => D.idxOf c) :=
  List.map_congr_left fun c hc => by rw [List.idxOf_append, if_pos (h c hc)]
theorem codes_len (D : List Tr) : (codes D).length = D.length := List.length_map ..
theorem codes_at {D : List Tr} {i : Nat} {u : Tr} (h : D[i]? = some u) : (codes D)[i]? = some (code D u) := by
  unfold codes
  rw [List.getElem?_map, h]
  rfl
theorem codes_at' {D : List Tr} {i : Nat} {r : Rn} (h : (codes D)[i]? = some r) : ∃ u, D[i]? = some u ∧ r = code D u := by
  unfold codes at h
  rw [List.getElem?_map] at h
  cases e : D[i]? with
  | none => rw [e] at h; cases h
  | some u => rw [e] at h; exact ⟨u, rfl, (Option.some.inj h).symm⟩
theorem below_ok {m : Md} {cs : List Tr} (g : ∀ c ∈ cs, c.Ok m) : ∀ u ∈ below cs, u.Ok m := fun u hu => by
  rcases mem_addAll.mp hu with z | z
  · cases z
  · obtain ⟨c, hc, hu⟩ := List.mem_flatMap.mp z
    exact Tr.post_ok c (g c hc) u hu
end Ks
set_option Elab.async false
set_option linter.all false
set_option maxRecDepth 100000
set_option maxHeartbeats 4000000
namespace Ks
open PySem PySem.Spec PyProof.Rows L2 Gd Kx
section
variable {P : Program} {w : World} {K : PySem.W.Frag} {mg : Str → Option Value} {base : Heap} {CT CS : Addr}
/-- nothing is wrong with the fields -/
def spCf (CT CS : Addr) : Sp := fun vs H Q _ => ∃ (s k F : Addr) (m : Md) (bs : List Addr) (cs : List Tr), vs = [.ref s, .ref k, .ref F] ∧ ScAt CS H s m ∧ Good m ∧ StT H k (cs.map (·.row.2.1)) ∧ H F = some (.tup (bs.map V.ref)) ∧ Kids CT CS m H bs cs ∧ cs.length ≤ 3 ∧
  ∀ H', Same H H' → Q .non H'
theorem ok_cf {f fi : Addr} {fd fdi : FuncData} (F : Fun K "_check_fields" "_check_fields" sCf f fd) (T : TS0 mg)
    (GI : FnOk P w K mg base CX0 3 fi fdi ["value", "schema", "kind"] (spIto CT CS)) (ki : PySem.W.keepIn K (.ref fi) = true) (bI : Binds K fdi ["value", "schema", "kind"] []) (gI : mg "is_tree_of" = some (.ref fi)) :
    FnOk P w K mg base CX0 4 f fd ["schema", "kinds", "fields"] (spCf CT CS) := by
  refine F.ok scCf (fun vs H Q E h => ?_) (fun cv A ou s H vs Q E hr h => ?_)
  · obtain ⟨s, k, F, m, bs, cs, rfl, _⟩ := h
    rfl
  obtain ⟨a, k, F, m, bs, cs, rfl, hs, g, hk, hF, kid, l3, q⟩ := h
  refine ⟨_, pss_cons (ps_if (pt_cmpR op_ne (pe_callB call_len_seq (by rfl) T.len PySem.boot_len (pa_cons (pv 2) pa_nil)) (pe_callB call_len_seq (by rfl) T.len PySem.boot_len (pa_cons (pv 1) pa_nil)) (nomark _)) pss_never pss_nil)
    (pss_one (ps_for PassesOwn.never rfl (pi_enT (by rfl) T.enu (pa_cons (pv 1) pa_nil)) (pg_tup rfl (pgs_cons (pg_name (i := 3) scCf.nd rfl (.inl rfl)) (pgs_cons (pg_name (i := 4) scCf.nd rfl (.inl rfl)) pgs_nil)))
      (pss_one (ps_if (pt_not (pt_val (pe_call GI hr (by rfl) gI ki bI .nil pass0 (pa_cons (pe_ix ix_tup (pv 2) (pv 3) (fun _ _ => rfl)) (pa_cons (pv 0) (pa_cons (pv 4) pa_nil)))))) pss_never pss_nil)))), ?_⟩
  refine ⟨.ref F, rfl, F, _, rfl, .inr (SqT.of hF), .ref k, rfl, k, _, rfl, .inr (SqT.of hk), rfl, _, rfl, ?_⟩
  have e : ((bs.map V.ref).length : Int) = (((cs.map (·.row.2.1)).map V.str).length : Int) := by
    rw [List.length_map, List.length_map, List.length_map, kid.len]
  rw [show (!decide (V.int ((bs.map V.ref).length : Int) = V.int (((cs.map (·.row.2.1)).map V.str).length : Int))) = false by rw [e, decide_eq_true rfl]; rfl]
  refine iteF ?_
  refine ⟨.ref k, rfl, k, _, rfl, SqT.of hk, for_enT (K := K) (t := k) (xs := (cs.map (·.row.2.1)).map V.str) (fun i σ H' => ∃ o1 o2 : Option V, σ = [some (.ref a), some (.ref k), some (.ref F), o1, o2] ∧ Same H H') ⟨none, none, rfl, fun _ _ e => e⟩ (fun i σ H' _ p => ?_) ?_ ?_⟩
  · obtain ⟨_, _, _, s1⟩ := p
    exact SqT.of (s1 _ _ hk)
  · rintro i x σ H1 p hx ⟨o1, o2, rfl, s1⟩ np
    rw [List.map_map, List.getElem?_map] at hx
    cases ec : cs[i]? with
    | none => rw [ec] at hx; cases hx
    | some c =>
      rw [ec] at hx
      cases hx
      have hi := (List.getElem?_eq_some_iff.mp ec).1
      have eb : bs[i]? = some (bs[i]'(by rw [kid.len]; exact hi)) := List.getElem?_eq_getElem _
      have s2 := s1.trans (same_new (o := .tup [.int (i : Nat), .str c.row.2.1]) np)
      refine ⟨p, _, rfl, SqT.of upd_same, rfl, _, _, rfl, _, _, rfl, rfl, ?_⟩
      refine ⟨.ref F, rfl, .int (i : Nat), rfl, F, _, _, _, rfl, rfl, SqT.of (s2 _ _ hF), atI_nat (by rw [List.getElem?_map, eb]; rfl), .ref a, rfl, .str c.row.2.1, rfl, ?_⟩
      refine ⟨_, a, c.row.2.1, m, c, rfl, (kid.keep s2).at_ i _ c eb ec, hs.keep s2, g, true, ?_, ?_⟩
      · rw [decide_eq_true rfl]
      · exact iteF ⟨_, _, rfl, s2⟩
  · rintro σ H1 ⟨o1, o2, rfl, s1⟩
    exact q H1 s1
end
end Ks
set_option Elab.async false
set_option linter.all false
set_option maxRecDepth 100000
set_option maxHeartbeats 4000000
namespace Ks
open PySem PySem.Spec PyProof.Rows L2 Gd Kx
theorem last_at {l : List V} {n : Nat} {v : V} (hn : l.length = n) (h : l[n - 1]? = some v) : atI l (-1) = some v := by
  have h0 := (List.getElem?_eq_some_iff.mp h).1
  unfold atI ixN
  subst hn
  have e : (if (-1 : Int) < 0 then (-1 : Int) + (l.length : Nat) else -1) = ((l.length - 1 : Nat) : Int) := by
    rw [if_pos (by decide)]
    omega
  simp only [e] at *
  have c : (1 : Int) ≤ ((l.length : Nat) : Int) := by omega
  have e2 : (-1 + ((l.length : Nat) : Int)).toNat = l.length - 1 := by omega
  simp
  rw [if_pos c, e2]
  exact h
theorem KD.there {P : Program} {w : World} {H : Hp} {d : Addr} {rs : List Rn} (h : KD P w H d rs) : H d = some (.dT []) ∨ ∃ φ, H d = some (.ext φ) := by
  obtain ⟨xs, a, _⟩ := h
  rcases a.at_ with ⟨_, e⟩ | ⟨_, _, _, e⟩
  · exact .inl e
  · exact .inr ⟨_, e⟩
theorem KD.ne {P : Program} {w : World} {H : Hp} {d L : Addr} {rs : List Rn} {ys : List V} (h : KD P w H d rs) (e : H L = some (.lst ys)) : d ≠ L := fun z => by
  rcases h.there with e2 | ⟨_, e2⟩
  · rw [z, e] at e2; cases e2
  · rw [z, e] at e2; cases e2
theorem KD.fresh {P : Program} {w : World} {H : Hp} {d p : Addr} {rs : List Rn} (h : KD P w H d rs) (n : H p = none) : d ≠ p := fun z => by
  rcases h.there with e2 | ⟨_, e2⟩
  · rw [z, n] at e2; cases e2
  · rw [z, n] at e2; cases e2
/-- a list is written: the dict stays -/
theorem KD.lst {P : Program} {w : World} {H : Hp} {d L : Addr} {rs : List Rn} {ys zs : List V} (h : KD P w H d rs) (e : H L = some (.lst ys)) : KD P w (upd H L (.lst zs)) d rs := by
  have n := h.ne e
  obtain ⟨xs, a, b, c⟩ := h
  exact ⟨xs, a.keep (fun b ys' e2 => by rw [upd_ne (fun z => by rw [z, e] at e2; cases e2)]; exact e2) (upd_ne n), b, c⟩
section
variable {P : Program} {w : World} {K : PySem.W.Frag} {mg : Str → Option Value} {base : Heap} {CT CS : Addr}
/-- the rows below, and the top's own row -/
def spRb (CT CS : Addr) : Sp := fun vs H Q _ => ∃ (n : Str) (F : Addr) (m : Md) (bs : List Addr) (cs : List Tr), vs = [.str n, .ref F] ∧ Good m ∧ H F = some (.tup (bs.map V.ref)) ∧ Kids CT CS m H bs cs ∧ cs.length ≤ 3 ∧ (∀ c ∈ cs, c.Ok m) ∧ (below cs).length < 200 ∧
  ∀ R H', Same H H' → RwsT H' R (codes (below cs) ++ [(n, cs.map fun c => (below cs).idxOf c)]) → Q (.ref R) H'
set_option maxHeartbeats 8000000 in
theorem ok_rb {f : Addr} {fd : FuncData} (F : Fun K "_rows_below" "_rows_below" sRb f fd) (T : TS0 mg) (mM : ∃ t, mg "MOST_ROWS" = some (.int 200 t)) (Tc : Tch P w K mg base CT) : FnOk P w K mg base CX0 3 f fd ["name", "fields"] (spRb CT CS) := by
  refine F.ok scRb (fun vs H Q E h => ?_) (fun cv A ou s H vs Q E hr h => ?_)
  · obtain ⟨n, F, m, bs, cs, rfl, _⟩ := h
    rfl
  obtain ⟨n, F, m, bs, cs, rfl, g, hF, kid, l3, ok, small, q⟩ := h
  obtain ⟨tM, mM⟩ := mM
  obtain ⟨pR, fR, dR, PR, FR, bR⟩ := Tc.gR
  have hu := hr.units
  refine ⟨_, pss_cons (ps_set (i := 2) scRb.nd rfl (.inl rfl) pe_dnewT)
    (pss_cons (ps_set (i := 3) scRb.nd rfl (.inl rfl) (pe_lst pa_nil))
    (pss_cons (ps_for PassesOwn.never rfl (pi_tup (pv 1)) (pg_name (i := 4) scRb.nd rfl (.inl rfl))
      (pss_cons (ps_set (i := 5) scRb.nd rfl (.inr rfl) (pe_lst pa_nil))
      (pss_cons (ps_for PassesOwn.never rfl (pi_tup (pe_prop (pv 4) Tc.cl.cls PR FR hr bR .nil pass0 rfl)) (pg_tup rfl (pgs_cons (pg_name (i := 6) scRb.nd rfl (.inl rfl)) (pgs_cons (pg_name (i := 7) scRb.nd rfl (.inl rfl)) pgs_nil)))
        (pss_cons (ps_set (i := 8) scRb.nd rfl (.inl rfl) (pe_tup (pa_cons (pv 6) (pa_cons (pe_tupleOf (by rfl) T.tup (pe_lc (own := [("k", 9)]) (g := gName 9) (tt := tYes) rfl scRb.nd (pi_tup (pv 7)) (blkOk_by (own := [("k", 9)]) (N := nRb) (sc := defScope sRb) (by decide +kernel))
            (fun _ _ _ _ _ => pg_name (i := 9) scRb.nd rfl (Or.inl rfl)) (fun _ _ _ _ _ => pts_nil) (fun _ _ _ _ _ => asTE (te := tOp (rIxL K) (tVar 5) (tVar 9)) (pe_ix ix_list (pv 5) (pv 9) (fun _ _ => rfl)) rfl))) pa_nil))))
        (pss_cons (ps_if (pt_cmpR (op_notInN hu) (pv 8) (pv 2) (by rfl)) (pss_one (ps_asg (pe_callB call_lenN (by rfl) T.len PySem.boot_len (pa_cons (pv 2) pa_nil)) (pg_sub (pv 2) (pv 8) (set_n hu)))) pss_nil)
        (pss_one (ps_expr (pe_bm PySem.F.plainAttrs_list PySem.F.slot_list_append PySem.F.type_list_append mt_append (pv 5) (pa_cons (pe_dgetN hu (pv 2) (pv 8) (fun _ _ => rfl)) pa_nil)))))))
      (pss_one (ps_expr (pe_bm PySem.F.plainAttrs_list PySem.F.slot_list_append PySem.F.type_list_append mt_append (pv 3) (pa_cons (pe_ix ix_list (pv 5) (pe_un un_neg pe_int) (fun _ _ => rfl)) pa_nil)))))))
    (pss_cons (ps_if (pt_cmpR op_ge (pe_callB call_lenN (by rfl) T.len PySem.boot_len (pa_cons (pv 2) pa_nil)) (pe_glob (v := .int 200) (by rfl) mM ⟨_, rfl⟩) (nomark _)) pss_never pss_nil)
    (pss_one (ps_ret (pe_tupleOf (by rfl) T.tup (pe_lst (pa_starN rfl (pv 2) (pa_cons (pe_tup (pa_cons (pv 0) (pa_cons (pe_tupleOf (by rfl) T.tup (pv 3)) pa_nil))) pa_nil))))))))), ?_⟩
  refine fun d nd => ⟨(by show 0 ≤ sizeLine; exact Nat.zero_le _), fun L nL => ?_⟩
  have s1 : Same H (upd (upd H d (.dT [])) L (.lst [])) := (same_new nd).trans (same_new nL)
  have dL : d ≠ L := ne_of_none upd_same nL
  refine ⟨.ref F, rfl, F, rfl, ⟨_, SqT.of (s1 _ _ hF)⟩, for_tup (K := K) (a := F) (xs := bs.map V.ref) (fun i σ H' => ∃ o4 o5 o6 o7 o8 : Option V, σ = [some (.str n), some (.ref F), some (.ref d), some (.ref L), o4, o5, o6, o7, o8, none] ∧ Same H H' ∧
      KD P w H' d (codes (below (cs.take i))) ∧ H' L = some (.lst (nsV ((cs.take i).map fun c => (below (cs.take i)).idxOf c))))
    ⟨none, none, none, none, none, rfl, s1, kd_new (by rw [upd_ne dL]; exact upd_same), upd_same⟩ (fun i σ H' _ p => ?_) ?_ ?_⟩
  · obtain ⟨_, _, _, _, _, _, s2, _⟩ := p
    exact SqT.of (s2 _ _ hF)
  · rintro i x σ H2 hx ⟨o4, o5, o6, o7, o8, rfl, s2, kd2, eL2⟩
    obtain ⟨b, c, rfl, eb, ec, ht⟩ := kid.get hx
    have okc := ok c (List.mem_of_getElem? ec)
    cases ht with
    | @mk _ dx R s' F' _ bs' e _ hR _ _ _ =>
    obtain ⟨xs, eR, pR⟩ := hR
    refine ⟨(by show 0 ≤ sizeLine; exact Nat.zero_le _), fun N nN => ?_⟩
    have LN : L ≠ N := ne_of_none eL2 nN
    have dN : d ≠ N := kd2.fresh nN
    have s3 := s2.trans (same_new (o := .lst []) nN)
    -- the rows of a field
    refine ⟨.ref b, rfl, b, dx, _, rfl, s3 _ _ e, b, dx, _, .ref R, rfl, s3 _ _ e, trF_R, R, rfl, ⟨_, SqT.of (s3 _ _ eR)⟩, for_tup (K := K) (a := R) (xs := xs) (fun j σ H' => ∃ o6 o7 o8 : Option V, σ = [some (.str n), some (.ref F), some (.ref d), some (.ref L), some (.ref b), some (.ref N), o6, o7, o8, none] ∧ Same H H' ∧
        KD P w H' d (codes (addAll (below (cs.take i)) ((sub c).take j))) ∧ H' L = some (.lst (nsV ((cs.take i).map fun c => (below (cs.take i)).idxOf c))) ∧ H' N = some (.lst (nsV (((sub c).take j).map fun x => (addAll (below (cs.take i)) ((sub c).take j)).idxOf x))))
      ⟨o6, o7, o8, rfl, s3, kd2.keep (same_new nN), same_new nN _ _ eL2, upd_same⟩ (fun j σ H' _ p => ?_) ?_ ?_⟩
    · obtain ⟨_, _, _, _, s4, _⟩ := p
      exact SqT.of (s4 _ _ eR)
    · clear eL2 kd2 s3
      rintro j x σ H4 hx ⟨o6, o7, o8, rfl, s4, kd4, eL4, eN4⟩
      obtain ⟨r, er, bx, qx, rfl, h1, h2⟩ := par_at pR hx
      obtain ⟨u, eu, rfl⟩ := codes_at' er
      have oD0 : Ord (below (cs.take i)) := below_ord _
      generalize hD : addAll (below (cs.take i)) ((sub c).take j) = D at kd4 eN4
      have hu2 : u ∈ sub c := List.mem_of_getElem? eu
      have oku := sub_ok okc u hu2
      have jl : j < (sub c).length := (List.getElem?_eq_some_iff.mp eu).1
      have kj : ∀ y ∈ u.kids, y ∈ (sub c).take j := sub_ord c j u eu
      have inD : ∀ y ∈ (sub c).take j, y ∈ D := fun y hy => by rw [← hD]; exact mem_addAll.mpr (.inr hy)
      have kD : ∀ y ∈ u.kids, y ∈ D := fun y hy => inD y (kj y hy)
      have okD : ∀ y ∈ D, y.Ok m := fun y hy => by
        rw [← hD] at hy
        rcases mem_addAll.mp hy with z | z
        · exact below_ok (fun c hc => ok c (List.mem_of_mem_take hc)) y z
        · exact sub_ok okc y (List.mem_of_mem_take z)
      have ndD : D.Nodup := by rw [← hD]; exact addAll_nd (below_nd _)
      have oD : Ord D := by
        rw [← hD]
        have : ∀ n, Ord (addAll (below (cs.take i)) ((sub c).take n)) := fun n => by
          induction n with
          | zero => exact oD0
          | succ n ih =>
            rw [List.take_add_one]
            cases en : (sub c)[n]? with
            | none => rw [Option.toList_none, List.append_nil]; exact ih
            | some y =>
              rw [Option.toList_some, addAll_app]
              exact ord_add ih fun z hz => mem_addAll.mpr (.inr (sub_ord c n y en z hz))
        exact this j
      have nx : addAll (below (cs.take i)) ((sub c).take (j + 1)) = add D u := by
        rw [List.take_add_one, eu, Option.toList_some, addAll_app, hD]
        rfl
      rw [nx]
      have lk : u.kids.length ≤ 3 := u.kids3
      have lN : (((sub c).take j).map fun x => D.idxOf x).length = j := by rw [List.length_map, List.length_take]; omega
      refine ⟨bx, _, rfl, SqT.of (s4 _ _ h1), rfl, _, _, rfl, _, _, rfl, rfl, ?_⟩
      refine seq_join (fun σ G => ∃ T2 : Addr, σ = [some (.str n), some (.ref F), some (.ref d), some (.ref L), some (.ref b), some (.ref N), some (.str u.row.1), some (.ref qx), some (.ref T2), none] ∧ Same H G ∧ KD P w G d (codes D) ∧
        G L = some (.lst (nsV ((cs.take i).map fun c => (below (cs.take i)).idxOf c))) ∧ G N = some (.lst (nsV (((sub c).take j).map fun x => D.idxOf x))) ∧ RowN G (.ref T2) (code D u)) ?_ fun rest1 => ?_
      rotate_left
      · refine ⟨.str u.row.1, rfl, .ref qx, rfl, qx, rfl, ⟨_, SqT.of (s4 _ _ h2)⟩, fun C nC => lc_funT (K := K) (a := qx) (xs := nsV (code (sub c) u).2) (ys := nsV (code D u).2) (fun _ => rfl) nC (SqT.of (s4 _ _ h2)) (by show (nsV (u.kids.map _)).length ≤ 1000; rw [nsV_len, List.length_map]; omega)
          (by show (nsV (u.kids.map _)).length = (nsV (u.kids.map _)).length; rw [nsV_len, nsV_len, List.length_map, List.length_map]) (fun p x y H5 hx hy s5 k => ?_) fun H5 s5 eC => ?_⟩
        · intro kk
          show tOp (rIxL K) (tVar 5) (tVar 9) _ _ _
          have ex : (nsV (u.kids.map fun c' => (sub c).idxOf c'))[p]? = some x := hx
          have ey : (nsV (u.kids.map fun c' => D.idxOf c'))[p]? = some y := hy
          unfold nsV at ex ey
          rw [List.map_map, List.getElem?_map] at ex ey
          cases ek : u.kids[p]? with
          | none => rw [ek] at ex; cases ex
          | some y' =>
            rw [ek] at ex ey
            cases ex
            cases ey
            have hk := kj y' (List.mem_of_getElem? ek)
            have hi : ((sub c).take j)[(sub c).idxOf y']? = some y' := by
              obtain ⟨t, ht, et⟩ := List.mem_iff_getElem.mp hk
              rw [List.getElem_take] at et
              rw [List.length_take] at ht
              have : (sub c).idxOf y' = t := idx_of (sub_nd c) (by rw [List.getElem?_eq_getElem (by omega), et])
              rw [this, List.getElem?_take, if_pos (by omega), List.getElem?_eq_getElem (by omega), et]
            refine ⟨.ref N, rfl, .int _, rfl, N, _, _, _, rfl, rfl, SqL.of (s5 _ _ eN4), atI_nat (nsV_at (by rw [List.getElem?_map, hi]; rfl)), kk H5 fun _ _ e => e⟩
        refine .inl ⟨C, _, rfl, SqL.of eC, fun T1 nT1 => ⟨(by show 2 ≤ sizeLine; decide), fun T2 nT2 => ?_⟩⟩
        have s6 : Same H4 (upd (upd H5 T1 (.tup (nsV (code D u).2))) T2 (.tup [.str u.row.1, .ref T1])) := s5.trans ((same_new nT1).trans (same_new nT2))
        exact rest1 _ _ ⟨T2, rfl, s4.trans s6, kd4.keep s6, s6 _ _ eL4, s6 _ _ eN4, T2, T1, rfl, upd_same, same_new nT2 _ _ upd_same⟩
      rintro σ H6 ⟨T2, rfl, s06, kd6, eL6, eN6, row6⟩
      clear kd4 eL4 eN4
      have nNH : H N = none := by
        cases z : H N with
        | none => rfl
        | some o => rw [s2 _ _ z] at nN; cases nN
      refine seq_join (fun σ G => σ = [some (.str n), some (.ref F), some (.ref d), some (.ref L), some (.ref b), some (.ref N), some (.str u.row.1), some (.ref qx), some (.ref T2), none] ∧ Same H G ∧ KD P w G d (codes (add D u)) ∧
        G L = some (.lst (nsV ((cs.take i).map fun c => (below (cs.take i)).idxOf c))) ∧ G N = some (.lst (nsV (((sub c).take j).map fun x => D.idxOf x))) ∧ RowN G (.ref T2) (code D u)) ?_ fun rest => ?_
      · rintro σ H7 ⟨rfl, s7, kd7, eL7, eN7, row7⟩
        have hmem : u ∈ add D u := mem_add.mpr (.inr rfl)
        obtain ⟨E7, eE⟩ := add_pre D u
        have kc := kd7.lst eN7 (zs := nsV (((sub c).take j).map fun x => D.idxOf x) ++ [V.int (((add D u).idxOf u : Nat) : Int)])
        obtain ⟨ys, dn, ek, ev⟩ := kd7
        have hc : (codes (add D u))[(add D u).idxOf u]? = some (code D u) := by
          rw [codes_at (idx_at hmem), eE, code_app E7 kD]
        obtain ⟨b', ef⟩ := fnd_some dn ek ev hc
        refine ⟨.ref N, rfl, .inl ⟨rfl, _, SqL.of eN7⟩, .ref d, rfl, .ref T2, rfl, d, T2, rk (code D u), ys, b', _, rfl, rfl, rk_of row7, rk_depth _, dn, ef, N, _, _, rfl, rfl, eN7, ?_, _, _, _, rfl, same_upd s7 nNH, kc, ?_, ?_⟩
        · rw [nsV_len, lN]
          have : (sub c).length ≤ (below cs).length := by
            have h1 : ∀ y ∈ sub c, y ∈ below cs := fun y hy => by
              rcases mem_addAll.mp hy with z | z
              · cases z
              · exact mem_addAll.mpr (.inr (List.mem_flatMap.mpr ⟨c, List.mem_of_getElem? ec, z⟩))
            exact (sub_nd c).length_le_of_subset h1
          exact small1000 (by omega)
        · rw [upd_ne LN]
          exact eL7
        · rw [upd_same, List.take_add_one, eu, Option.toList_some, List.map_append, nsV_app, eE, idx_app E7 (L := (sub c).take j) inD]
          rfl
      · obtain ⟨ys, dn, ek, ev⟩ := id kd6
        by_cases hm : u ∈ D
        · obtain ⟨b', ef⟩ := fnd_some dn ek ev (codes_at (idx_at hm))
          refine ⟨.ref T2, rfl, .ref d, rfl, T2, d, rk (code D u), ys, rfl, rfl, rk_of row6, rk_depth _, dn, _, rfl, ?_⟩
          rw [ef]
          exact iteF (rest _ _ ⟨rfl, s06, by rw [add_in hm]; exact kd6, eL6, eN6, row6⟩)
        · have nc : code D u ∉ codes D := fun z => hm ((code_mem g.rd oD okD oku kD).mp z)
          have fn0 := fnd_none ek nc
          have ly : ys.length = (codes D).length := by
            have := congrArg List.length ek
            rwa [List.length_map, List.length_map] at this
          refine ⟨.ref T2, rfl, .ref d, rfl, T2, d, rk (code D u), ys, rfl, rfl, rk_of row6, rk_depth _, dn, _, rfl, ?_⟩
          rw [fn0]
          refine iteT ⟨.ref d, rfl, d, ys, rfl, dn, .ref d, rfl, .ref T2, rfl, d, T2, rk (code D u), ys, rfl, rfl, rk_of row6, rk_depth _, dn, fn0, ?_, fun H7 k7 dn7 => ?_⟩
          · rw [ly, codes_len]
            have h1 : D.length ≤ (below cs).length := by
              refine ndD.length_le_of_subset fun y hy => ?_
              rw [← hD] at hy
              refine mem_addAll.mpr (.inr ?_)
              rcases mem_addAll.mp hy with z | z
              · rcases mem_addAll.mp z with z | z
                · cases z
                · obtain ⟨c', hc', hy'⟩ := List.mem_flatMap.mp z
                  exact List.mem_flatMap.mpr ⟨c', List.mem_of_mem_take hc', hy'⟩
              · rcases mem_addAll.mp (List.mem_of_mem_take z) with z | z
                · cases z
                · exact List.mem_flatMap.mpr ⟨c, List.mem_of_getElem? ec, z⟩
            exact small1000 (by omega)
          · rw [ly] at dn7
            have kd7 := kd_snoc ek ev dn7
            have ndL := kd6.ne eL6
            have ndN := kd6.ne eN6
            have same7 : Same H H7 := fun y o e => by
              rw [k7 y (ne_of_none e nd)]
              exact s06 _ _ e
            refine rest _ _ ⟨rfl, same7, ?_, ?_, ?_, ?_⟩
            · rw [add_out hm, codes_snoc oD kD]
              exact kd7
            · rw [k7 L (Ne.symm ndL)]
              exact eL6
            · rw [k7 N (Ne.symm ndN)]
              exact eN6
            · exact of_rk (dn7.keys _ (List.mem_append_right _ (List.mem_singleton.mpr rfl))).1
    · rintro σ H4 ⟨o6, o7, o8, rfl, s4, kd4, eL4, eN4⟩
      have lx : xs.length = (sub c).length := by rw [Paired.length pR, codes_len]
      have nb : addAll (below (cs.take i)) (sub c) = below (cs.take (i + 1)) := by
        rw [List.take_add_one, ec, Option.toList_some, below_snoc]
      rw [lx, List.take_length, nb] at kd4 eN4
      obtain ⟨E4, eE⟩ : ∃ E, below (cs.take (i + 1)) = below (cs.take i) ++ E := by
        rw [← nb]
        exact addAll_pre _ _
      have nLH : H L = none := by
        cases z : H L with
        | none => rfl
        | some o => rw [same_new nd _ _ z] at nL; cases nL
      have hl := sub_last c
      refine ⟨.ref L, rfl, .inl ⟨rfl, _, SqL.of eL4⟩, .ref N, rfl, _, rfl, N, _, _, _, rfl, rfl, SqL.of eN4, last_at (n := (sub c).length) (by rw [nsV_len, List.length_map]) (nsV_at (by rw [List.getElem?_map, hl]; rfl)), L, _, _, rfl, rfl, eL4, ?_, _, _, _, _, _, rfl, same_upd s4 nLH, kd4.lst eL4, ?_⟩
      · rw [nsV_len, List.length_map, List.length_take]
        exact small1000 (by omega)
      · rw [upd_same, List.take_add_one, ec, Option.toList_some, List.map_append, nsV_app]
        have e2 : (below (cs.take i ++ [c])) = below (cs.take i) ++ E4 := by
          rw [← eE, List.take_add_one, ec, Option.toList_some]
        rw [e2, idx_app E4 (fun y hy => below_mem hy)]
        rfl
  · rintro σ H2 ⟨o4, o5, o6, o7, o8, rfl, s2, kd2, eL2⟩
    have ll : (bs.map V.ref).length = cs.length := by rw [List.length_map, kid.len]
    rw [ll, List.take_length] at kd2 eL2
    obtain ⟨ys, dn, ek, ev⟩ := kd2
    have ly : ys.length = (below cs).length := by
      have := congrArg List.length ek
      rwa [List.length_map, List.length_map, codes_len] at this
    refine ⟨.ref d, rfl, d, ys, rfl, dn, _, _, rfl, rfl, _, rfl, ?_⟩
    rw [decide_eq_false (show ¬ (200 : Int) ≤ (ys.length : Int) by omega)]
    refine iteF ?_
    refine ⟨.ref d, rfl, d, ys, rfl, dn, .str n, rfl, .ref L, rfl, .inl ⟨L, _, rfl, SqL.of eL2, fun T1 nT1 => ⟨(by show 2 ≤ sizeLine; decide), fun T2 nT2 => ⟨?_, fun M nM => .inl ⟨M, _, rfl, SqL.of upd_same, fun R nR => ?_⟩⟩⟩⟩⟩
    · rw [List.length_append, List.length_map, List.length_singleton, ly]
      exact Nat.le_of_lt (small1000 (by omega))
    · have s3 := (same_new (o := .tup (nsV (cs.map fun c => (below cs).idxOf c))) nT1).trans (same_new (o := .tup [.str n, .ref T1]) nT2)
      have s4 := s3.trans ((same_new (o := .lst (ys.map (fun z => V.ref z.2.1) ++ [V.ref T2])) nM).trans (same_new (o := .tup (ys.map (fun z => V.ref z.2.1) ++ [V.ref T2])) nR))
      refine q R _ (s2.trans s4) ⟨_, upd_same, ?_⟩
      have p1 := Paired.mapP (kd_refs ek dn.keys) fun _ _ z => RowN.keep z s4
      exact Paired.snoc p1 ⟨T2, T1, rfl, (same_new nM).trans (same_new nR) _ _ upd_same, (same_new nT2).trans ((same_new nM).trans (same_new nR)) _ _ upd_same⟩
end
end Ks
set_option Elab.async false
set_option linter.all false
set_option maxRecDepth 100000
set_option maxHeartbeats 4000000
namespace Ks
open PySem PySem.Spec PyProof.Rows L2 Gd Kx
/-! ### Tree.__init__ -/
abbrev nTi : List Str := ["self", "schema", "name", "fields", "own_name", "kind", "kinds", "field"]
theorem scTi : FnScope nTi ["self", "schema", "name", "fields"] (defScope (cT 0)) := ⟨rfl, rfl, rfl, by decide +kernel, rfl, by decide +kernel, by decide +kernel⟩
theorem cast_sum : ∀ l : List Tr, (l.map fun c => ((c.size : Nat) : Int)).sum = (((l.map Tr.size).sum : Nat) : Int)
  | [] => rfl
  | c :: r => by
    rw [List.map_cons, List.map_cons, List.sum_cons, List.sum_cons, cast_sum r]
    omega
theorem size_int (t : Tr) : (1 : Int) + (t.kids.map fun c => ((c.size : Nat) : Int)).sum = ((t.size : Nat) : Int) := by
  rw [cast_sum, Tr.size_eq t]
  omega
def mxI (t : Tr) : Int := if t.kids = [] then 0 else maxL (t.kids.map fun c => ((c.dep : Nat) : Int))
theorem dep_int (t : Tr) : (1 : Int) + mxI t = ((t.dep : Nat) : Int) := by
  cases t <;> simp [mxI, Tr.kids, Tr.dep, maxL, PySem.W.maxOf, PySem.W.DatumOrd.lt]
  · split <;> omega
  · split <;> split <;> omega
end Ks
namespace Ks
open PySem PySem.Spec PyProof.Rows L2 Gd Kx
/-- all stands but what has no attribute yet -/
def Bz (H H' : Hp) : Prop := ∀ a o, (∀ C d, o ≠ .ins C d []) → H a = some o → H' a = some o
theorem Bz.of {x C d : Addr} {H H' : Hp} (b : But x H H') (hx : H x = some (.ins C d [])) : Bz H H' := fun a o n e => b a o (fun z => by rw [z, hx] at e; cases e; exact n _ _ rfl) e
theorem RowV.bz {H H' : Hp} {x : V} {r : Rw} (h : RowV H x r) (s : Bz H H') : RowV H' x r := by
  obtain ⟨b, f, e, h1, h2⟩ := h
  exact ⟨b, f, e, s _ _ (fun _ _ z => by cases z) h1, s _ _ (fun _ _ z => by cases z) h2⟩
theorem ScAt.bz {C : Addr} {H H' : Hp} {a : Addr} {m : Md} (h : ScAt C H a m) (s : Bz H H') : ScAt C H' a m := by
  obtain ⟨dx, k, c, n, ⟨dp, e, edp⟩, h1, ⟨xs, h2, hp⟩, o, h3, h4⟩ := h
  exact ⟨dx, k, c, n, ⟨dp, s _ _ (fun _ _ z => by cases z) e, s _ _ (fun _ _ z => by cases z) edp⟩, s _ _ (fun _ _ z => by cases z) h1, ⟨xs, h2.by (fun o _ n e => s _ _ (fun _ _ z => n _ _ _ z) e), Paired.mapP hp fun _ _ z => RowV.bz z s⟩, o, s _ _ (fun _ _ z => by cases z) h3, h4⟩
theorem RwsT.bz {H H' : Hp} {R : Addr} {rs : List Rn} (h : RwsT H R rs) (s : Bz H H') : RwsT H' R rs := by
  obtain ⟨xs, e, p⟩ := h
  exact ⟨xs, s _ _ (fun _ _ z => by cases z) e, Paired.mapP p fun _ _ ⟨b, q, e, h1, h2⟩ => ⟨b, q, e, s _ _ (fun _ _ z => by cases z) h1, s _ _ (fun _ _ z => by cases z) h2⟩⟩
theorem TrAt.bz {CT CS : Addr} {m : Md} {H H' : Hp} {a : Addr} {t : Tr} (h : TrAt CT CS m H a t) (s : Bz H H') : TrAt CT CS m H' a t := by
  induction h with
  | mk h1 h2 h3 h4 h5 _ ih => exact .mk (s _ _ (fun _ _ z => by cases z) h1) (h2.bz s) (h3.bz s) (s _ _ (fun _ _ z => by cases z) h4) h5 ih
theorem nx_join {t u : TS} {D : Ends} {r : VK} {b c : L2.St → Hp → Prop} {σ : L2.St} {H : Hp} (R : L2.St → Hp → Prop) (hR : ∀ σ H, R σ H → u D σ H) (h : (∀ σ H, R σ H → u D σ H) → t { D with nx := u D } σ H) :
    ({ nx := tSeq t u D, rt := r, bk := b, ct := c } : Ends).nx σ H := h hR
theorem rows_has' {H : Hp} : ∀ {xs : List V} {rs : List Rw} {n : Nat} {r : Rw}, Paired (RowV H) xs rs → rs[n]? = some r → ∃ x, xs[n]? = some x ∧ RowV H x r
  | _, _, n, r, .nil, h => by simp at h
  | _, _, 0, r, .cons (a := i) q t, h => by
    have e := Option.some.inj h
    subst e
    exact ⟨i, rfl, q⟩
  | _, _, n + 1, r, .cons q t, h => by
    obtain ⟨i, e, q⟩ := rows_has' (n := n) t (by simpa using h)
    exact ⟨i, by simpa using e, q⟩
section
variable {P : Program} {w : World} {K : PySem.W.Frag} {mg : Str → Option Value} {base : Heap} {CT CS : Addr}
/-- a tree is made: its __init__, the fields in a tuple -/
def spTi (CT CS : Addr) : Sp := fun vs H Q _ => ∃ (x dx s F : Addr) (m : Md) (t : Tr) (bs : List Addr), vs = [.ref x, .ref s, .str t.row.1, .ref F] ∧ H x = some (.ins CT dx []) ∧ ScAt CS H s m ∧ Good m ∧ t.Ok m ∧ H F = some (.tup (bs.map V.ref)) ∧ Kids CT CS m H bs t.kids ∧ (sub t).length ≤ 200 ∧
  ∀ H', But x H H' → TrAt CT CS m H' x t → Q .non H'
structure TsX (mg : Str → Option Value) : Prop where
  max : mg "max" = none
  sum : mg "sum" = none
set_option maxHeartbeats 8000000 in
theorem body_tin {f fk fc fr : Addr} {fdk fdc fdr : FuncData} {cv : Value} {A : Around} {ou : List Env} {s : Shared} {H : Hp} {vs : List V} {Q : VK} {E : XK} (T : TS0 mg) (TX : TsX mg) (S : Sch P w K mg base CS) (Tc : Tch P w K mg base CT)
    (GK : FnOk P w K mg base CX0 1 fk fdk ["schema"] (spChk CS)) (kk : PySem.W.keepIn K (.ref fk) = true) (bK : Binds K fdk ["schema"] []) (gK : mg "check_schema" = some (.ref fk))
    (GC : FnOk P w K mg base CX0 4 fc fdc ["schema", "kinds", "fields"] (spCf CT CS)) (kc : PySem.W.keepIn K (.ref fc) = true) (bC : Binds K fdc ["schema", "kinds", "fields"] []) (gC : mg "_check_fields" = some (.ref fc))
    (GR : FnOk P w K mg base CX0 3 fr fdr ["name", "fields"] (spRb CT CS)) (kr : PySem.W.keepIn K (.ref fr) = true) (bR : Binds K fdr ["name", "fields"] []) (gR : mg "_rows_below" = some (.ref fr))
    (hr : Room 4 (A.deeper (envOfC "Tree.__init__" (defScope (cT 0)) s.heap.objs.size f cv))) (h : spTi CT CS vs H Q E) :
    ∃ t, PSs (cxOf CX0 P w K mg base nTi "Tree.__init__" (defScope (cT 0)) f cv A ou s H E) (defBody (cT 0)) t ∧ t { nx := fun _ H' => Q .non H', rt := Q } (start nTi vs) H := by
  obtain ⟨x, dx, sc, F, m, t, bs, rfl, hx, hs, g, ok, hF, kid, l2, q⟩ := h
  obtain ⟨fo, dfo, mo, Fo, bo⟩ := S.co
  obtain ⟨pz, fz, dz, Pz, Fz, bz⟩ := Tc.gz
  obtain ⟨pd, fdp, dd, Pd, Fd, bd⟩ := Tc.gd
  have hr1 : Room 1 (A.deeper (envOfC "Tree.__init__" (defScope (cT 0)) s.heap.objs.size f cv)) := hr.mono (by decide)
  have hr2 : Room 2 (A.deeper (envOfC "Tree.__init__" (defScope (cT 0)) s.heap.objs.size f cv)) := hr.mono (by decide)
  have hr3 : Room 3 (A.deeper (envOfC "Tree.__init__" (defScope (cT 0)) s.heap.objs.size f cv)) := hr.mono (by decide)
  have hun := hr.units
  refine ⟨_, pss_cons (ps_expr (pe_call GK hr1 (by rfl) gK kk bK .nil pass0 (pa_cons (pv 1) pa_nil)))
    (pss_cons (ps_asg (pe_meth (pv 1) S.cl.cls mo Fo hr3 bo .nil pass0 (pa_cons (pv 2) pa_nil)) (pg_tup rfl (pgs_cons (pg_name (i := 4) scTi.nd rfl (.inl rfl)) (pgs_cons (pg_name (i := 5) scTi.nd rfl (.inl rfl)) (pgs_cons (pg_name (i := 6) scTi.nd rfl (.inl rfl)) pgs_nil)))))
    (pss_cons (ps_expr (pe_call GC hr (by rfl) gC kc bC .nil pass0 (pa_cons (pv 1) (pa_cons (pv 6) (pa_cons (pv 3) pa_nil)))))
    (pss_cons (ps_fld (pv 0) (pe_call GR hr3 (by rfl) gR kr bR .nil pass0 (pa_cons (pv 4) (pa_cons (pv 3) pa_nil))) rfl)
    (pss_cons (ps_fld (pv 0) (pv 1) rfl)
    (pss_cons (ps_fld (pv 0) (pv 4) rfl)
    (pss_cons (ps_fld (pv 0) (pv 5) rfl)
    (pss_cons (ps_fld (pv 0) (pv 3) rfl)
    (pss_cons (ps_fld (pv 0) (pe_op op_add pe_int (pe_callB (cr_sum rfl) (by rfl) TX.sum boot_sum (pa_cons (pe_lc (own := [("field", 7)]) (g := gName 7) (tt := tYes) rfl scTi.nd (pi_tup (pv 3)) (blkOk_by (own := [("field", 7)]) (N := nTi) (sc := defScope (cT 0)) (by decide +kernel))
        (fun _ _ _ _ _ => pg_name (i := 7) scTi.nd rfl (Or.inl rfl)) (fun _ _ _ _ _ => pts_nil) (fun _ _ _ _ _ => asTE (te := tProp CT (spGet CT "_size") [] E0 (tVar 7)) (pe_prop (pv 7) Tc.cl.cls Pz Fz hr2 bz .nil pass0 rfl) rfl)) pa_nil))) rfl)
    (pss_one (ps_fld (pv 0) (pe_op op_add pe_int (pe_callBK (call_maxD rfl (Nat.lt_of_le_of_lt (Nat.add_le_add_left (by decide : 1 ≤ 64) _) hun)) (by rfl) TX.max boot_max (pa_cons (pe_lc (own := [("field", 7)]) (g := gName 7) (tt := tYes) rfl scTi.nd (pi_tup (pv 3)) (blkOk_by (own := [("field", 7)]) (N := nTi) (sc := defScope (cT 0)) (by decide +kernel))
        (fun _ _ _ _ _ => pg_name (i := 7) scTi.nd rfl (Or.inl rfl)) (fun _ _ _ _ _ => pts_nil) (fun _ _ _ _ _ => asTE (te := tProp CT (spGet CT "_depth") [] E0 (tVar 7)) (pe_prop (pv 7) Tc.cl.cls Pd Fd hr2 bd .nil pass0 rfl) rfl)) pa_nil) (pk_cons pe_int pk_nil))) rfl)))))))))), ?_⟩
  obtain ⟨r0, rk0, okk⟩ := Tr.ok_iff.mp ok
  obtain ⟨j, hj, ej⟩ := List.mem_iff_getElem.mp r0
  have ej2 : m.rs[j]? = some t.row := by rw [List.getElem?_eq_getElem hj, ej]
  obtain ⟨ds, k, c, n, ⟨dp, e, edp⟩, ek, ⟨xs, ec, hp⟩, en⟩ := id hs
  obtain ⟨y, ey, b, fa, rfl, hb, hf⟩ := rows_has' hp ej2
  have l3 := t.kids3
  refine ⟨.ref sc, rfl, sc, m, rfl, hs, ?_⟩
  refine ⟨.ref sc, rfl, sc, ds, _, rfl, e, rfl, .str t.row.1, rfl, sc, k, c, n, _, xs, t.row.1, j, .ref b, rfl, ⟨ds, _, ⟨dp, e, edp⟩, en⟩, en, g.rd, by rw [List.getElem?_map, ej2]; rfl, ec, ey, ?_⟩
  refine ⟨b, _, rfl, SqT.of hb, rfl, _, _, rfl, _, _, rfl, _, _, rfl, rfl, ?_⟩
  have hf' : StT H fa (t.kids.map (·.row.2.1)) := by rw [← rk0]; exact hf
  refine ⟨.ref sc, rfl, .ref fa, rfl, .ref F, rfl, sc, fa, F, m, bs, t.kids, rfl, hs, g, hf', hF, kid, l3, fun H1 s1 => ?_⟩
  have lb : (below t.kids).length < 200 := by
    have := congrArg List.length (sub_eq t)
    rw [List.length_append, List.length_singleton] at this
    omega
  refine ⟨.str t.row.1, rfl, .ref F, rfl, t.row.1, F, m, bs, t.kids, rfl, g, s1 _ _ hF, kid.keep s1, l3, okk, lb, fun R H2 s2 hR => ?_⟩
  have s12 := s1.trans s2
  have rws : codes (below t.kids) ++ [(t.row.1, t.kids.map fun c => (below t.kids).idxOf c)] = codes (sub t) := by
    rw [sub_eq, codes_snoc (below_ord _) fun c hc => below_mem hc]
    rfl
  rw [rws] at hR
  have x2 := s12 _ _ hx
  -- five attributes
  refine ⟨.ref x, rfl, x, CT, dx, _, rfl, x2, Tc.cl.cls, Tc.cl.nR, (show 0 < 1000 by decide), ?_⟩
  refine ⟨.ref sc, rfl, .ref x, rfl, x, CT, dx, _, rfl, upd_same, Tc.cl.cls, Tc.cl.ns, (show 1 < 1000 by decide), ?_⟩
  refine ⟨.str t.row.1, rfl, .ref x, rfl, x, CT, dx, _, rfl, upd_same, Tc.cl.cls, Tc.cl.nn, (show 2 < 1000 by decide), ?_⟩
  refine ⟨.str t.row.2.1, rfl, .ref x, rfl, x, CT, dx, _, rfl, upd_same, Tc.cl.cls, Tc.cl.nk, (show 3 < 1000 by decide), ?_⟩
  refine ⟨.ref F, rfl, .ref x, rfl, x, CT, dx, _, rfl, upd_same, Tc.cl.cls, Tc.cl.nF, (show 4 < 1000 by decide), ?_⟩
  let fs5 : List (Str × V) := putF "_fields" (.ref F) (putF "kind" (.str t.row.2.1) (putF "name" (.str t.row.1) (putF "_schema" (.ref sc) (putF "_rows" (.ref R) []))))
  have Fx : F ≠ x := fun z => by rw [z, hx] at hF; cases hF
  have F2 := s12 _ _ hF
  have kx : ∀ (i : Nat) (b : Addr) (c : Tr), bs[i]? = some b → t.kids[i]? = some c → b ≠ x := fun i b c eb ec z => by
    have h1 := kid.at_ i b c eb ec
    cases h1 with
    | mk e1 _ _ _ _ _ =>
      rw [z, hx] at e1
      cases e1
  have get : ∀ G : Hp, But x H2 G → ∀ (i : Nat) (y : V), (bs.map V.ref)[i]? = some y → ∃ (b : Addr) (c : Tr) (d1 R1 s1 F1 : Addr), y = .ref b ∧ t.kids[i]? = some c ∧ G b = some (.ins CT d1 (trF R1 s1 c.row.1 c.row.2.1 F1 (c.size : Nat) (c.dep : Nat))) := fun G bG i y ey => by
    obtain ⟨b, c, rfl, eb, ec, ht⟩ := kid.get ey
    have nb := kx i b c eb ec
    cases ht with
    | @mk _ d1 R1 s1 F1 _ _ e1 _ _ _ _ _ => exact ⟨b, c, d1, R1, s1, F1, rfl, ec, bG _ _ nb (s12 _ _ e1)⟩
  have lbk : (bs.map V.ref).length = t.kids.length := by rw [List.length_map, kid.len]
  let σ7 : L2.St := [some (.ref x), some (.ref sc), some (.str t.row.1), some (.ref F), some (.str t.row.1), some (.str t.row.2.1), some (.ref fa), none]
  refine nx_join (fun σ G => σ = σ7 ∧ But x H2 G ∧ G x = some (.ins CT dx (putF "_size" (.int (t.size : Nat)) fs5))) ?_ fun rest => ?_
  rotate_left
  have b5 : But x H2 (upd (upd (upd (upd (upd H2 x (.ins CT dx (putF "_rows" (.ref R) []))) x (.ins CT dx (putF "_schema" (.ref sc) (putF "_rows" (.ref R) [])))) x (.ins CT dx (putF "name" (.str t.row.1) (putF "_schema" (.ref sc) (putF "_rows" (.ref R) []))))) x (.ins CT dx (putF "kind" (.str t.row.2.1) (putF "name" (.str t.row.1) (putF "_schema" (.ref sc) (putF "_rows" (.ref R) [])))))) x (.ins CT dx fs5)) := fun a o ne e => by
    rw [upd_ne ne, upd_ne ne, upd_ne ne, upd_ne ne, upd_ne ne]
    exact e
  have x5 : (upd (upd (upd (upd (upd H2 x (.ins CT dx (putF "_rows" (.ref R) []))) x (.ins CT dx (putF "_schema" (.ref sc) (putF "_rows" (.ref R) [])))) x (.ins CT dx (putF "name" (.str t.row.1) (putF "_schema" (.ref sc) (putF "_rows" (.ref R) []))))) x (.ins CT dx (putF "kind" (.str t.row.2.1) (putF "name" (.str t.row.1) (putF "_schema" (.ref sc) (putF "_rows" (.ref R) [])))))) x (.ins CT dx fs5)) x = some (.ins CT dx fs5) := upd_same
  revert b5 x5
  generalize upd (upd (upd (upd (upd H2 x (.ins CT dx (putF "_rows" (.ref R) []))) x (.ins CT dx (putF "_schema" (.ref sc) (putF "_rows" (.ref R) [])))) x (.ins CT dx (putF "name" (.str t.row.1) (putF "_schema" (.ref sc) (putF "_rows" (.ref R) []))))) x (.ins CT dx (putF "kind" (.str t.row.2.1) (putF "name" (.str t.row.1) (putF "_schema" (.ref sc) (putF "_rows" (.ref R) [])))))) x (.ins CT dx fs5) = G5
  intro b5 x5
  have F5 := b5 _ _ Fx F2
  -- the size
  refine ⟨.ref F, rfl, F, rfl, ⟨_, SqT.of F5⟩, fun D nD => lc_funT (K := K) (a := F) (xs := bs.map V.ref) (te := tProp CT (spGet CT "_size") [] E0 (tVar 7)) (j := 7) (vs := [7]) (ys := (t.kids.map fun c => ((c.size : Nat) : Int)).map V.int) (fun _ => rfl) nD (SqT.of F5) (by omega) (by rw [List.length_map, List.length_map, lbk]) (fun i y z H6 hy hz s6 p => ?_) fun H6 s6 eD => ?_⟩
  · intro kk
    obtain ⟨b, c, d1, R1, s1', F1, rfl, ec, e1⟩ := get G5 b5 i y hy
    rw [List.getElem?_map, List.getElem?_map, ec] at hz
    cases hz
    exact ⟨.ref b, rfl, b, d1, _, rfl, s6 _ _ e1, b, d1, _, _, rfl, s6 _ _ e1, trF_z, kk H6 fun _ _ e => e⟩
  · refine ⟨D, _, rfl, SqL.of eD, _, _, rfl, rfl, .ref x, rfl, x, CT, dx, _, rfl, s6 _ _ x5, Tc.cl.cls, Tc.cl.nz, (show 5 < 1000 by decide), rest _ _ ⟨rfl, fun a o ne e => ?_, ?_⟩⟩
    · rw [upd_ne ne]
      exact s6 _ _ (b5 _ _ ne e)
    · rw [← size_int t]
      exact upd_same
  rintro σ G7 ⟨rfl, b7, x7⟩
  have F7 := b7 _ _ Fx F2
  -- the depth
  refine ⟨.ref F, rfl, F, rfl, ⟨_, SqT.of F7⟩, fun D' nD' => lc_funT (K := K) (a := F) (xs := bs.map V.ref) (te := tProp CT (spGet CT "_depth") [] E0 (tVar 7)) (j := 7) (vs := [7]) (ys := (t.kids.map fun c => ((c.dep : Nat) : Int)).map V.int) (fun _ => rfl) nD' (SqT.of F7) (by omega) (by rw [List.length_map, List.length_map, lbk]) (fun i y z H8 hy hz s8 p => ?_) fun H8 s8 eD' => ?_⟩
  · intro kk
    obtain ⟨b, c, d1, R1, s1', F1, rfl, ec, e1⟩ := get G7 b7 i y hy
    rw [List.getElem?_map, List.getElem?_map, ec] at hz
    cases hz
    exact ⟨.ref b, rfl, b, d1, _, rfl, s8 _ _ e1, b, d1, _, _, rfl, s8 _ _ e1, trF_d, kk H8 fun _ _ e => e⟩
  have R2 : R ≠ x := fun z => by
    obtain ⟨_, e1, _⟩ := hR
    rw [z, x2] at e1
    cases e1
  have fin : ∀ H9 : Hp, But x H8 H9 → H9 x = some (.ins CT dx (putF "_depth" (.int (t.dep : Nat)) (putF "_size" (.int (t.size : Nat)) fs5))) → Q .non H9 := fun H9 b9 x9 => by
    have b9' : But x H2 H9 := fun a o ne e => b9 _ _ ne (s8 _ _ (b7 _ _ ne e))
    have b0 : But x H H9 := fun a o ne e => b9' _ _ ne (s12 _ _ e)
    have z0 := Bz.of b0 hx
    exact q _ b0 (.mk (bs := bs) x9 (hs.bz z0) (hR.bz (.of b9' x2)) (b0 _ _ Fx hF) kid.len fun i b c eb ec => (kid.at_ i b c eb ec).bz z0)
  have fin2 : ∀ v : Int, v = mxI t → But x H8 (upd H8 x (.ins CT dx (putF "_depth" (.int (1 + v)) (putF "_size" (.int (t.size : Nat)) fs5)))) ∧ (upd H8 x (.ins CT dx (putF "_depth" (.int (1 + v)) (putF "_size" (.int (t.size : Nat)) fs5)))) x = some (.ins CT dx (putF "_depth" (.int (t.dep : Nat)) (putF "_size" (.int (t.size : Nat)) fs5))) := fun v ev =>
    ⟨fun a o ne e => by rw [upd_ne ne]; exact e, by rw [ev, dep_int t]; exact upd_same⟩
  refine ⟨D', t.kids.map (fun c => ((c.dep : Nat) : Int)), .int 0, rfl, rfl, SqL.of eD', fun e0 => ?_, fun e0 => ?_⟩
  · have ev : (0 : Int) = mxI t := by rw [mxI, if_pos (List.map_eq_nil_iff.mp e0)]
    obtain ⟨h1, h2⟩ := fin2 0 ev
    exact ⟨_, _, rfl, rfl, .ref x, rfl, x, CT, dx, _, rfl, s8 _ _ x7, Tc.cl.cls, Tc.cl.nd, (show 6 < 1000 by decide), fin _ h1 h2⟩
  · have ev : maxL (t.kids.map fun c => ((c.dep : Nat) : Int)) = mxI t := by rw [mxI, if_neg (fun z => e0 (by rw [z]; rfl))]
    obtain ⟨h1, h2⟩ := fin2 _ ev
    exact ⟨_, _, rfl, rfl, .ref x, rfl, x, CT, dx, _, rfl, s8 _ _ x7, Tc.cl.cls, Tc.cl.nd, (show 6 < 1000 by decide), fin _ h1 h2⟩
end
end Ks
set_option Elab.async false
set_option linter.all false
set_option maxRecDepth 100000
set_option maxHeartbeats 4000000
namespace Ks
open PySem PySem.Spec PyProof.Rows L2 Gd Kx
/-! ### rows are told by one tree -/
theorem ord_idx {D : List Tr} (o : Ord D) (nd : D.Nodup) {i : Nat} {u : Tr} (h : D[i]? = some u) : code D u = code (D.take i) u := by
  have e : D = D.take i ++ D.drop i := (List.take_append_drop i D).symm
  conv => lhs; rw [e]
  exact code_app _ (o i u h)
theorem codes_inj {m : Md} (g : (m.rs.map (·.1)).Nodup) {D D' : List Tr} (o : Ord D) (o' : Ord D') (nd : D.Nodup) (nd' : D'.Nodup) (ok : ∀ u ∈ D, u.Ok m) (ok' : ∀ u ∈ D', u.Ok m) (e : codes D = codes D') : D = D' := by
  have hl : D.length = D'.length := by
    have := congrArg List.length e
    rwa [codes_len, codes_len] at this
  have step : ∀ n, n ≤ D.length → D.take n = D'.take n := by
    intro n
    induction n with
    | zero => intro _; rfl
    | succ n ih =>
      intro hn
      have ih' := ih (by omega)
      have e1 : D[n]? = some (D[n]'(by omega)) := List.getElem?_eq_getElem _
      have e2 : D'[n]? = some (D'[n]'(by omega)) := List.getElem?_eq_getElem _
      have c1 := codes_at e1
      have c2 := codes_at e2
      rw [e, c2] at c1
      have c3 := Option.some.inj c1
      rw [ord_idx o nd e1, ord_idx o' nd' e2, ← ih'] at c3
      have k2 : ∀ c ∈ (D'[n]'(by omega)).kids, c ∈ D.take n := by
        rw [ih']
        exact o' n _ e2
      have := code_inj g (ok _ (List.mem_of_getElem? e1)) (ok' _ (List.mem_of_getElem? e2)) (o n _ e1) k2 c3.symm
      rw [List.take_add_one, List.take_add_one, ih', e1, e2, this]
  have := step D.length (Nat.le_refl _)
  rwa [List.take_length, hl, List.take_length] at this
theorem sub_inj {t u : Tr} (h : sub t = sub u) : t = u := by
  have a := sub_last t
  rw [h, sub_last u] at a
  exact (Option.some.inj a).symm
theorem tree_eq {m : Md} (g : (m.rs.map (·.1)).Nodup) {t u : Tr} (ht : t.Ok m) (hu : u.Ok m) : codes (sub t) = codes (sub u) ↔ t = u :=
  ⟨fun e => sub_inj (codes_inj g (sub_ord t) (sub_ord u) (sub_nd t) (sub_nd u) (sub_ok ht) (sub_ok hu) e), fun e => by rw [e]⟩
/-! ### rows as data -/
def dNs (l : List Nat) : PyData := .tuple (l.map fun k => .int ((k : Nat) : Int))
def dRn (r : Rn) : PyData := .tuple [.str r.1, dNs r.2]
def dRns (rs : List Rn) : PyData := .tuple (rs.map dRn)
section
variable {K : PySem.W.Frag} {H : Hp}
theorem dp_nums : ∀ l : List Nat, DpAll K H (nsV l) (l.map fun k => .int ((k : Nat) : Int))
  | [] => .nil
  | k :: r => .cons (.int _) (dp_nums r)
theorem dp_rn {x : V} {r : Rn} (h : RowN H x r) : Dp K H x (dRn r) := by
  obtain ⟨b, q, rfl, h1, h2⟩ := h
  exact .tup (SqT.of h1) (.cons (.str _) (.cons (.tup (SqT.of h2) (dp_nums _)) .nil))
theorem dp_rnAll : ∀ {xs : List V} {rs : List Rn}, Paired (RowN H) xs rs → DpAll K H xs (rs.map dRn)
  | _, _, .nil => .nil
  | _, _, .cons h t => .cons (dp_rn h) (dp_rnAll t)
theorem dp_rns {R : Addr} {rs : List Rn} (h : RwsT H R rs) : Dp K H (.ref R) (dRns rs) := by
  obtain ⟨xs, e, p⟩ := h
  exact .tup (SqT.of e) (dp_rnAll p)
end
theorem eqv_nat (a b : Nat) : PyData.eqv (.int ((a : Nat) : Int)) (.int ((b : Nat) : Int)) = decide (a = b) := by
  simp only [PyData.eqv]
  rw [Bool.eq_iff_iff]
  simp
  exact ⟨fun h => by omega, fun h => by omega⟩
theorem eqv_ns (a b : List Nat) : PyData.eqv (dNs a) (dNs b) = decide (a = b) := eqvAll_map eqv_nat a b
theorem eqv_rn (a b : Rn) : PyData.eqv (dRn a) (dRn b) = decide (a = b) := by
  obtain ⟨a1, a2⟩ := a
  obtain ⟨b1, b2⟩ := b
  show (PyData.eqv (.str a1) (.str b1) && (PyData.eqv (dNs a2) (dNs b2) && true)) = _
  rw [eqv_str, eqv_ns, Bool.and_true, ← Bool.decide_and]
  exact decide_eq_decide.mpr ⟨fun e => Prod.ext e.1 e.2, fun e => by injection e with e1 e2; exact ⟨e1, e2⟩⟩
theorem eqv_rns (a b : List Rn) : PyData.eqv (dRns a) (dRns b) = decide (a = b) := eqvAll_map eqv_rn a b
theorem lay_ns (l : List Nat) : (dNs l).canLay0 = true ∧ (dNs l).depth ≤ 3 := by
  refine ⟨lay_all fun d hd => ?_, ?_⟩
  · obtain ⟨k, _, rfl⟩ := List.mem_map.mp hd
    rfl
  · have := dep_all (n := 1) (ds := l.map fun k => PyData.int ((k : Nat) : Int)) fun d hd => by
      obtain ⟨k, _, rfl⟩ := List.mem_map.mp hd
      rw [PyData.depth]
      omega
    unfold dNs
    rw [PyData.depth]
    omega
theorem lay_rns {rs : List Rn} (h : ∀ r ∈ rs, nmS r.1 = true) : SeqAt.shaped (dRns rs) = true := by
  have all : ∀ d ∈ rs.map dRn, d.canLay0 = true ∧ d.depth ≤ 6 := fun d hd => by
    obtain ⟨r, hr, rfl⟩ := List.mem_map.mp hd
    have e := lay_ns r.2
    have one : ∀ d ∈ [PyData.str r.1, dNs r.2], d.canLay0 = true ∧ d.depth ≤ 3 := by
      intro d hd
      simp only [List.mem_cons, List.not_mem_nil, or_false] at hd
      rcases hd with rfl | rfl
      · exact ⟨nm_ok (h r hr), by rw [PyData.depth]; omega⟩
      · exact e
    refine ⟨lay_all fun d hd => (one d hd).1, ?_⟩
    have := dep_all (n := 3) fun d hd => (one d hd).2
    unfold dRn
    rw [PyData.depth]
    omega
  have d := dep_all (n := 6) fun d hd => (all d hd).2
  unfold SeqAt.shaped
  have e : (dRns rs).depth ≤ 64 := by
    unfold dRns
    rw [PyData.depth]
    omega
  rw [show (dRns rs).canLay0 = true from lay_all fun d hd => (all d hd).1, decide_eq_true e]
  rfl
theorem codes_nm {m : Md} (g : Good m) {D : List Tr} (ok : ∀ u ∈ D, u.Ok m) : ∀ r ∈ codes D, nmS r.1 = true := fun r hr => by
  obtain ⟨u, hu, rfl⟩ := List.mem_map.mp hr
  exact g.rn _ (Tr.ok_iff.mp (ok u hu)).1
theorem scLnT : FnScope ["self"] ["self"] (defScope (cT 12)) := ⟨rfl, rfl, rfl, by decide +kernel, rfl, by decide +kernel, by decide +kernel⟩
theorem scEqT : FnScope ["self", "other"] ["self", "other"] (defScope (cT 14)) := ⟨rfl, rfl, rfl, by decide +kernel, rfl, by decide +kernel, by decide +kernel⟩
section
variable {P : Program} {w : World} {K : PySem.W.Frag} {mg : Str → Option Value} {base : Heap} {CT CS : Addr}
def spLnT (CT CS : Addr) : Sp := fun vs H Q _ => ∃ (a : Addr) (m : Md) (t : Tr), vs = [.ref a] ∧ TrAt CT CS m H a t ∧ Q (.int ((sub t).length : Nat)) H
theorem ok_lnT {f : Addr} {fd : FuncData} (F : Fun K "__len__" "Tree.__len__" (cT 12) f fd) (T : TS0 mg) (Z : TCl K CT) : FnOk P w K mg base CX0 1 f fd ["self"] (spLnT CT CS) := by
  refine F.ok scLnT (fun vs H Q E h => ?_) (fun cv A ou s H vs Q E hr h => ?_)
  · obtain ⟨a, m, t, rfl, _⟩ := h
    rfl
  obtain ⟨a, m, t, rfl, ht, q⟩ := h
  cases ht with
  | @mk _ dx R s' F' _ bs e _ hR _ _ _ =>
  obtain ⟨xs, eR, pR⟩ := hR
  have l : xs.length = (sub t).length := by rw [Paired.length pR, codes_len]
  rw [← l] at q
  exact ⟨_, pss_one (ps_ret (pe_callB call_len_seq (by rfl) T.len PySem.boot_len (pa_cons (pe_fld (pv 0) rfl) pa_nil))), .ref a, rfl, a, CT, dx, _, _, rfl, e, Z.cls, Z.nR, trF_R, R, xs, rfl, .inr (SqT.of eR), q⟩
/-- the == of trees -/
def spEqT (K : PySem.W.Frag) (CT CS : Addr) : Sp := fun vs H Q _ => ∃ (a : Addr) (y : V) (m : Md) (t : Tr), vs = [.ref a, y] ∧ TrAt CT CS m H a t ∧ Good m ∧ t.Ok m ∧
  ((∃ (b : Addr) (u : Tr), y = .ref b ∧ TrAt CT CS m H b u ∧ u.Ok m ∧ Q (.bl (decide (t = u))) H) ∨ (∃ t, TyX K H y t ∧ PySem.W.kitOne K t (.ref CT) = some false ∧ Q (.bl false) H))
theorem ok_eqT {f : Addr} {fd : FuncData} (F : Fun K "__eq__" "Tree.__eq__" (cT 14) f fd) (mi : mg "isinstance" = none) (S : Sch P w K mg base CS) (Tc : Tch P w K mg base CT) : FnOk P w K mg base CX0 2 f fd ["self", "other"] (spEqT K CT CS) := by
  refine F.ok scEqT (fun vs H Q E h => ?_) (fun cv A ou s H vs Q E hr h => ?_)
  · obtain ⟨a, y, m, t, rfl, _⟩ := h
    rfl
  obtain ⟨a, y, m, t, rfl, ha, g, ok, h⟩ := h
  have hu := hr.units
  obtain ⟨fe, de, De, Fe, be⟩ := S.eq
  refine ⟨_, pss_one (ps_ret (pe_and (pe_callB call_isi (by rfl) mi boot_isinstance (pa_cons (pv 1) (pa_cons (pe_glob (v := .ref CT) (by rfl) Tc.gl rfl) pa_nil)))
    (pe_and (pe_cmpR (op_eqD hu) (pe_fld (pv 0) rfl) (pe_fld (pv 1) rfl) (nomark _)) (pe_one (pe_cmpR (op_eqO De Fe hr be pass0) (pe_fld (pv 0) rfl) (pe_fld (pv 1) rfl) (nomark _)))))), ?_⟩
  rcases h with ⟨b, u, rfl, hb, oku, q⟩ | ⟨t', ty, ek, q⟩
  · have ty := hb.ty Tc.cl Tc.ci
    cases ha with
    | @mk _ dx R s1 F1 _ bs e hs1 hR _ _ _ =>
    cases hb with
    | @mk _ dy R2 s2 F2 _ bs2 e2 hs2 hR2 _ _ _ =>
    refine ⟨.ref b, rfl, .ref b, .ref CT, _, .ref CT, true, rfl, .own CT, .base ty, kit_self CT, _, rfl, iteT ?_⟩
    refine ⟨.ref a, rfl, a, CT, dx, _, _, rfl, e, Tc.cl.cls, Tc.cl.nR, trF_R, .ref b, rfl, b, CT, dy, _, _, rfl, e2, Tc.cl.cls, Tc.cl.nR, trF_R, _, _, dp_rns hR, dp_rns hR2, lay_rns (codes_nm g (sub_ok ok)), lay_rns (codes_nm g (sub_ok oku)), ?_⟩
    rw [eqv_rns]
    refine ⟨_, rfl, ?_⟩
    by_cases ee : t = u
    · rw [decide_eq_true ee] at q
      rw [decide_eq_true ((tree_eq g.rd ok oku).mpr ee)]
      obtain ⟨d1, f1, i1⟩ := hs1.ins
      obtain ⟨d2, f2, i2⟩ := hs2.ins
      refine iteT ⟨.ref a, rfl, a, CT, dx, _, _, rfl, e, Tc.cl.cls, Tc.cl.ns, trF_s, .ref b, rfl, b, CT, dy, _, _, rfl, e2, Tc.cl.cls, Tc.cl.ns, trF_s, s1, d1, f1, rfl, i1, .inl ⟨s2, d2, f2, rfl, i2⟩, s1, .ref s2, m, rfl, hs1, g, .inl ⟨s2, m, rfl, hs2, g, _, rfl, ?_⟩⟩
      rw [decide_eq_true rfl, decide_eq_true rfl]
      exact q
    · rw [decide_eq_false ee] at q
      rw [decide_eq_false fun z => ee ((tree_eq g.rd ok oku).mp z)]
      exact iteF q
  · exact ⟨y, rfl, y, .ref CT, _, .ref CT, false, rfl, .own CT, ty, ek, _, rfl, iteF q⟩
/-- a tree made by its fields -/
def spMk (CT CS : Addr) : Sp := fun vs H Q _ => ∃ (x dx s : Addr) (m : Md) (t : Tr) (bs : List Addr), vs = .ref x :: .ref s :: .str t.row.1 :: bs.map V.ref ∧ H x = some (.ins CT dx []) ∧ ScAt CS H s m ∧ Good m ∧ t.Ok m ∧ Kids CT CS m H bs t.kids ∧ (sub t).length ≤ 200 ∧
  ∀ H', But x H H' → TrAt CT CS m H' x t → Q .non H'
theorem spTi_of {x dx s p : Addr} {m : Md} {t : Tr} {bs : List Addr} {H : Hp} {Q : VK} {E : XK} (hx : H x = some (.ins CT dx [])) (hs : ScAt CS H s m) (g : Good m) (ok : t.Ok m) (kid : Kids CT CS m H bs t.kids) (l : (sub t).length ≤ 200) (q : ∀ H', But x H H' → TrAt CT CS m H' x t → Q .non H') (hp : H p = none) :
    spTi CT CS [.ref x, .ref s, .str t.row.1, .ref p] (upd H p (.tup (bs.map V.ref))) Q E := by
  have sm := same_new (o := .tup (bs.map V.ref)) hp
  exact ⟨x, dx, s, p, m, t, bs, rfl, sm _ _ hx, hs.keep sm, g, ok, upd_same, kid.keep sm, l, fun H' b ht => q H' (fun a o n e => b a o n (sm _ _ e)) ht⟩
theorem ok_mk {f fk fc fr : Addr} {fd fdk fdc fdr : FuncData} (F : Fun K "__init__" "Tree.__init__" (cT 0) f fd) (T : TS0 mg) (TX : TsX mg) (S : Sch P w K mg base CS) (Tc : Tch P w K mg base CT)
    (GK : FnOk P w K mg base CX0 1 fk fdk ["schema"] (spChk CS)) (kk : PySem.W.keepIn K (.ref fk) = true) (bK : Binds K fdk ["schema"] []) (gK : mg "check_schema" = some (.ref fk))
    (GC : FnOk P w K mg base CX0 4 fc fdc ["schema", "kinds", "fields"] (spCf CT CS)) (kc : PySem.W.keepIn K (.ref fc) = true) (bC : Binds K fdc ["schema", "kinds", "fields"] []) (gC : mg "_check_fields" = some (.ref fc))
    (GR : FnOk P w K mg base CX0 3 fr fdr ["name", "fields"] (spRb CT CS)) (kr : PySem.W.keepIn K (.ref fr) = true) (bR : Binds K fdr ["name", "fields"] []) (gR : mg "_rows_below" = some (.ref fr)) :
    FnR P w K mg base CX0 5 f (spMk CT CS) ∧ FnRK P w K mg base CX0 5 f ["name", "schema"] (fun vs H Q E => ∃ (x dx s : Addr) (m : Md) (t : Tr), vs = [.ref x, .str t.row.1, .ref s] ∧ t.kids = [] ∧ H x = some (.ins CT dx []) ∧ ScAt CS H s m ∧ Good m ∧ t.Ok m ∧ ∀ H', But x H H' → TrAt CT CS m H' x t → Q .non H') := by
  obtain ⟨oc, od, kV, doc, pm, an, cdv, ct, osl, rfl, lk, hcd⟩ := F.ex
  constructor
  · refine (StX.fn_star (CX := CX0) (k := 4) (N := nTi) (ps := ["self", "schema", "name"]) (pv := "fields") (sp := spTi CT CS) lk hcd scTi StX.cxUp_none (bind_star3 (B := fun us => bindArgs (PySem.W.fnOf "__init__" "Tree.__init__" (defArgs (cT 0)) (defBody (cT 0)) (defScope (cT 0)) .none kV doc pm an cdv ct) ⟨us, []⟩) (fun a b c => rfl) (fun a b c r rs => rfl)) (fun A ou s H vs Q E hr h => body_tin T TX S Tc GK kk bK gK GC kc bC gC GR kr bR gR hr h)).imp fun vs H Q E h => ?_
    obtain ⟨x, dx, s, m, t, bs, rfl, hx, hs, g, ok, kid, l, q⟩ := h
    refine ⟨[.ref x, .ref s, .str t.row.1], bs.map V.ref, rfl, rfl, ?_, fun p hp => spTi_of hx hs g ok kid l q hp⟩
    rw [List.length_map, kid.len]
    exact Nat.le_of_lt (small1000 (by have := t.kids3; omega))
  · have z := fn_starK (CX := CX0) (k := 4) (N := nTi) (ps := ["self", "schema", "name"]) (ks := ["name", "schema"]) (pv := "fields") (sp := spTi CT CS) (g := List.reverse) (gV := List.reverse) (P := P) (w := w) (mg := mg) (base := base) lk hcd scTi StX.cxUp_none
      (fun u ws hl => by match ws, hl with | [a, b], _ => rfl) (fun zs ws r hl => ⟨r.reverse, by rw [List.length_reverse, hl]; rfl⟩) (fun A ou s H vs Q E hr h => body_tin T TX S Tc GK kk bK gK GC kc bC gC GR kr bR gR hr h)
    intro A outer s H u v ws zs Q E hr e0 r rz hl h
    obtain ⟨x, dx, sc, m, t, ev, kt, hx, hs, g, ok, q⟩ := h
    injection ev with ev1 ev2
    subst ev1 ev2
    refine z A outer s H u _ ws _ Q E hr e0 r rz hl ⟨.ref x, [.str t.row.1, .ref sc], rfl, fun p hp => ?_⟩
    have kid : Kids CT CS m H [] t.kids := ⟨by rw [kt]; rfl, fun i b c e _ => by simp at e⟩
    have ls : (sub t).length ≤ 200 := by
      rw [sub_eq, kt]
      exact (by decide : 1 ≤ 200)
    exact spTi_of (bs := []) hx hs g ok kid ls q hp
end
end Ks
set_option Elab.async false
set_option linter.all false
set_option maxRecDepth 100000
set_option maxHeartbeats 4000000
/-! an instance made through a value that is its class, the last fields by a star -/
namespace Gd
open PySem PySem.Spec PyProof.Rows L2 StX
def tMakeV (C : Addr) (sp : Sp) (E : XK) (tf : TE) (t : TA) : TE := fun σ H Q => tf σ H fun y H0 => y = .ref C ∧ t σ H0 fun vs H1 => ∀ x dx, H1 x = Option.none → H1 dx = Option.none → dx ≠ x →
  sp (V.ref x :: vs) (upd (upd H1 dx (.own x)) x (.ins C dx [])) (fun v H2 => v = .non ∧ Q (.ref x) H2) E
section
variable {X : Cx} {CX : CXT} {k i : Nat} {f C : Addr} {sp : Sp} {E : XK} {x : Str} {e fe : Expr} {es : List Expr} {te tf : TE} {t : TA} {p pos : Pos}
theorem pe_makeVS (hf : PE X fe tf) (M : Mk X.K C f) (F : FnR X.prog X.w X.K X.mg X.base CX k f sp) (hr : Room (k + 1) X.A) (hx : Passes CX X E) (ha : PA X (e :: es) t)
    (ht : eval (.Call fe (e :: es) [] pos) X.env = (do callWith pos (← eval fe X.env) [] (backTo pos (starEach (e :: es) X.env)) (backToKw pos (keywordEach [] X.env))) := by rfl)
    (he : starEach (e :: es) X.env = (false, eval e X.env) :: starEach es X.env := by rfl) (hst : (backTo pos (starEach es X.env)).any (·.1) = true := by rfl) : PE X (.Call fe (e :: es) [] pos) (tMakeV C sp E tf t) := by
  refine ⟨fun pins s σ H Q I h => ?_⟩
  refine Call_ (thn (hf.run pins s σ H _ I h) fun u s1 ⟨y, H1, I1, ry, ey, q⟩ => ?_) ht
  subst ey
  obtain rfl : u = Value.ref C := ry
  refine PySem.W.callWith_S2 (h₀ := X.base) I1.ok.mod.kin M.kp (thn (ha.run pos pins s1 σ H1 _ I1 q) fun us s2 ⟨vs, H2, I2, r, q2⟩ => ⟨I2.kIn, ?_⟩) he hst
  exact run_makeR M F hr hx I2 r q2
end
/-! ### v not in x, x an instance -/
def rNotInO (C : Addr) (sp : Sp) (E : XK) : R2 := fun v y H Q => ∃ a dx fs, y = .ref a ∧ H a = some (.ins C dx fs) ∧ sp [.ref a, v] H (fun r H' => ∃ b : Bool, r = .bl b ∧ Q (.bl (!b)) H') E
section
variable {X : Cx} {CX : CXT} {k : Nat} {C f : Addr} {fd : FuncData} {ps : List Str} {sp : Sp} {E : XK}
theorem op_notInO (D : Dm X.K C "__contains__" f) (F : FnOk X.prog X.w X.K X.mg X.base CX k f fd ps sp) (hr : Room k X.A) (hb : Binds X.K fd ps []) (hx : Passes CX X.nox E) : OpR X (compareOp .NotIn) (rNotInO C sp E) := by
  intro pins s σ H x y v u Q I rx ry h
  obtain ⟨a, dx, fs, rfl, ea, q⟩ := h
  obtain rfl : u = Value.ref a := ry
  obtain ⟨mA, J, _⟩ := ins_get I.hok ea
  obtain ⟨od, J, _⟩ := J.look
  obtain ⟨m, hF⟩ := I.fr
  refine PySem.W.notIn_K hF I.ok.mod.kin J D.at_ D.fn (wpAny_mono (run_at F hr I.env0 hb hx I (.cons (show RelV (V.ref a) (Value.ref a) from rfl) (.cons rx .nil)) q) (fun r s' z => ?_) fun _ _ e => e)
  obtain ⟨y, H', I', ry, b, ey, q2⟩ := z
  subst ey
  obtain rfl : r = Value.bool b := ry
  exact wpAny_pure ⟨.bl (!b), H', I', rfl, q2⟩
end
/-! ### a comprehension over zip of two tuples of one length -/
theorem lc_zipT {K : PySem.W.Frag} {a b : Addr} {xs ys : List V} {g : TG} {tt : TT} {te : TE} {vs : List Nat} {σ : L2.St} {H1 : Hp} {D : Addr} {Qd : Hp → Prop} (hl : xs.length = ys.length) (Pv : Nat → Hp → Prop) (h0 : Pv 0 (upd H1 D (.lst []))) (hq : ∀ i H, Pv i H → SqT K H a xs ∧ SqT K H b ys)
    (hs : ∀ (i : Nat) (x y : V) (T : Addr) (H : Hp), xs[i]? = some x → ys[i]? = some y → Pv i H → H T = none → g (.ref T) (wipe σ vs) (upd H T (.tup [x, y])) fun σ2 H2 => wipe σ2 vs = wipe σ vs ∧ tt σ2 H2 fun b H3 =>
      if b = true then te σ2 H3 fun y H4 => ∃ acc, H4 D = some (.lst acc) ∧ acc.length < sizeLine ∧ Pv (i + 1) (upd H4 D (.lst (acc ++ [y]))) else Pv (i + 1) H3) (hd : ∀ H, Pv xs.length H → Qd H) :
    ∃ W : Nat → Nat → Hp → Prop, (∃ m, W 0 m (upd H1 D (.lst []))) ∧ ∀ i m H, W i m H →
      ((RZ.ItzT K a b).stop i H ∧ Qd H) ∨ ((RZ.ItzT K a b).go i H ∧ ∃ Nx : Hp → Prop, (∀ H', Nx H' → ∃ m', m' < m ∧ W (i + 1) m' H') ∧ ∀ x H', (RZ.ItzT K a b).yld i H x H' → g x (wipe σ vs) H' fun σ2 H2 => wipe σ2 vs = wipe σ vs ∧ tt σ2 H2 fun b H3 =>
        if b = true then te σ2 H3 fun y H4 => ∃ acc, H4 D = some (.lst acc) ∧ acc.length < sizeLine ∧ Nx (upd H4 D (.lst (acc ++ [y]))) else Nx H3) := by
  refine ⟨fun i m H => m = xs.length - i ∧ i ≤ xs.length ∧ Pv i H, ⟨xs.length, rfl, Nat.zero_le _, h0⟩, ?_⟩
  rintro i m H ⟨rfl, hi, p⟩
  obtain ⟨qx, qy⟩ := hq i H p
  by_cases hlt : i < xs.length
  · have hx : xs[i]? = some xs[i] := List.getElem?_eq_getElem hlt
    have hlt2 : i < ys.length := by omega
    have hy : ys[i]? = some ys[i] := List.getElem?_eq_getElem hlt2
    refine .inr ⟨⟨xs, ys, _, _, qx, qy, hx, hy⟩, Pv (i + 1), fun H' p' => ⟨xs.length - (i + 1), by omega, rfl, hlt, p'⟩, fun v H' y => ?_⟩
    obtain ⟨T, x', y', rfl, hT, rfl, f1, f2⟩ := y
    exact hs i x' y' T H (f1 xs qx) (f2 ys qy) p hT
  · have e : i = xs.length := by omega
    subst e
    exact .inl ⟨⟨xs, ys, qx, qy, Or.inl (Nat.le_refl _)⟩, hd H p⟩
/-! ### C.m(k = v, ..), m a classmethod: keywords alone -/
def tCMethK (C : Addr) (sp : Sp) (gV : List V → List V → List V) (E : XK) (ta : TE) (tk : TA) : TE := fun σ H Q => ta σ H fun x H1 => x = .ref C ∧ tk σ H1 fun zs H2 => sp (gV [.ref C] zs) H2 Q E
section
variable {X : Cx} {CX : CXT} {k : Nat} {C p f : Addr} {mc : Value} {fd : FuncData} {ps ks : List Str} {sp : Sp} {E : XK} {ta : TE} {tk : TA} {o : Expr} {m : Str} {apos pos : Pos} {kws : List Keyword} {g : List Value → List Value → List Value} {gV : List V → List V → List V}
theorem run_fnkC {pins : List (Addr × Obj)} {σ : L2.St} {H : Hp} {s : Shared} {Q : VK} {us ws : List Value} {vs zs : List V} (F : FnOk X.prog X.w X.K X.mg X.base CX k f fd ps sp) (hr : Room k X.A) (hb : KBinds X.K fd ps ks g gV) (hx : Passes CX X E)
    (I : Inv X pins σ H s) (r : Vals vs us) (rz : Vals zs ws) (h : sp (gV vs zs) H Q E) : codeAny (model X.prog X.w) X.A (.call (.ref f) ⟨us, ks.zip ws⟩) (fun r s' => match r with | .ok (.ret v) => EP X pins σ Q v s' | .ok _ => False | .error e => X.xe e s') s := by
  have r2 := hb.rel r rz
  have hl : (g us ws).length = ps.length := by rw [← r2.length]; exact F.len _ _ _ _ h
  refine codeAny_mono (F.run X.A X.stack s H ⟨us, ks.zip ws⟩ (g us ws) (gV vs zs) Q E hr I.env0 (hb.to s us ws I.kIn hl) r2 h) fun r s' hq => ?_
  cases r with
  | error e => exact hx pins σ H s e s' I hq
  | ok fl =>
    cases fl with
    | ret u => exact I.after hq
    | next => exact False.elim hq
    | brk => exact False.elim hq
    | cont => exact False.elim hq
theorem pe_cmethK0 {pl : Sem Bool} (he : PE X o ta) (rd : ClX.CRead X.K C mc) (c : ClX.CMet X.K C mc m p f) (F : FnOk X.prog X.w X.K X.mg X.base CX k f fd ps sp) (hr : Room k X.A) (hb : KBinds X.K fd ps ks g gV) (hx : Passes CX X E)
    (hkw : PK X kws tk) (hall : (backToKw pos (keywordEach kws X.env)).all (·.1.isSome) = true := by rfl) (hks : (backToKw pos (keywordEach kws X.env)).filterMap (·.1) = ks := by rfl)
    (hpl : ((backTo pos (starEach [] X.env)).any (·.1) || (backToKw pos (keywordEach kws X.env)).any (·.1.isNone)) = false := by rfl)
    (ht : eval (.Call (.Attribute o m apos) [] kws pos) X.env = (do
      let ov ← eval o X.env
      standAt apos.atName
      let (f, first) ← holding [ov] (getMethod ov m pl)
      callWith pos f first (backTo pos (starEach [] X.env)) (backToKw pos (keywordEach kws X.env))) := by rfl) :
    PE X (.Call (.Attribute o m apos) [] kws pos) (tCMethK C sp gV E ta tk) := by
  refine ⟨fun pins s σ H Q I h => ?_⟩
  refine PySem.W.methodCall_KW (pl := pl) (thn (he.run pins s σ H _ I h) fun u s1 ⟨x, H1, I1, rx, ex, q⟩ => ?_) ht
  subst ex
  obtain rfl : u = Value.ref C := rx
  refine ClX.getmethcm_ok I1 rd c fun s2 I2 => ?_
  refine PySem.W.callWith_of (P := PySem.W.MethP X.K _ f (.ref C)) hpl (PySem.W.keeps_M c.fi) (evalArgs_kw2_nil hall (thn (hkw.run pos _ s2 σ H1 _ I2 q) fun us s3 ⟨zs, H2, I3, rz, q2⟩ => ⟨⟨ClX.pin_at I3, I3.kIn⟩, ?_⟩))
  rw [hks]
  have z : wpAny (model X.prog X.w) X.A (call (.ref s1.heap.objs.size) [] (ks.zip us)) (EP X ((s1.heap.objs.size, PySem.W.methodObj (.ref f) (.ref C)) :: pins) σ Q) X.xe s3 :=
    wpAny_call (PySem.W.method_call (ClX.pin_at I3) (run_fnkC (us := [.ref C]) (vs := [.ref C]) F hr hb hx I3 (.cons rfl .nil) rz q2))
  exact thn z fun _ _ y => ClX.unpinE y
end
end Gd
set_option Elab.async false
set_option linter.all false
set_option maxRecDepth 100000
set_option maxHeartbeats 4000000
namespace Ks
open PySem PySem.Spec PyProof.Rows L2 Gd Kx
/-! ### trees made of rows -/
abbrev sIint : Stmt := Kx.topS 33
abbrev sInum : Stmt := Kx.topS 34
abbrev sIrw : Stmt := Kx.topS 42
abbrev sCrw : Stmt := Kx.topS 43
abbrev nIrw : List Str := ["schema", "row", "kinds", "name", "numbers", "wanted", "last", "at", "kind"]
abbrev nCrw : List Str := ["schema", "rows", "kinds", "index", "row"]
abbrev nOfr : List Str := ["cls", "schema", "rows", "made", "name", "numbers", "fields", "number"]
theorem scIint : FnScope ["value"] ["value"] (defScope sIint) := ⟨rfl, rfl, rfl, by decide +kernel, rfl, by decide +kernel, by decide +kernel⟩
theorem scInum : FnScope ["value", "least", "most"] ["value", "least", "most"] (defScope sInum) := ⟨rfl, rfl, rfl, by decide +kernel, rfl, by decide +kernel, by decide +kernel⟩
theorem scIrw : FnScope nIrw ["schema", "row", "kinds"] (defScope sIrw) := ⟨rfl, rfl, rfl, by decide +kernel, rfl, by decide +kernel, by decide +kernel⟩
theorem scCrw : FnScope nCrw ["schema", "rows"] (defScope sCrw) := ⟨rfl, rfl, rfl, by decide +kernel, rfl, by decide +kernel, by decide +kernel⟩
theorem scOfr : FnScope nOfr ["cls", "schema", "rows"] (defScope (cT 1)) := ⟨rfl, rfl, rfl, by decide +kernel, rfl, by decide +kernel, by decide +kernel⟩
/-- these rows build these trees, one behind the other -/
structure Bld (m : Md) (rs : List Rn) (ts : List Tr) : Prop where
  len : rs.length = ts.length
  ok : ∀ t ∈ ts, t.Ok m
  at_ : ∀ (i : Nat) (r : Rn) (t : Tr), rs[i]? = some r → ts[i]? = some t → t.row.1 = r.1 ∧ r.2.length = t.kids.length ∧ ∀ (j n : Nat) (c : Tr), r.2[j]? = some n → t.kids[j]? = some c → n < i ∧ ts[n]? = some c
structure TsN (mg : Str → Option Value) : Prop where
  int : mg "int" = none
  bool : mg "bool" = none
  zip : mg "zip" = none
section
variable {P : Program} {w : World} {K : PySem.W.Frag} {mg : Str → Option Value} {base : Heap} {CT CS : Addr}
def spIint : Sp := fun vs H Q _ => ∃ n : Int, vs = [.int n] ∧ Q (.bl true) H
theorem ok_iint {f : Addr} {fd : FuncData} (F : Fun K "is_integer" "is_integer" sIint f fd) (T : TS0 mg) (N : TsN mg) : FnOk P w K mg base CX0 1 f fd ["value"] spIint := by
  refine F.ok scIint (fun vs H Q E h => ?_) (fun cv A ou s H vs Q E hr h => ?_)
  · obtain ⟨n, rfl, _⟩ := h
    rfl
  obtain ⟨n, rfl, q⟩ := h
  refine ⟨_, pss_one (ps_ret (pe_and (pe_callB call_isi (by rfl) T.isi boot_isinstance (pa_cons (pv 0) (pa_cons (pe_bltn (v := .ty "int") (by rfl) N.int boot_int rfl) pa_nil)))
    (pe_one (pe_not (pe_callB call_isi (by rfl) T.isi boot_isinstance (pa_cons (pv 0) (pa_cons (pe_bltn (v := .ty "bool") (by rfl) N.bool boot_bool rfl) pa_nil))))))), ?_⟩
  refine ⟨.int n, rfl, .int n, .ty "int", _, _, true, rfl, .ty "int", .base (.int n), kit_ty (by decide +kernel), _, rfl, iteT ?_⟩
  exact ⟨.int n, rfl, .int n, .ty "bool", _, _, false, rfl, .ty "bool", .base (.int n), kit_ty (by decide +kernel), _, rfl, q⟩
def spInum : Sp := fun vs H Q _ => ∃ n a b : Int, vs = [.int n, .int a, .int b] ∧ Q (.bl (decide (a ≤ n) && decide (n ≤ b))) H
theorem ok_inum {f fi : Addr} {fd fdi : FuncData} (F : Fun K "is_number" "is_number" sInum f fd)
    (GI : FnOk P w K mg base CX0 1 fi fdi ["value"] spIint) (ki : PySem.W.keepIn K (.ref fi) = true) (bI : Binds K fdi ["value"] []) (gI : mg "is_integer" = some (.ref fi)) : FnOk P w K mg base CX0 2 f fd ["value", "least", "most"] spInum := by
  refine F.ok scInum (fun vs H Q E h => ?_) (fun cv A ou s H vs Q E hr h => ?_)
  · obtain ⟨n, a, b, rfl, _⟩ := h
    rfl
  obtain ⟨n, a, b, rfl, q⟩ := h
  refine ⟨_, pss_one (ps_ret (pe_and (pe_call GI hr (by rfl) gI ki bI .nil pass0 (pa_cons (pv 0) pa_nil)) (pe_one (pe_chain op_le op_le (pv 1) (pv 0) (pv 2))))), ?_⟩
  refine ⟨.int n, rfl, n, rfl, _, rfl, iteT ⟨.int a, rfl, .int n, rfl, _, _, rfl, rfl, _, rfl, ?_⟩⟩
  by_cases h1 : a ≤ n
  · rw [decide_eq_true h1] at q ⊢
    exact iteT ⟨.int b, rfl, _, _, rfl, rfl, q⟩
  · rw [decide_eq_false h1] at q ⊢
    exact iteF q
/-- a row, and the tree that it makes -/
def spIrw (CS : Addr) : Sp := fun vs H Q _ => ∃ (s L : Addr) (x : V) (m : Md) (r : Rn) (t : Tr) (ks : List Str), vs = [.ref s, x, .ref L] ∧ ScAt CS H s m ∧ Good m ∧ RowN H x r ∧ t.Ok m ∧ t.row.1 = r.1 ∧ r.2.length = t.kids.length ∧ H L = some (.lst (ks.map V.str)) ∧ ks.length ≤ 200 ∧
  (∀ (j n : Nat) (c : Tr), r.2[j]? = some n → t.kids[j]? = some c → ks[n]? = some c.row.2.1) ∧ ∀ H', Same H H' → Q (.bl true) H'
set_option maxHeartbeats 8000000 in
theorem ok_irw {f fi fcn : Addr} {fd fdi dcn : FuncData} (F : Fun K "_is_row" "_is_row" sIrw f fd) (T : TS0 mg) (N : TsN mg) (S : Sch P w K mg base CS)
    (Dcn : Dm K CS "__contains__" fcn) (Fcn : FnOk P w K mg base CX0 2 fcn dcn ["self", "value"] (spCn K CS)) (bcn : Binds K dcn ["self", "value"] [])
    (GI : FnOk P w K mg base CX0 2 fi fdi ["value", "least", "most"] spInum) (ki : PySem.W.keepIn K (.ref fi) = true) (bI : Binds K fdi ["value", "least", "most"] []) (gI : mg "is_number" = some (.ref fi)) :
    FnOk P w K mg base CX0 4 f fd ["schema", "row", "kinds"] (spIrw CS) := by
  refine F.ok scIrw (fun vs H Q E h => ?_) (fun cv A ou s H vs Q E hr h => ?_)
  · obtain ⟨s, L, x, m, r, t, ks, rfl, _⟩ := h
    rfl
  obtain ⟨sa, L, x, m, r, t, ks, rfl, hs, g, ⟨b, q0, rfl, eb, eq0⟩, ok, en, ln, eL, lk, kk, q⟩ := h
  obtain ⟨Z, _, _, _, ⟨fco, dco, Mco, Fco, bco⟩⟩ := S
  have hr2 : Room 2 (A.deeper (envOfC "_is_row" (defScope sIrw) s.heap.objs.size f cv)) := hr.mono (by decide)
  refine ⟨_, pss_cons (ps_if (PW.pt (pw_or (pt_not (pt_val (pe_callB call_isi (by rfl) T.isi boot_isinstance (pa_cons (pv 1) (pa_cons (pe_bltn (v := .ty "tuple") (by rfl) T.tup boot_tuple rfl) pa_nil)))))
        (pw_or1 (pt_cmpR op_ne (pe_callB call_len_seq (by rfl) T.len PySem.boot_len (pa_cons (pv 1) pa_nil)) pe_int (nomark _))))) (pss_one (ps_ret pe_bl)) pss_nil)
    (pss_cons (ps_asg (pv 1) (pg_tup (by rfl) (pgs_cons (pg_name (i := 3) scIrw.nd rfl (.inl rfl)) (pgs_cons (pg_name (i := 4) scIrw.nd rfl (.inl rfl)) pgs_nil))))
    (pss_cons (ps_if (PW.pt (pw_or (pt_cmpR (op_notInO Dcn Fcn hr2 bcn pass0) (pv 3) (pv 0) (by rfl))
        (pw_or1 (pt_not (pt_val (pe_callB call_isi (by rfl) T.isi boot_isinstance (pa_cons (pv 4) (pa_cons (pe_bltn (v := .ty "tuple") (by rfl) T.tup boot_tuple rfl) pa_nil)))))))) (pss_one (ps_ret pe_bl)) pss_nil)
    (pss_cons (ps_set (i := 5) scIrw.nd rfl (.inl rfl) (pe_ix ix_tup (pe_meth (pv 0) Z.cls Mco Fco hr bco .nil pass0 (pa_cons (pv 3) pa_nil)) pe_int (fun _ _ => rfl)))
    (pss_cons (ps_if (pt_cmpR op_ne (pe_callB call_len_seq (by rfl) T.len PySem.boot_len (pa_cons (pv 4) pa_nil)) (pe_callB call_len_seq (by rfl) T.len PySem.boot_len (pa_cons (pv 5) pa_nil)) (nomark _)) (pss_one (ps_ret pe_bl)) pss_nil)
    (pss_cons (ps_set (i := 6) scIrw.nd rfl (.inr rfl) (pe_op op_sub (pe_callB call_len_seq (by rfl) T.len PySem.boot_len (pa_cons (pv 2) pa_nil)) pe_int))
    (pss_one (ps_ret (pe_callB (cr_all rfl) (by rfl) T.all boot_all (pa_cons (pe_lc (own := [("at", 7), ("kind", 8)]) (g := gTup K 2 (gCons (gName 7) (gCons (gName 8) gNil))) (tt := tYes) (by rfl) scIrw.nd
        (RZ.pi_zipA (by rfl) N.zip (pa_cons (pv 4) (pa_cons (pv 5) pa_nil))) (blkOk_by (own := [("at", 7), ("kind", 8)]) (N := nIrw) (sc := defScope sIrw) (by decide +kernel))
        (fun _ _ _ _ _ => pg_tup (by rfl) (pgs_cons (pg_name (i := 7) scIrw.nd rfl (Or.inl rfl)) (pgs_cons (pg_name (i := 8) scIrw.nd rfl (Or.inl rfl)) pgs_nil))) (fun _ _ _ _ _ => pts_nil)
        (fun _ _ _ _ _ => asTE (te := tAndV (tCall spInum [] E0 (tCons (tVar 7) (tCons (tC (.int 0)) (tCons (tVar 6) tNil)))) (tOp rEq (tOp (rIxL K) (tVar 2) (tVar 7)) (tVar 8))) (pe_and (pe_call GI hr2 (by rfl) gI ki bI .nil pass0 (pa_cons (pv 7) (pa_cons pe_int (pa_cons (pv 6) pa_nil)))) (pe_one (pe_cmpR op_eq (pe_ix ix_list (pv 2) (pv 7) (fun _ _ => rfl)) (pv 8) (nomark _)))) rfl)) pa_nil))))))))), ?_⟩
  obtain ⟨o1, o2, o3⟩ := Tr.ok_iff.mp ok
  obtain ⟨pl, epl⟩ : ∃ pl : Nat, m.rs[pl]? = some t.row := by
    obtain ⟨j, hj, e⟩ := List.getElem_of_mem o1
    exact ⟨j, by rw [List.getElem?_eq_getElem hj, e]⟩
  have ezn : (m.rs.map (·.1))[pl]? = some r.1 := by rw [List.getElem?_map, epl, ← en]; rfl
  obtain ⟨dS, kA, cA, nA, ⟨dp, ea, edp⟩, ak, ac, an⟩ := id hs
  obtain ⟨ys, eac, pac⟩ := id ac
  obtain ⟨y, ey, vy⟩ := rows_has' pac epl
  obtain ⟨rb, fb, rfl, erb, efb⟩ := id vy
  have k3 := t.kids3
  have lq : (nsV r.2).length = r.2.length := List.length_map ..
  have lf : (t.row.2.2.map V.str).length = t.kids.length := by rw [List.length_map, o2, List.length_map]
  refine ⟨.ref b, rfl, .ref b, .ty "tuple", _, _, true, rfl, .ty "tuple", .base (.tup eb), kit_ty (by decide +kernel), _, rfl, iteF ?_⟩
  refine ⟨.ref b, rfl, b, _, rfl, .inr (SqT.of eb), rfl, _, rfl, ?_⟩
  rw [show (!decide (V.int (([V.str r.1, V.ref q0].length : Nat) : Int) = V.int 2)) = false by rw [show ([V.str r.1, V.ref q0].length : Nat) = 2 from rfl]; rfl]
  refine iteF ?_
  refine ⟨.ref b, rfl, b, _, rfl, SqT.of eb, rfl, _, _, rfl, _, _, rfl, rfl, ?_⟩
  -- the name and the numbers
  refine ⟨.str r.1, rfl, .ref sa, rfl, sa, dS, _, rfl, ea, sa, kA, cA, nA, .str r.1, _, true, rfl, ⟨dS, _, ⟨dp, ea, edp⟩, an⟩, an, .inl ⟨r.1, rfl, (decide_eq_true (List.mem_of_getElem? ezn)).symm⟩, true, rfl, ?_⟩
  refine ⟨_, rfl, iteF ⟨.ref q0, rfl, .ref q0, .ty "tuple", _, _, true, rfl, .ty "tuple", .base (.tup eq0), kit_ty (by decide +kernel), _, rfl, iteF ?_⟩⟩
  -- what is wanted
  refine ⟨.ref sa, rfl, sa, dS, _, rfl, ea, rfl, .str r.1, rfl, sa, kA, cA, nA, _, ys, r.1, pl, .ref rb, rfl, ⟨dS, _, ⟨dp, ea, edp⟩, an⟩, an, g.rd, ezn, eac, ey, ?_⟩
  refine ⟨rb, _, _, .ref fb, rfl, rfl, SqT.of erb, rfl, ?_⟩
  refine ⟨.ref q0, rfl, q0, _, rfl, .inr (SqT.of eq0), .ref fb, rfl, fb, _, rfl, .inr (SqT.of efb), rfl, _, rfl, ?_⟩
  rw [show (!decide (V.int (((nsV r.2).length : Nat) : Int) = V.int (((t.row.2.2.map V.str).length : Nat) : Int))) = false by rw [lq, lf, ln, decide_eq_true rfl]; rfl]
  refine iteF ⟨.ref L, rfl, L, _, rfl, .inl (SqL.of eL), _, _, rfl, rfl, ?_⟩
  have lks : (ks.map V.str).length = ks.length := List.length_map ..
  rw [lks]
  refine ⟨.ref q0, rfl, .ref fb, rfl, q0, fb, nsV r.2, t.row.2.2.map V.str, rfl, .inr ⟨SqT.of eq0, SqT.of efb, fun D nD => lc_zipT (K := K) (a := q0) (b := fb) (xs := nsV r.2) (ys := t.row.2.2.map V.str) (by rw [lq, lf, ln]) (fun i H' => i ≤ 3 ∧ Same H H' ∧ H' D = some (.lst ((List.replicate i true).map V.bl))) ⟨by omega, same_new nD, upd_same⟩ (fun i H' p => ⟨SqT.of (p.2.1 _ _ eq0), SqT.of (p.2.1 _ _ efb)⟩) (fun i x y U H' hx hy p nU => ?_) (fun H' p => ?_)⟩⟩
  · obtain ⟨i3, s1, eD⟩ := p
    unfold nsV at hx
    rw [List.getElem?_map] at hx
    cases hn : r.2[i]? with
    | none => rw [hn] at hx; cases hx
    | some n =>
      rw [hn] at hx
      cases hx
      have hi : i < t.kids.length := by
        have := (List.getElem?_eq_some_iff.mp hn).1
        omega
      have hc : t.kids[i]? = some (t.kids[i]) := List.getElem?_eq_getElem hi
      rw [List.getElem?_map, o2, List.getElem?_map, hc] at hy
      cases hy
      have hkn := kk i n _ hn hc
      have hnl := (List.getElem?_eq_some_iff.mp hkn).1
      have sU := same_new (o := .tup [.int ((n : Nat) : Int), .str (t.kids[i]).row.2.1]) nU
      have s2 := s1.trans sU
      refine ⟨U, _, rfl, SqT.of upd_same, rfl, _, _, rfl, _, _, rfl, rfl, rfl, Gd.yes_if ?_⟩
      refine ⟨.int ((n : Nat) : Int), rfl, .int (((ks.length : Nat) : Int) - 1), rfl, _, _, _, rfl, _, rfl, ?_⟩
      rw [decide_eq_true (show (0 : Int) ≤ ((n : Nat) : Int) by omega), decide_eq_true (show ((n : Nat) : Int) ≤ ((ks.length : Nat) : Int) - 1 by omega)]
      refine iteT ⟨.ref L, rfl, .int ((n : Nat) : Int), rfl, L, _, _, .str (t.kids[i]).row.2.1, rfl, rfl, SqL.of (s2 _ _ eL), atI_nat (by rw [List.getElem?_map, hkn]; rfl), .str (t.kids[i]).row.2.1, rfl, rfl, ?_⟩
      rw [decide_eq_true rfl]
      refine ⟨_, sU _ _ eD, ?_, by omega, same_upd s2 nD, ?_⟩
      · rw [List.length_map, List.length_replicate]
        exact small1000 (by omega)
      · rw [upd_same, List.replicate_succ', List.map_append]
        rfl
  · obtain ⟨_, s1, eD⟩ := p
    refine ⟨D, List.replicate (nsV r.2).length true, rfl, SqL.of eD, ?_⟩
    rw [show (List.replicate (nsV r.2).length true).all id = true from List.all_eq_true.mpr fun x hx => by rw [(List.mem_replicate.mp hx).2]; rfl]
    exact q H' s1
def spCrw (CS : Addr) : Sp := fun vs H Q _ => ∃ (s R : Addr) (m : Md) (rs : List Rn) (ts : List Tr), vs = [.ref s, .ref R] ∧ ScAt CS H s m ∧ Good m ∧ RwsT H R rs ∧ Bld m rs ts ∧ 1 ≤ rs.length ∧ rs.length ≤ 200 ∧ ∀ H', Same H H' → Q .non H'
set_option maxHeartbeats 8000000 in
theorem ok_crw {f fi : Addr} {fd fdi : FuncData} (F : Fun K "check_rows" "check_rows" sCrw f fd) (T : TS0 mg) (mM : ∃ t, mg "MOST_ROWS" = some (.int 200 t)) (S : Sch P w K mg base CS)
    (GI : FnOk P w K mg base CX0 4 fi fdi ["schema", "row", "kinds"] (spIrw CS)) (ki : PySem.W.keepIn K (.ref fi) = true) (bI : Binds K fdi ["schema", "row", "kinds"] []) (gI : mg "_is_row" = some (.ref fi)) :
    FnOk P w K mg base CX0 5 f fd ["schema", "rows"] (spCrw CS) := by
  refine F.ok scCrw (fun vs H Q E h => ?_) (fun cv A ou s H vs Q E hr h => ?_)
  · obtain ⟨s, R, m, rs, ts, rfl, _⟩ := h
    rfl
  obtain ⟨sa, R, m, rs, ts, rfl, hs, g, ⟨xs, eR, pR⟩, bd, r1, r200, q⟩ := h
  obtain ⟨Z, _, _, _, ⟨fco, dco, Mco, Fco, bco⟩⟩ := S
  obtain ⟨tM, mM⟩ := mM
  have hr3 : Room 3 (A.deeper (envOfC "check_rows" (defScope sCrw) s.heap.objs.size f cv)) := hr.mono (by decide)
  have lx : xs.length = rs.length := Paired.length pR
  refine ⟨_, pss_cons (ps_if (PW.pt (pw_or (pt_not (pt_val (pe_callB call_isi (by rfl) T.isi boot_isinstance (pa_cons (pv 1) (pa_cons (pe_bltn (v := .ty "tuple") (by rfl) T.tup boot_tuple rfl) pa_nil)))))
        (pw_or1 (pt_not (pt_chain op_le op_le pe_int (pe_callB call_len_seq (by rfl) T.len PySem.boot_len (pa_cons (pv 1) pa_nil)) (pe_glob (v := .int 200) (by rfl) mM ⟨_, rfl⟩)))))) pss_never pss_nil)
    (pss_cons (ps_set (i := 2) scCrw.nd rfl (.inl rfl) (pe_lst pa_nil))
    (pss_one (ps_for PassesOwn.never rfl (pi_enT (by rfl) T.enu (pa_cons (pv 1) pa_nil)) (pg_tup rfl (pgs_cons (pg_name (i := 3) scCrw.nd rfl (.inl rfl)) (pgs_cons (pg_name (i := 4) scCrw.nd rfl (.inl rfl)) pgs_nil)))
      (pss_cons (ps_if (pt_not (pt_val (pe_call GI hr (by rfl) gI ki bI .nil pass0 (pa_cons (pv 0) (pa_cons (pv 4) (pa_cons (pv 2) pa_nil)))))) pss_never pss_nil)
      (pss_one (ps_expr (pe_bm PySem.F.plainAttrs_list PySem.F.slot_list_append PySem.F.type_list_append mt_append (pv 2) (pa_cons (pe_ix ix_tup (pe_meth (pv 0) Z.cls Mco Fco hr3 bco .nil pass0 (pa_cons (pe_ix ix_tup (pv 4) pe_int (fun _ _ => rfl)) pa_nil)) pe_int (fun _ _ => rfl)) pa_nil)))))))), ?_⟩
  refine ⟨.ref R, rfl, .ref R, .ty "tuple", _, _, true, rfl, .ty "tuple", .base (.tup eR), kit_ty (by decide +kernel), _, rfl, iteF ?_⟩
  refine ⟨.ref R, rfl, R, _, rfl, .inr (SqT.of eR), _, _, rfl, rfl, _, rfl, ?_⟩
  rw [decide_eq_true (show (1 : Int) ≤ ((xs.length : Nat) : Int) by omega)]
  refine iteT ⟨_, _, rfl, rfl, _, rfl, ?_⟩
  rw [decide_eq_true (show ((xs.length : Nat) : Int) ≤ 200 by omega)]
  refine iteF ⟨(by show 0 ≤ sizeLine; exact Nat.zero_le _), fun L nL => ?_⟩
  refine ⟨.ref R, rfl, R, _, rfl, SqT.of (same_new nL _ _ eR), for_enT (K := K) (t := R) (xs := xs) (fun i σ H' => ∃ o3 o4 : Option V, σ = [some (.ref sa), some (.ref R), some (.ref L), o3, o4] ∧ Same H H' ∧ H' L = some (.lst (((ts.take i).map (·.row.2.1)).map V.str))) ⟨none, none, rfl, same_new nL, upd_same⟩ (fun i σ H' _ p => ?_) ?_ ?_⟩
  · obtain ⟨_, _, _, s1, _⟩ := p
    exact SqT.of (s1 _ _ eR)
  · rintro i x σ H1 p hx ⟨o3, o4, rfl, s1, eL⟩ np
    obtain ⟨r, hr2, hrow⟩ := par_at pR hx
    have hi : i < rs.length := (List.getElem?_eq_some_iff.mp hr2).1
    have hit : i < ts.length := by rw [← bd.len]; exact hi
    have ht : ts[i]? = some ts[i] := List.getElem?_eq_getElem hit
    obtain ⟨en, ln, kk⟩ := bd.at_ i r _ hr2 ht
    have okt := bd.ok _ (List.mem_of_getElem? ht)
    have s2 : Same H1 (upd H1 p (.tup [.int (i : Nat), x])) := same_new np
    have sA := s1.trans s2
    have hrow1 := RowN.keep hrow sA
    refine ⟨p, _, rfl, SqT.of upd_same, rfl, _, _, rfl, _, _, rfl, rfl, ?_⟩
    refine ⟨.ref sa, rfl, x, rfl, .ref L, rfl, sa, L, x, m, r, ts[i], (ts.take i).map (·.row.2.1), rfl, hs.keep sA, g, hrow1, okt, en, ln, s2 _ _ eL, by rw [List.length_map, List.length_take]; omega, fun j n c e1 e2 => ?_, fun H2 s3 => ⟨true, rfl, iteF ?_⟩⟩
    · obtain ⟨hn, hc⟩ := kk j n c e1 e2
      rw [List.getElem?_map, List.getElem?_take, if_pos hn, hc]
      rfl
    have sB := sA.trans s3
    have eL2 := s3 _ _ (s2 _ _ eL)
    obtain ⟨b, q0, rfl, eb, eq0⟩ := RowN.keep hrow sB
    obtain ⟨o1, o2, o3'⟩ := Tr.ok_iff.mp okt
    obtain ⟨pl, epl⟩ : ∃ pl : Nat, m.rs[pl]? = some ts[i].row := by
      obtain ⟨j, hj, e⟩ := List.getElem_of_mem o1
      exact ⟨j, by rw [List.getElem?_eq_getElem hj, e]⟩
    have ezn : (m.rs.map (·.1))[pl]? = some r.1 := by rw [List.getElem?_map, epl, ← en]; rfl
    obtain ⟨dS, kA, cA, nA, ⟨dp, ea, edp⟩, ak, ac, an⟩ := hs.keep sB
    obtain ⟨ys, eac, pac⟩ := id ac
    obtain ⟨y, ey, vy⟩ := rows_has' pac epl
    obtain ⟨rb, fb, rfl, erb, efb⟩ := id vy
    refine ⟨.ref L, rfl, .inl ⟨rfl, _, SqL.of eL2⟩, .ref sa, rfl, sa, dS, _, rfl, ea, rfl, .ref b, rfl, b, _, _, .str r.1, rfl, rfl, SqT.of eb, rfl, sa, kA, cA, nA, _, ys, r.1, pl, .ref rb, rfl, ⟨dS, _, ⟨dp, ea, edp⟩, an⟩, an, g.rd, ezn, eac, ey, rb, _, _, .str ts[i].row.2.1, rfl, rfl, SqT.of erb, rfl, L, _, _, rfl, rfl, eL2, ?_, _, _, rfl, same_upd sB nL, ?_⟩
    · rw [List.length_map, List.length_map, List.length_take]
      exact small1000 (by omega)
    · rw [upd_same, List.take_add_one, ht, Option.toList_some, List.map_append, List.map_append]
      rfl
  · rintro σ H1 ⟨o3, o4, rfl, s1, _⟩
    exact q H1 s1
theorem nodup_len {α : Type} [DecidableEq α] : ∀ {l l' : List α}, l.Nodup → (∀ x ∈ l, x ∈ l') → l.length ≤ l'.length
  | [], _, _, _ => Nat.zero_le _
  | x :: l, l', h, s => by
    obtain ⟨h1, h2⟩ := List.nodup_cons.mp h
    have hx : x ∈ l' := s x (List.mem_cons_self ..)
    have ih := nodup_len (l := l) (l' := l'.erase x) h2 fun y hy => (List.mem_erase_of_ne (fun e => by rw [e] at hy; exact h1 hy)).mpr (s y (List.mem_cons_of_mem _ hy))
    have e := List.length_erase_of_mem hx
    have p := List.length_pos_of_mem hx
    rw [List.length_cons]
    omega
theorem Bld.post {m : Md} {rs : List Rn} {ts : List Tr} (b : Bld m rs ts) : ∀ (t : Tr) (i : Nat), ts[i]? = some t → ∀ u ∈ t.post, u ∈ ts.take (i + 1) := by
  intro t
  induction t using Tr.ind with
  | h t ih =>
  intro i hi u hu
  rw [Tr.post_eq] at hu
  have hil := (List.getElem?_eq_some_iff.mp hi).1
  rcases List.mem_append.mp hu with h | h
  · obtain ⟨c, hc, hu'⟩ := List.mem_flatMap.mp h
    obtain ⟨j, hj, ej⟩ := List.getElem_of_mem hc
    have er : rs[i]? = some (rs[i]'(by rw [b.len]; exact hil)) := List.getElem?_eq_getElem _
    obtain ⟨_, l2, kk⟩ := b.at_ i _ t er hi
    obtain ⟨hn, hcn⟩ := kk j _ c (List.getElem?_eq_getElem (by rw [l2]; exact hj)) (by rw [List.getElem?_eq_getElem hj, ej])
    have := ih c hc _ hcn u hu'
    exact (List.take_subset_take_left ts (by omega)) this
  · rw [List.mem_singleton.mp h]
    exact List.mem_of_getElem? (i := i) (by rw [List.getElem?_take, if_pos (by omega), hi])
theorem Bld.sub_len {m : Md} {rs : List Rn} {ts : List Tr} (b : Bld m rs ts) {t : Tr} {i : Nat} (h : ts[i]? = some t) : (sub t).length ≤ i + 1 := by
  have := nodup_len (l := sub t) (l' := ts.take (i + 1)) (sub_nd t) fun u hu => b.post t i h u (by
    rcases mem_addAll.mp hu with h | h
    · cases h
    · exact h)
  rw [List.length_take] at this
  omega
end
end Ks
/-! names: k02 _law_words -/
set_option Elab.async false
set_option linter.all false
set_option maxRecDepth 100000
set_option maxHeartbeats 4000000
namespace Ks
open PySem PySem.Spec PyProof.Rows L2 Gd Kx
abbrev sWds : Stmt := Kx.topS 53
abbrev sMdl : Stmt := Kx.topS 54
theorem scWds : FnScope ["_law_deal_here", "_law_many", "_law_found", "_law_k"] ["_law_deal_here", "_law_many"] (defScope sWds) := ⟨rfl, rfl, rfl, by decide +kernel, rfl, by decide +kernel, by decide +kernel⟩
section
variable {P : Program} {w : World} {K : PySem.W.Frag} {mg : Str → Option Value} {base : Heap}
def spWds : Sp := fun vs H Q _ => ∃ (p : Addr) (n : Nat), vs = [.ref p, .int (n : Nat)] ∧ DealAt H p ∧ n ≤ 40 ∧
  ∀ (q : Addr) (ts : List Str) (H' : Hp), DealAt H' p → Sb p H H' → H q = none → q ≠ p → H' q = some (.lst (ts.map V.str)) → (∀ z ∈ ts, nmS z = true) → ts.Nodup → ts.length = n → Q (.ref q) H'
theorem ok_wds {f fw : Addr} {fd fdw : FuncData} (F : Fun K "_law_words" "_law_words" sWds f fd) (mr : mg "range" = none)
    (GW : FnOk P w K mg base CX0 2 fw fdw ["_law_deal_here", "_law_taken"] spWord) (kw : PySem.W.keepIn K (.ref fw) = true) (bW : Binds K fdw ["_law_deal_here", "_law_taken"] []) (gW : mg "_law_word" = some (.ref fw)) : FnOk P w K mg base CX0 3 f fd ["_law_deal_here", "_law_many"] spWds := by
  refine F.ok scWds (fun vs H Q E h => ?_) (fun cv A ou s H vs Q E hr h => ?_)
  · obtain ⟨p, n, rfl, _⟩ := h
    rfl
  obtain ⟨p, n, rfl, hD, hn, k⟩ := h
  refine ⟨_, pss_cons (ps_set (i := 2) scWds.nd rfl (.inl rfl) (pe_lst pa_nil))
    (pss_cons (ps_for PassesOwn.never rfl (pi_range1 rfl mr (pa_cons (pv 1) pa_nil)) (pg_name (i := 3) scWds.nd rfl (.inl rfl))
      (pss_one (ps_expr (pe_bm PySem.F.plainAttrs_list PySem.F.slot_list_append PySem.F.type_list_append mt_append (pv 2) (pa_cons (pe_call GW hr (by rfl) gW kw bW .nil pass0 (pa_cons (pv 0) (pa_cons (pv 2) pa_nil))) pa_nil)))))
    (pss_one (ps_ret (pv 2)))), ?_⟩
  refine ⟨(by show 0 ≤ sizeLine; exact Nat.zero_le _), fun L nL => ?_⟩
  have Lp : L ≠ p := by
    obtain ⟨_, _, _, e, _⟩ := hD
    exact fun e2 => by rw [e2, e] at nL; cases nL
  refine ⟨_, rfl, _, rfl, ?_, ?_, for_range (n := n) (fun i σ H' => ∃ (o3 : Option V) (ts : List Str), σ = [some (.ref p), some (.int (n : Nat)), some (.ref L), o3] ∧ DealAt H' p ∧ Sb p H H' ∧ H' L = some (.lst (ts.map V.str)) ∧ (∀ z ∈ ts, nmS z = true) ∧ ts.Nodup ∧ ts.length = i)
    ⟨none, [], rfl, hD.keep (same_new nL), Sb.new nL, upd_same, fun z hz => (by cases hz), .nil, rfl⟩ ?_ ?_⟩
  · omega
  · omega
  · rintro i σ H1 hi ⟨o3, ts, rfl, D1, b1, eL, hz, nd, hl⟩
    refine ⟨.ref L, rfl, .inl ⟨rfl, _, SqL.of eL⟩, .ref p, rfl, .ref L, rfl, p, L, ts, rfl, D1, eL, Lp, by omega, fun z H2 nz ni D2 b2 => ?_⟩
    have eL2 := b2 L _ Lp eL
    refine ⟨L, _, _, rfl, rfl, eL2, ?_, some (.int (0 + (i : Int))), ts ++ [z], rfl, ?_, ?_, ?_, ?_, ?_, ?_⟩
    · rw [List.length_map]
      exact small1000 (by omega)
    · obtain ⟨x, y, c, e, l⟩ := D2
      exact ⟨x, y, c, by rw [upd_ne (fun e2 => Lp e2.symm)]; exact e, l⟩
    · intro b o nb e
      rw [upd_ne (ne_of_none e nL)]
      exact b2 b o nb (b1 b o nb e)
    · rw [upd_same, List.map_append]
      rfl
    · intro x hx
      rcases List.mem_append.mp hx with m | m
      · exact hz x m
      · rw [List.mem_singleton.mp m]
        exact nz
    · rw [List.nodup_append]
      exact ⟨nd, List.nodup_cons.mpr ⟨by simp, .nil⟩, fun x hx y hy e => ni (by rw [List.mem_singleton.mp hy] at e; rw [← e]; exact hx)⟩
    · rw [List.length_append, hl]
      rfl
  · rintro σ H1 ⟨o3, ts, rfl, D1, b1, eL, hz, nd, hl⟩
    exact ⟨.ref L, rfl, k L ts H1 D1 b1 nL Lp eL hz nd hl⟩
end
end Ks
/-! names: k02 _law_model -/
set_option Elab.async false
set_option linter.all false
set_option maxRecDepth 100000
set_option maxHeartbeats 4000000
namespace Ks
open PySem PySem.Spec PyProof.Rows L2 Gd Kx
theorem scMdl : FnScope ["_law_deal_here", "_law_many", "_law_words_here", "_law_kinds", "_law_k", "_law_rows_here", "_law_size_here", "_law_fields", "_law_at", "_law_turn"] ["_law_deal_here"] (defScope sMdl) := ⟨rfl, rfl, rfl, by decide +kernel, rfl, by decide +kernel, by decide +kernel⟩
/-- what a changed deal leaves -/
theorem deal_ne {H : Hp} {p b : Addr} {xs : List V} (D : DealAt H p) (e : H b = some (.tup xs)) : b ≠ p := by
  obtain ⟨_, _, _, ep, _⟩ := D
  exact fun z => by rw [z, ep] at e; cases e
theorem RowV.sb {H H' : Hp} {p : Addr} {x : V} {r : Rw} (h : RowV H x r) (D : DealAt H p) (s : Sb p H H') : RowV H' x r := by
  obtain ⟨b, f, e, h1, h2⟩ := h
  have h2' : H f = some (.tup (r.2.2.map V.str)) := h2
  exact ⟨b, f, e, s _ _ (deal_ne D h1) h1, s _ _ (deal_ne D h2') h2'⟩
theorem RowV.but {H H' : Hp} {R : Addr} {x : V} {r : Rw} {ys : List V} (h : RowV H x r) (e : H R = some (.lst ys)) (s : Sb R H H') : RowV H' x r := by
  obtain ⟨b, f, ex, h1, h2⟩ := h
  have h2' : H f = some (.tup (r.2.2.map V.str)) := h2
  exact ⟨b, f, ex, s _ _ (fun z => by rw [z, e] at h1; cases h1) h1, s _ _ (fun z => by rw [z, e] at h2'; cases h2') h2'⟩
theorem cut_drop {xs : List V} {i : Nat} (h : i ≤ xs.length) : cutV xs (some (i : Int)) none = xs.drop i := by
  unfold cutV
  rw [HT.sIx_none, HT.sIx_nat, Nat.min_eq_left h, List.take_of_length_le (by rw [List.length_drop]; omega)]
theorem turned {α : Type} (l : List α) (d : Nat) : (l.drop d ++ l.take d).Perm l := by
  have h := List.perm_append_comm (l₁ := l.drop d) (l₂ := l.take d)
  rw [List.take_append_drop] at h
  exact h
theorem paired_app {H : Hp} : ∀ {xs ys : List V} {rs ss : List Rw}, Paired (RowV H) xs rs → Paired (RowV H) ys ss → Paired (RowV H) (xs ++ ys) (rs ++ ss)
  | _, _, _, _, .nil, h => h
  | _, _, _, _, .cons a t, h => .cons a (paired_app t h)
theorem paired_drop {H : Hp} : ∀ (n : Nat) {xs : List V} {rs : List Rw}, Paired (RowV H) xs rs → Paired (RowV H) (xs.drop n) (rs.drop n)
  | 0, _, _, h => h
  | n + 1, _, _, .nil => .nil
  | n + 1, _, _, .cons a t => paired_drop n t
theorem paired_take {H : Hp} : ∀ (n : Nat) {xs : List V} {rs : List Rw}, Paired (RowV H) xs rs → Paired (RowV H) (xs.take n) (rs.take n)
  | 0, _, _, h => .nil
  | n + 1, _, _, .nil => .nil
  | n + 1, _, _, .cons a t => .cons a (paired_take n t)
/-- a model at a -/
def MdAt (H : Hp) (a : Addr) (m : Md) : Prop := ∃ k r : Addr, H a = some (.tup [.ref k, .ref r]) ∧ StT H k m.ks ∧ RowsT H r m.rs
theorem MdAt.keep {H H' : Hp} {a : Addr} {m : Md} (h : MdAt H a m) (s : Same H H') : MdAt H' a m := by
  obtain ⟨k, r, e, h1, h2⟩ := h
  exact ⟨k, r, s _ _ e, s _ _ h1, h2.keep s⟩
/-- the rows so far, named from the fourth word on -/
structure RInv (ks ts : List Str) (rs : List Rw) : Prop where
  ok : ∀ r ∈ rs, RwOk ks r
  nm : rs.map (·.1) = (ts.drop 3).take rs.length
theorem paired_snoc {H : Hp} : ∀ {xs : List V} {rs : List Rw} {x : V} {r : Rw}, Paired (RowV H) xs rs → RowV H x r → Paired (RowV H) (xs ++ [x]) (rs ++ [r])
  | _, _, _, _, .nil, h => .cons h .nil
  | _, _, _, _, .cons a t, h => .cons a (paired_snoc t h)
theorem RInv.snoc {ks ts : List Str} {rs : List Rw} {r : Rw} (h : RInv ks ts rs) (g : RwOk ks r) (e : (ts.drop 3)[rs.length]? = some r.1) : RInv ks ts (rs ++ [r]) := by
  refine ⟨fun x hx => ?_, ?_⟩
  · rcases List.mem_append.mp hx with m | m
    · exact h.ok x m
    · rw [List.mem_singleton.mp m]
      exact g
  · rw [List.map_append, h.nm, List.length_append, List.length_singleton, List.take_add_one, e]
    rfl
section
variable {P : Program} {w : World} {K : PySem.W.Frag} {mg : Str → Option Value} {base : Heap}
def spMdl : Sp := fun vs H Q _ => ∃ p : Addr, vs = [.ref p] ∧ DealAt H p ∧ ∀ (a : Addr) (m : Md) (H' : Hp), DealAt H' p → Sb p H H' → Good m → MdAt H' a m → Q (.ref a) H'
/-- its rows are a tuple that is known -/
def KnM (H : Hp) (a : Addr) : Prop := ∃ (k r : Addr) (xs : List V), H a = some (.tup [.ref k, .ref r]) ∧ FzT H r xs
def spMdlF : Sp := fun vs H Q _ => ∃ p : Addr, vs = [.ref p] ∧ DealAt H p ∧ ∀ (a : Addr) (m : Md) (H' : Hp), DealAt H' p → Sb p H H' → Good m → MdAt H' a m → KnM H' a → Q (.ref a) H'
theorem ok_mdlF {f fp fw : Addr} {fd fdp fdw : FuncData} (F : Fun K "_law_model" "_law_model" sMdl f fd) (mr : mg "range" = none) (mt : mg "tuple" = none) (ml : mg "len" = none)
    (GP : FnOk P w K mg base CX0 1 fp fdp ["_law_deal_here", "_law_many"] spPick) (kp : PySem.W.keepIn K (.ref fp) = true) (bP : Binds K fdp ["_law_deal_here", "_law_many"] []) (gP : mg "_law_pick" = some (.ref fp))
    (GW : FnOk P w K mg base CX0 3 fw fdw ["_law_deal_here", "_law_many"] spWds) (kw : PySem.W.keepIn K (.ref fw) = true) (bW : Binds K fdw ["_law_deal_here", "_law_many"] []) (gW : mg "_law_words" = some (.ref fw)) :
    FnOk P w K mg base CX0 4 f fd ["_law_deal_here"] spMdlF := by
  refine F.ok scMdl (fun vs H Q E h => ?_) (fun cv A ou s H vs Q E hr h => ?_)
  · obtain ⟨p, rfl, _⟩ := h
    rfl
  obtain ⟨p, rfl, hD, k⟩ := h
  have hr1 : Room 1 (A.deeper (envOfC "_law_model" (defScope sMdl) s.heap.objs.size f cv)) := hr.mono (by decide)
  refine ⟨_, pss_cons (ps_asg (pe_tup (pa_cons (pe_op op_add pe_int (pe_call GP hr1 (by rfl) gP kp bP .nil pass0 (pa_cons (pv 0) (pa_cons pe_int pa_nil))))
      (pa_cons (pe_call GW hr (by rfl) gW kw bW .nil pass0 (pa_cons (pv 0) (pa_cons pe_int pa_nil))) pa_nil))) (pg_tup (by rfl) (pgs_cons (pg_name (i := 1) scMdl.nd rfl (.inr rfl)) (pgs_cons (pg_name (i := 2) scMdl.nd rfl (.inr rfl)) pgs_nil))))
    (pss_cons (ps_set (i := 3) scMdl.nd rfl (.inr rfl) (pe_tupleOf (by rfl) mt (pe_slice sl_list (pv 2) po_none (po_some (pv 1)))))
    (pss_cons (ps_setLc (i := 5) (own := [("_law_k", 4)]) (g := gName 4) (tt := tYes) (by rfl) scMdl.nd rfl rfl (sw_true rfl rfl rfl (by decide +kernel)) (pi_range1 rfl mr (pa_cons (pv 1) pa_nil))
        (blkOk_by (own := [("_law_k", 4)]) (N := ["_law_deal_here", "_law_many", "_law_words_here", "_law_kinds", "_law_k", "_law_rows_here", "_law_size_here", "_law_fields", "_law_at", "_law_turn"]) (sc := defScope sMdl) (by decide +kernel))
        (fun _ _ _ _ _ => pg_name (i := 4) scMdl.nd rfl (Or.inl rfl)) (fun _ _ _ _ _ => pts_nil)
        (fun _ _ _ _ _ => asTE (te := tTup (tCons (tOp (rIxL K) (tVar 2) (tOp (rI0 fun i j => .int (i + j)) (tC (.int 3)) (tVar 4))) (tCons (tOp (rIxT K) (tVar 3) (tVar 4)) (tCons (tTup tNil) tNil)))) (pe_tup (pa_cons (pe_ix ix_list (pv 2) (pe_op op_add pe_int (pv 4)) (fun _ _ => rfl)) (pa_cons (pe_ix ix_tup (pv 3) (pv 4) (fun _ _ => rfl)) (pa_cons (pe_tup pa_nil) pa_nil)))) rfl))
    (pss_cons (ps_for PassesOwn.never rfl (pi_range1 rfl mr (pa_cons (pe_op op_add pe_int (pe_call GP hr1 (by rfl) gP kp bP .nil pass0 (pa_cons (pv 0) (pa_cons pe_int pa_nil)))) pa_nil)) (pg_name (i := 4) scMdl.nd rfl (.inl rfl))
      (pss_cons (ps_set (i := 6) scMdl.nd rfl (.inl rfl) (pe_ix ix_list (pe_lst (pa_cons pe_int (pa_cons pe_int (pa_cons pe_int (pa_cons pe_int pa_nil))))) (pe_call GP hr1 (by rfl) gP kp bP .nil pass0 (pa_cons (pv 0) (pa_cons pe_int pa_nil))) (fun _ _ => rfl)))
      (pss_cons (ps_set (i := 7) scMdl.nd rfl (.inl rfl) (pe_tupleOf (by rfl) mt (pe_lc (own := [("_law_turn", 9)]) (g := gName 9) (tt := tYes) rfl scMdl.nd (pi_range1 rfl mr (pa_cons (pv 6) pa_nil)) (blkOk_by (own := [("_law_turn", 9)]) (N := ["_law_deal_here", "_law_many", "_law_words_here", "_law_kinds", "_law_k", "_law_rows_here", "_law_size_here", "_law_fields", "_law_at", "_law_turn"]) (sc := defScope sMdl) (by decide +kernel))
          (fun _ _ _ _ _ => pg_name (i := 9) scMdl.nd rfl (Or.inl rfl)) (fun _ _ _ _ _ => pts_nil) (fun _ _ _ _ _ => asTE (te := tOp (rIxT K) (tVar 3) (tCall spPick [] E0 (tCons (tVar 0) (tCons (tVar 1) tNil)))) (pe_ix ix_tup (pv 3) (pe_call GP hr1 (by rfl) gP kp bP .nil pass0 (pa_cons (pv 0) (pa_cons (pv 1) pa_nil))) (fun _ _ => rfl)) rfl))))
      (pss_one (ps_expr (pe_bm PySem.F.plainAttrs_list PySem.F.slot_list_append PySem.F.type_list_append mt_append (pv 5) (pa_cons (pe_tup (pa_cons (pe_ix ix_list (pv 2) (pe_op op_add (pe_op op_add pe_int (pv 1)) (pv 4)) (fun _ _ => rfl)) (pa_cons (pe_ix ix_tup (pv 3) (pe_call GP hr1 (by rfl) gP kp bP .nil pass0 (pa_cons (pv 0) (pa_cons (pv 1) pa_nil))) (fun _ _ => rfl)) (pa_cons (pv 7) pa_nil)))) pa_nil)))))))
    (pss_cons (ps_set (i := 8) scMdl.nd rfl (.inl rfl) (pe_call GP hr1 (by rfl) gP kp bP .nil pass0 (pa_cons (pv 0) (pa_cons (pe_callB call_len_seq (by rfl) ml PySem.boot_len (pa_cons (pv 5) pa_nil)) pa_nil))))
    (pss_one (ps_ret (pe_tup (pa_cons (pv 3) (pa_cons (pe_tupF (by rfl) mt (pe_op op_cat (pe_slice sl_list (pv 5) (po_some (pv 8)) po_none) (pe_slice sl_list (pv 5) po_none (po_some (pv 8))))) pa_nil))))))))), ?_⟩
  refine seq_join (fun σ G => ∃ (n : Nat) (q : Addr) (ts : List Str), 1 ≤ n ∧ n ≤ 3 ∧ σ = [some (.ref p), some (.int (n : Nat)), some (.ref q), none, none, none, none, none, none, none] ∧ DealAt G p ∧ Sb p H G ∧ q ≠ p ∧ G q = some (.lst (ts.map V.str)) ∧ (∀ z ∈ ts, nmS z = true) ∧ ts.Nodup ∧ ts.length = 9) ?_ fun rest => ?_
  rotate_left
  · refine ⟨.ref p, rfl, p, 3, rfl, hD, by decide, by decide, fun d1 H1 l1 u1 D1 b1 => ⟨_, _, rfl, rfl, .ref p, rfl, p, 9, rfl, D1, by decide, fun q ts H2 D2 b2 nq qp eq hz nd hl => ⟨(by show 2 ≤ sizeLine; decide), fun T nT => ?_⟩⟩⟩
    refine ⟨T, _, rfl, SqT.of upd_same, rfl, _, _, rfl, _, _, rfl, rfl, ?_⟩
    have sT : Same H2 (upd H2 T (.tup [.int (1 + d1), .ref q])) := same_new nT
    refine rest _ _ ⟨(1 + d1).toNat, q, ts, by omega, by omega, ?_, D2.keep sT, b1.trans (b2.trans (.of sT)), qp, sT _ _ eq, hz, nd, hl⟩
    rw [Int.toNat_of_nonneg (by omega)]
    rfl
  rintro σ G ⟨n, q, ts, n1, n3, rfl, DG, bG, qp, eq, hz, nd, hl⟩
  -- the kinds
  refine seq_join (fun σ G' => ∃ kA : Addr, σ = [some (.ref p), some (.int (n : Nat)), some (.ref q), some (.ref kA), none, none, none, none, none, none] ∧ Same G G' ∧ StT G' kA (ts.take n)) ?_ fun rest => ?_
  rotate_left
  · refine ⟨.ref q, rfl, .int (n : Nat), rfl, _, rfl, q, _, rfl, SqL.of eq, fun c nc => ?_⟩
    rw [cut_take (by rw [List.length_map]; omega), ← List.map_take]
    refine .inl ⟨c, _, rfl, SqL.of upd_same, fun kA nk => rest _ _ ⟨kA, rfl, (same_new nc).trans (same_new nk), upd_same⟩⟩
  rintro σ G1 ⟨kA, rfl, s1, ek⟩
  have D1 := DG.keep s1
  have eq1 := s1 _ _ eq
  have b1 := bG.trans (.of s1)
  have hk : ∀ j, j < n → ∃ z, (ts.take n)[j]? = some z ∧ ts[j]? = some z := fun j hj => by
    have : j < ts.length := by omega
    exact ⟨ts[j], by rw [List.getElem?_take, if_pos hj, List.getElem?_eq_getElem this], List.getElem?_eq_getElem this⟩
  clear s1 eq DG bG
  -- a row without fields for each kind
  refine seq_join (fun σ G' => ∃ (R : Addr) (xs : List V) (rs : List Rw), σ = [some (.ref p), some (.int (n : Nat)), some (.ref q), some (.ref kA), none, some (.ref R), none, none, none, none] ∧ Same G1 G' ∧ G1 R = none ∧ G' R = some (.lst xs) ∧ Paired (RowV G') xs rs ∧ RInv (ts.take n) ts rs ∧ rs.length = n ∧ ∀ j, j < n → ∃ r, rs[j]? = some r ∧ ts[j]? = some r.2.1 ∧ r.2.2 = []) ?_ fun rest => ?_
  rotate_left
  · refine ⟨.int (n : Nat), rfl, _, rfl, ?_, ?_, fun R nR => lc_rangeY (n := n) (fun i H' => Same G1 H' ∧ ∃ (xs : List V) (rs : List Rw), H' R = some (.lst xs) ∧ Paired (RowV H') xs rs ∧ RInv (ts.take n) ts rs ∧ rs.length = i ∧ ∀ j, j < i → ∃ r, rs[j]? = some r ∧ ts[j]? = some r.2.1 ∧ r.2.2 = [])
      (fun _ => rfl) ⟨same_new nR, [], [], upd_same, .nil, ⟨fun r hr => (by cases hr), rfl⟩, rfl, fun j hj => (by omega)⟩ ?_ ?_⟩
    · omega
    · omega
    · rintro i H' hi ⟨s2, xs, rs, eR, hp, ri, li, nu⟩
      have e3 : ∃ w3, ts[3 + i]? = some w3 := ⟨_, List.getElem?_eq_getElem (by omega)⟩
      obtain ⟨w3, e3⟩ := e3
      obtain ⟨zi, ez, ez2⟩ := hk i hi
      have c0 : (0 : Int) + (i : Int) = ((i : Nat) : Int) := by omega
      have c3 : (3 : Int) + ((0 : Int) + (i : Int)) = ((3 + i : Nat) : Int) := by omega
      refine ⟨.ref q, rfl, .int (0 + (i : Int)), rfl, _, _, rfl, rfl, q, _, _, .str w3, rfl, rfl, SqL.of (s2 _ _ eq1), ?_, .ref kA, rfl, .int (0 + (i : Int)), rfl, kA, _, _, .str zi, rfl, rfl, SqT.of (s2 _ _ ek), ?_, ⟨(by show 0 ≤ sizeLine; exact Nat.zero_le _), fun U nU => ⟨(by show 3 ≤ sizeLine; decide), fun B nB => ?_⟩⟩⟩
      · rw [c3]
        exact atI_nat (by rw [List.getElem?_map, e3]; rfl)
      · rw [c0]
        exact atI_nat (by rw [List.getElem?_map, ez]; rfl)
      have sU : Same H' (upd H' U (.tup [])) := same_new nU
      have sB : Same (upd H' U (.tup [])) (upd (upd H' U (.tup [])) B (.tup [.str w3, .str zi, .ref U])) := same_new nB
      have s4 := sU.trans sB
      have eR4 := s4 _ _ eR
      have RU : U ≠ R := fun e => by rw [e, eR] at nU; cases nU
      have RB : B ≠ R := fun e => by rw [e, sU _ _ eR] at nB; cases nB
      have lx : xs.length = rs.length := Paired.length hp
      refine ⟨xs, eR4, small1000 (by omega), same_upd (s2.trans s4) nR, xs ++ [.ref B], rs ++ [(w3, zi, [])], upd_same, paired_snoc (Paired.mapP hp fun x r z => (RowV.keep z s4).but eR4 .set) ⟨B, U, rfl, ?_, ?_⟩, ri.snoc ⟨hz _ (List.mem_of_getElem? e3), List.mem_of_getElem? ez, Nat.zero_le _, fun x hx => (by cases hx)⟩ ?_, ?_, fun j hj => ?_⟩
      · rw [upd_ne RB, upd_same]
      · show upd _ R _ U = _
        rw [upd_ne RU]
        exact sB _ _ upd_same
      · rw [List.getElem?_drop, li]
        exact e3
      · rw [List.length_append, li]
        rfl
      · by_cases hji : j < i
        · obtain ⟨r, er, e1, e2⟩ := nu j hji
          exact ⟨r, by rw [List.getElem?_append_left (by omega)]; exact er, e1, e2⟩
        · have ej : j = rs.length := by omega
          subst ej
          exact ⟨(w3, zi, []), by rw [List.getElem?_append_right (Nat.le_refl _), Nat.sub_self]; rfl, by rw [li]; exact ez2, rfl⟩
    · rintro H' ⟨s2, xs, rs, eR, hp, ri, li, nu⟩
      exact rest _ _ ⟨R, xs, rs, rfl, s2, nR, eR, hp, ri, li, nu⟩
  rintro σ G2 ⟨R, xs, rs, rfl, s2, nR, eR, hp, ri, li, nu⟩
  have Rp : R ≠ p := by
    obtain ⟨_, _, _, e, _⟩ := D1
    exact fun z => by rw [z, e] at nR; cases nR
  have nR0 : H R = none := b1.free Rp nR
  have qR : q ≠ R := fun z => by rw [z, nR] at eq1; cases eq1
  have D2 := D1.keep s2
  have b2 := b1.trans (.of s2)
  have eq2 := s2 _ _ eq1
  have ek2 : StT G2 kA (ts.take n) := s2 _ _ ek
  clear s2 nR eq1 ek D1 b1 hk
  have kp0 : ∀ {H' : Hp}, DealAt H' p → StT H' kA (ts.take n) → kA ≠ p := fun D e => deal_ne D e
  -- further rows
  refine seq_join (fun σ G' => ∃ (o4 o6 o7 : Option V) (xs : List V) (rs : List Rw), σ = [some (.ref p), some (.int (n : Nat)), some (.ref q), some (.ref kA), o4, some (.ref R), o6, o7, none, none] ∧ DealAt G' p ∧ Sb p H G' ∧ StT G' kA (ts.take n) ∧ G' R = some (.lst xs) ∧ Paired (RowV G') xs rs ∧ RInv (ts.take n) ts rs ∧ rs.length ≤ 6 ∧ n ≤ rs.length ∧ ∀ j, j < n → ∃ r, rs[j]? = some r ∧ ts[j]? = some r.2.1 ∧ r.2.2 = []) ?_ fun rest => ?_
  rotate_left
  · refine ⟨.ref p, rfl, p, 3, rfl, D2, by decide, by decide, fun d2 H3 l2 u2 D3 b3 => ⟨_, _, rfl, rfl, _, rfl, ?_, ?_, for_range (n := (1 + d2).toNat) (fun i σ H' => ∃ (o4 o6 o7 : Option V) (xs : List V) (rs : List Rw), σ = [some (.ref p), some (.int (n : Nat)), some (.ref q), some (.ref kA), o4, some (.ref R), o6, o7, none, none] ∧ DealAt H' p ∧ Sb p H H' ∧ H' q = some (.lst (ts.map V.str)) ∧ StT H' kA (ts.take n) ∧ H' R = some (.lst xs) ∧ Paired (RowV H') xs rs ∧ RInv (ts.take n) ts rs ∧ rs.length = n + i ∧ ∀ j, j < n → ∃ r, rs[j]? = some r ∧ ts[j]? = some r.2.1 ∧ r.2.2 = [])
      ⟨none, none, none, xs, rs, rfl, D3, b2.trans b3, b3 _ _ qp eq2, b3 _ _ (kp0 D2 ek2) ek2, b3 _ _ Rp eR, Paired.mapP hp fun x r z => RowV.sb z D2 b3, ri, li, nu⟩ ?_ ?_⟩⟩
    · omega
    · omega
    · clear eR hp ri li nu eq2 ek2
      rintro i σ H4 hi ⟨o4, o6, o7, xs, rs, rfl, D4, b4, eq4, ek4, eR, hp, ri, li, nu⟩
      refine ⟨(by show 4 ≤ sizeLine; decide), fun L nL => ⟨.ref p, rfl, p, 4, rfl, D4.keep (same_new nL), by decide, by decide, fun d5 H5 l5 u5 D5 b5 => ?_⟩⟩
      have s5 : Same H4 (upd H4 L (.lst [V.int 1, .int 2, .int 2, .int 3])) := same_new nL
      have Lp : L ≠ p := by
        obtain ⟨_, _, _, e, _⟩ := D4
        exact fun z => by rw [z, e] at nL; cases nL
      obtain ⟨sN, esN, hs3⟩ : ∃ sN : Nat, ([V.int 1, .int 2, .int 2, .int 3])[d5.toNat]? = some (V.int sN) ∧ sN ≤ 3 := by
        have : d5 = 0 ∨ d5 = 1 ∨ d5 = 2 ∨ d5 = 3 := by omega
        rcases this with rfl | rfl | rfl | rfl
        · exact ⟨1, rfl, by omega⟩
        · exact ⟨2, rfl, by omega⟩
        · exact ⟨2, rfl, by omega⟩
        · exact ⟨3, rfl, by omega⟩
      refine ⟨L, _, d5, .int sN, rfl, rfl, SqL.of (b5 L _ Lp upd_same), at_of (j := d5.toNat) (by omega) esN, ?_⟩
      have b45 : Sb p H4 H5 := (Sb.of s5).trans b5
      have kp : kA ≠ p := kp0 D4 ek4
      have eq5 := b45 _ _ qp eq4
      have ek5 : StT H5 kA (ts.take n) := b45 _ _ kp ek4
      have eR5 := b45 _ _ Rp eR
      have hp5 := Paired.mapP hp fun x r z => RowV.sb z D4 b45
      have b5' := b4.trans b45
      clear b45 b5 s5 nL eR ek4 eq4 hp D4 b4 esN
      -- the fields
      refine ⟨.int sN, rfl, _, rfl, ?_, ?_, fun D nD => lc_rangeY (n := sN) (fun j H' => DealAt H' p ∧ Sb p H5 H' ∧ ∃ fs : List Str, H' D = some (.lst (fs.map V.str)) ∧ fs.length = j ∧ ∀ x ∈ fs, x ∈ ts.take n) (fun _ => rfl)
        ⟨D5.keep (same_new nD), Sb.new nD, [], upd_same, rfl, fun x hx => (by cases hx)⟩ ?_ ?_⟩
      · omega
      · omega
      · rintro j H6 hj ⟨D6, b6, fs, eD, lf, hf⟩
        have Dp : D ≠ p := by
          obtain ⟨_, _, _, e, _⟩ := D6
          exact fun z => by rw [z, e] at eD; obtain ⟨_, _, _, e5, _⟩ := D5; rw [z, e5] at nD; cases nD
        refine ⟨.ref kA, rfl, .ref p, rfl, .int (n : Nat), rfl, p, n, rfl, D6, by omega, by omega, fun d7 H7 l7 u7 D7 b7 => ?_⟩
        have hd : d7.toNat < (ts.take n).length := by rw [List.length_take]; omega
        refine ⟨kA, _, d7, .str (ts.take n)[d7.toNat], rfl, rfl, SqT.of (b7 _ _ kp (b6 _ _ kp ek5)), at_of (j := d7.toNat) (by omega) (by rw [List.getElem?_map, List.getElem?_eq_getElem hd]; rfl), _, b7 _ _ Dp eD, ?_, ?_, ?_, fs ++ [(ts.take n)[d7.toNat]], ?_, ?_, ?_⟩
        · rw [List.length_map]
          exact small1000 (by omega)
        · obtain ⟨x, y, u, e, l⟩ := D7
          exact ⟨x, y, u, by rw [upd_ne Dp.symm]; exact e, l⟩
        · intro b o nb e
          rw [upd_ne (ne_of_none e nD)]
          exact b7 b o nb (b6 b o nb e)
        · rw [upd_same, List.map_append]
          rfl
        · rw [List.length_append, lf]
          rfl
        · intro x hx
          rcases List.mem_append.mp hx with m | m
          · exact hf x m
          · rw [List.mem_singleton.mp m]
            exact List.getElem_mem hd
      · rintro H6 ⟨D6, b6, fs, eD, lf, hf⟩
        refine .inl ⟨D, _, rfl, SqL.of eD, fun fA nf => ?_⟩
        have s7 : Same H6 (upd H6 fA (.tup (fs.map V.str))) := same_new nf
        have efA : upd H6 fA (.tup (fs.map V.str)) fA = some (.tup (fs.map V.str)) := upd_same
        have D7 := D6.keep s7
        have b57 : Sb p H5 (upd H6 fA (.tup (fs.map V.str))) := b6.trans (.of s7)
        revert efA D7 b57
        generalize upd H6 fA (.tup (fs.map V.str)) = H7
        intro efA D7 b57
        have eR7 := b57 _ _ Rp eR5
        obtain ⟨wn, ewn⟩ : ∃ wn, ts[3 + n + i]? = some wn := ⟨_, List.getElem?_eq_getElem (by omega)⟩
        refine ⟨.ref R, rfl, .inl ⟨rfl, _, SqL.of eR7⟩, .ref q, rfl, .int (n : Nat), rfl, _, _, rfl, rfl, .int (0 + (i : Int)), rfl, _, _, rfl, rfl, q, _, _, .str wn, rfl, rfl, SqL.of (b57 _ _ qp eq5), ?_, .ref kA, rfl, .ref p, rfl, .int (n : Nat), rfl, p, n, rfl, D7, by omega, by omega, fun d8 H8 l8 u8 D8 b8 => ?_⟩
        · rw [show (3 : Int) + (n : Nat) + (0 + (i : Int)) = ((3 + n + i : Nat) : Int) by omega]
          exact atI_nat (by rw [List.getElem?_map, ewn]; rfl)
        have hd : d8.toNat < (ts.take n).length := by rw [List.length_take]; omega
        have b58 := b57.trans b8
        have fp' : fA ≠ p := deal_ne D7 efA
        have efA8 := b8 _ _ fp' efA
        have eR8 := b58 _ _ Rp eR5
        refine ⟨kA, _, d8, .str (ts.take n)[d8.toNat], rfl, rfl, SqT.of (b58 _ _ kp ek5), at_of (j := d8.toNat) (by omega) (by rw [List.getElem?_map, List.getElem?_eq_getElem hd]; rfl), .ref fA, rfl, ⟨(by show 3 ≤ sizeLine; decide), fun B nB => ?_⟩⟩
        have sB : Same H8 (upd H8 B (.tup [.str wn, .str (ts.take n)[d8.toNat], .ref fA])) := same_new nB
        have RB : B ≠ R := fun z => by rw [z, eR8] at nB; cases nB
        have RfA : fA ≠ R := fun z => by rw [z, eR8] at efA8; cases efA8
        have eR9 := sB _ _ eR8
        have lx : xs.length = rs.length := Paired.length hp5
        refine ⟨R, _, _, rfl, rfl, eR9, small1000 (by omega), some (.int (0 + (i : Int))), _, _, xs ++ [.ref B], rs ++ [(wn, (ts.take n)[d8.toNat], fs)], rfl, ?_, ?_, ?_, ?_, upd_same, paired_snoc (Paired.mapP hp5 fun x r z => ((RowV.sb z D5 b58).keep sB).but eR9 .set) ⟨B, fA, rfl, ?_, ?_⟩, ri.snoc ⟨hz _ (List.mem_of_getElem? ewn), List.getElem_mem hd, (by show fs.length ≤ 3; omega), hf⟩ ?_, ?_, fun j hj => ?_⟩
        · obtain ⟨x, y, u, e, l⟩ := D8.keep sB
          exact ⟨x, y, u, by rw [upd_ne Rp.symm]; exact e, l⟩
        · intro b o nb e
          rw [upd_ne (ne_of_none e nR0)]
          exact sB _ _ (b58 b o nb (b5' b o nb e))
        · rw [upd_ne qR]
          exact sB _ _ (b58 _ _ qp eq5)
        · show upd _ R _ kA = _
          rw [upd_ne (fun z => by have e : H5 kA = _ := ek5; rw [z, eR5] at e; cases e)]
          exact sB _ _ (b58 _ _ kp ek5)
        · rw [upd_ne RB, upd_same]
        · show upd _ R _ fA = _
          rw [upd_ne RfA]
          exact sB _ _ efA8
        · rw [List.getElem?_drop, li, ← ewn]
          congr 1
          omega
        · rw [List.length_append, li]
          simp
          omega
        · obtain ⟨r, er, e1, e2⟩ := nu j hj
          exact ⟨r, by rw [List.getElem?_append_left (by omega)]; exact er, e1, e2⟩
    · rintro σ H4 ⟨o4, o6, o7, xs, rs, rfl, D4, b4, eq4, ek4, eR, hp, ri, li, nu⟩
      exact rest _ _ ⟨o4, o6, o7, xs, rs, rfl, D4, b4, ek4, eR, hp, ri, by omega, by omega, nu⟩
  clear eR hp ri li nu eq2 ek2 D2 b2
  rintro σ G3 ⟨o4, o6, o7, xs, rs, rfl, D3, b3, ek3, eR, hp, ri, l6, ln, nu⟩
  have lx : xs.length = rs.length := Paired.length hp
  refine ⟨.ref p, rfl, .ref R, rfl, R, xs, rfl, .inl (SqL.of eR), p, _, rfl, D3, (by omega), (by omega), fun d5 H5 l5 u5 D5 b5 => ?_⟩
  obtain ⟨d, rfl⟩ := Int.eq_ofNat_of_zero_le l5
  have hd : d < xs.length := by omega
  have eR5 := b5 _ _ Rp eR
  have ek5 : StT H5 kA (ts.take n) := b5 _ _ (kp0 D3 ek3) ek3
  have hp5 := Paired.mapP hp fun x r z => RowV.sb z D3 b5
  refine ⟨.ref kA, rfl, .ref R, rfl, .int (d : Nat), rfl, _, rfl, R, _, rfl, SqL.of eR5, fun c1 n1 => ?_⟩
  have s1 : Same H5 (upd H5 c1 (.lst (cutV xs (some (d : Int)) none))) := same_new n1
  refine ⟨.ref R, rfl, .int (d : Nat), rfl, _, rfl, R, _, rfl, SqL.of (s1 _ _ eR5), fun c2 n2 => ?_⟩
  have s2 : Same (upd H5 c1 (.lst (cutV xs (some (d : Int)) none))) (upd (upd H5 c1 (.lst (cutV xs (some (d : Int)) none))) c2 (.lst (cutV xs none (some (d : Int))))) := same_new n2
  refine ⟨c1, c2, _, _, rfl, rfl, s2 _ _ upd_same, upd_same, ?_, fun c3 n3 => ?_⟩
  · have a1 := cutV_length xs (some (d : Int)) none
    have a2 := cutV_length xs none (some (d : Int))
    exact Nat.le_of_lt (small1000 (by omega))
  refine ⟨c3, _, rfl, SqL.of upd_same, fun rA H8 nrA s8 fz => ⟨(by show 2 ≤ sizeLine; decide), fun M nM => ?_⟩⟩
  have s3 : Same H5 (upd (upd (upd H5 c1 (.lst (cutV xs (some (d : Int)) none))) c2 (.lst (cutV xs none (some (d : Int))))) c3 (.lst (cutV xs (some (d : Int)) none ++ cutV xs none (some (d : Int))))) := s1.trans (s2.trans (same_new n3))
  have s4 := s3.trans s8
  have sM := same_new (o := .tup [.ref kA, .ref rA]) nM
  have s5 := s4.trans sM
  have perm := turned rs d
  have mem : ∀ r, r ∈ rs.drop d ++ rs.take d ↔ r ∈ rs := fun r => perm.mem_iff
  refine k M ⟨ts.take n, rs.drop d ++ rs.take d⟩ _ (D5.keep s5) (b3.trans (b5.trans (.of s5))) ⟨?_, ?_, ?_, ?_, ?_, ?_, ?_, ?_, ?_, ?_, ?_, ?_⟩ ⟨kA, rA, upd_same, s5 _ _ ek5, cutV xs (some (d : Int)) none ++ cutV xs none (some (d : Int)), .inr (fz.keep sM), ?_⟩ ⟨kA, rA, _, upd_same, fz.keep sM⟩
  · show 1 ≤ (ts.take n).length
    rw [List.length_take]; omega
  · show (ts.take n).length ≤ 4
    rw [List.length_take]; omega
  · exact fun z h => hz z (List.mem_of_mem_take h)
  · exact nd.sublist (List.take_sublist ..)
  · rw [perm.length_eq]; omega
  · rw [perm.length_eq]; omega
  · exact fun r h => (ri.ok r ((mem r).mp h)).n
  · have e : ((rs.drop d ++ rs.take d).map (·.1)).Perm (rs.map (·.1)) := perm.map _
    refine e.nodup_iff.mpr ?_
    rw [ri.nm]
    exact (nd.sublist (List.drop_sublist ..)).sublist (List.take_sublist ..)
  · exact fun r h => (ri.ok r ((mem r).mp h)).k
  · exact fun r h => (ri.ok r ((mem r).mp h)).l
  · exact fun r h => (ri.ok r ((mem r).mp h)).f
  · intro z h
    obtain ⟨j, hj, ej⟩ := List.getElem_of_mem h
    rw [List.length_take] at hj
    obtain ⟨r, er, e1, e2⟩ := nu j (by omega)
    refine ⟨r, (mem r).mpr (List.mem_of_getElem? er), ?_, e2⟩
    rw [List.getElem_take] at ej
    rw [List.getElem?_eq_getElem (by omega), ej] at e1
    exact (Option.some.inj e1).symm
  · have pr : Paired (RowV H5) (cutV xs (some (d : Int)) none ++ cutV xs none (some (d : Int))) (rs.drop d ++ rs.take d) := by
      rw [cut_drop (by omega), cut_take (by omega)]
      exact paired_app (paired_drop d hp5) (paired_take d hp5)
    exact Paired.mapP pr fun x r z => RowV.keep z s5
theorem ok_mdl {f fp fw : Addr} {fd fdp fdw : FuncData} (F : Fun K "_law_model" "_law_model" sMdl f fd) (mr : mg "range" = none) (mt : mg "tuple" = none) (ml : mg "len" = none)
    (GP : FnOk P w K mg base CX0 1 fp fdp ["_law_deal_here", "_law_many"] spPick) (kp : PySem.W.keepIn K (.ref fp) = true) (bP : Binds K fdp ["_law_deal_here", "_law_many"] []) (gP : mg "_law_pick" = some (.ref fp))
    (GW : FnOk P w K mg base CX0 3 fw fdw ["_law_deal_here", "_law_many"] spWds) (kw : PySem.W.keepIn K (.ref fw) = true) (bW : Binds K fdw ["_law_deal_here", "_law_many"] []) (gW : mg "_law_words" = some (.ref fw)) :
    FnOk P w K mg base CX0 4 f fd ["_law_deal_here"] spMdl := (ok_mdlF F mr mt ml GP kp bP gP GW kw bW gW).imp fun vs H Q E h => by
  obtain ⟨p, e, hD, q⟩ := h
  exact ⟨p, e, hD, fun a m H' D b g hM _ => q a m H' D b g hM⟩
end
end Ks
set_option Elab.async false
set_option linter.all false
set_option maxRecDepth 100000
set_option maxHeartbeats 4000000
namespace Ks
open PySem PySem.Spec PyProof.Rows L2 Gd Kx
/-- a whole number, written -/
abbrev nsS (n : Nat) : Str := ((toString ((n : Nat) : Int) : String) : Str)
theorem nsS_len {n k : Nat} (hk : 1 ≤ k) (h : n < 10 ^ k) : (nsS n).length ≤ k := by
  rw [← Kx.len_list, PySem.W.KIN.signs_num, List.length_map]
  exact toDigits_len_pow (by decide) hk h
theorem log_ok {n : Nat} (h : n < 10 ^ 31) : ((n : Nat) : Int).natAbs.log2 < 1920 := by
  have e : ((n : Nat) : Int).natAbs = n := rfl
  rw [e]
  by_cases z : n = 0
  · rw [z]; decide
  · exact (Nat.log2_lt z).mpr (Nat.lt_of_lt_of_le h (by decide +kernel))
/-- repr of a tree -/
def rpT (t : Tr) : Str := ((((Str.empty ++ Str.ofString "Tree(") ++ t.row.1) ++ Str.ofString ", size ") ++ nsS t.size) ++ Str.ofString ")"
theorem scRpT : FnScope ["self"] ["self"] (defScope (cT 13)) := ⟨rfl, rfl, rfl, by decide +kernel, rfl, by decide +kernel, by decide +kernel⟩
abbrev nStT : List Str := ["self", "name", "numbers", "at"]
theorem scStT : FnScope nStT ["self"] (defScope (cT 11)) := ⟨rfl, rfl, rfl, by decide +kernel, rfl, by decide +kernel, by decide +kernel⟩
section
variable {P : Program} {w : World} {K : PySem.W.Frag} {mg : Str → Option Value} {base : Heap} {CT CS : Addr}
def spRpT (CT CS : Addr) : Sp := fun vs H Q _ => ∃ (a : Addr) (m : Md) (t : Tr), vs = [.ref a] ∧ TrAt CT CS m H a t ∧ Good m ∧ t.Ok m ∧ t.size < 10 ^ 31 ∧ Q (.str (rpT t)) H
theorem ok_rpT {f : Addr} {fd : FuncData} (F : Fun K "__repr__" "Tree.__repr__" (cT 13) f fd) (T : TS0 mg) (Z : TCl K CT) : FnOk P w K mg base CX0 1 f fd ["self"] (spRpT CT CS) := by
  refine F.ok scRpT (fun vs H Q E h => ?_) (fun cv A ou s H vs Q E hr h => ?_)
  · obtain ⟨a, m, t, rfl, _⟩ := h
    rfl
  obtain ⟨a, m, t, rfl, ht, g, ok, hz, q⟩ := h
  refine ⟨_, pss_one (ps_ret (pe_joined (.cons pe_str (.cons (pe_fmt (pe_fld (pv 0) rfl)) (.cons pe_str (.cons (pe_fmt (pe_fld (pv 0) rfl)) (.cons pe_str .nil))))))), ?_⟩
  cases ht with
  | @mk _ dx R s1 F1 _ bs e _ _ _ _ _ =>
  have l1 : (Str.ofString "Tree(").length = 5 := by decide +kernel
  have l2 : (Str.ofString ", size ").length = 7 := by decide +kernel
  have l3 : (Str.ofString ")").length = 1 := by decide +kernel
  have l0 : Str.empty.length = 0 := rfl
  have sz := sizeLine_eq
  have ln := (nm_len (g.rn _ (Tr.ok_iff.mp ok).1)).2
  have lz : (nsS t.size).length ≤ 31 := nsS_len (by decide) hz
  have lz' : (Str.ofString (toString ((t.size : Nat) : Int))).length ≤ 31 := lz
  have ap := fun x y : Str => Str.length_append x y
  refine ⟨_, rfl, ?_, .ref a, rfl, a, CT, dx, _, _, rfl, e, Z.cls, Z.nn, trF_n, .inl ⟨_, rfl, by omega, _, rfl, ?_, _, rfl, ?_, .ref a, rfl, a, CT, dx, _, _, rfl, e, Z.cls, Z.nz, trF_z, .inr ⟨_, rfl, log_ok hz, _, rfl, ?_, _, rfl, ?_, q⟩⟩⟩
  · rw [ap, l0, l1]; omega
  · rw [ap, ap, l0, l1]; omega
  · rw [ap, ap, ap, l0, l1, l2]; omega
  · rw [ap, ap, ap, ap, l0, l1, l2]; omega
  · rw [ap, ap, ap, ap, ap, l0, l1, l2, l3]; omega
/-- str of a tree -/
def rowS (r : Rn) : Str := Txt.join (Str.ofString " ") (r.1 :: r.2.map nsS)
def stT (t : Tr) : Str := Txt.join (Str.ofString "; ") ((codes (sub t)).map rowS)
def spStT (CT CS : Addr) : Sp := fun vs H Q _ => ∃ (a : Addr) (m : Md) (t : Tr), vs = [.ref a] ∧ TrAt CT CS m H a t ∧ Good m ∧ t.Ok m ∧ (sub t).length ≤ 200 ∧ ∀ H' : Hp, Same H H' → Q (.str (stT t)) H'
theorem ok_stT {f : Addr} {fd : FuncData} (F : Fun K "__str__" "Tree.__str__" (cT 11) f fd) (T : TS0 mg) (Z : TCl K CT) : FnOk P w K mg base CX0 1 f fd ["self"] (spStT CT CS) := by
  refine F.ok scStT (fun vs H Q E h => ?_) (fun cv A ou s H vs Q E hr h => ?_)
  · obtain ⟨a, m, t, rfl, _⟩ := h
    rfl
  obtain ⟨a, m, t, rfl, ht, g, ok, l2, q⟩ := h
  refine ⟨_, pss_one (ps_ret (pe_join pe_str (pe_lc (own := [("name", 1), ("numbers", 2)]) (g := gTup K 2 (gCons (gName 1) (gCons (gName 2) gNil))) (tt := tYes) (by rfl) scStT.nd (pi_tup (pe_fld (pv 0) rfl)) (blkOk_by (own := [("name", 1), ("numbers", 2)]) (N := nStT) (sc := defScope (cT 11)) (by decide +kernel))
      (fun _ _ _ _ _ => pg_tup (by rfl) (pgs_cons (pg_name (i := 1) scStT.nd rfl (Or.inl rfl)) (pgs_cons (pg_name (i := 2) scStT.nd rfl (Or.inl rfl)) pgs_nil))) (fun _ _ _ _ _ => pts_nil)
      (fun _ _ _ _ _ => asTE (te := tM1 (fun x xs H Q => ∃ a p, ∃ ys : List Str, x = .str a ∧ xs = [.ref p] ∧ (SqL K H p (ys.map V.str) ∨ SqT K H p (ys.map V.str)) ∧ (ys.map (·.length)).sum + ys.length * a.length ≤ 16777216 ∧ Q (.str (Txt.join a ys)) H) (tC (.str " ")) (tLst (tCons (tVar 1) (StX.tStar K (tLc (iTup K (tVar 2)) (gName 3) tYes (tCB (fun xs H Q => ∃ i, xs = [V.int i] ∧ i.natAbs.log2 < 1920 ∧ Q (.str (toString i)) H) (tCons (tVar 3) tNil)) [3]) tNil))))
        (pe_join pe_str (pe_lst (pa_cons (pv 1) (StX.pa_star (pe_lc (own := [("at", 3)]) (g := gName 3) (tt := tYes) (by rfl) scStT.nd (pi_tup (pv 2)) (blkOk_by (own := [("at", 3)]) (N := nStT) (sc := { kind := .function, names := [(".0", .local), ("name", .local), ("numbers", .local)], isGenerator := false, isCoroutine := false }) (by decide +kernel)) (fun _ _ _ _ _ => pg_name (i := 3) scStT.nd rfl (Or.inl rfl)) (fun _ _ _ _ _ => pts_nil) (fun _ _ _ _ _ => pe_callTy call_str_int (by rfl) T.str boot_str (pa_cons (pv 3) pa_nil))) pa_nil)))) rfl)))), ?_⟩
  cases ht with
  | @mk _ dx R s1 F1 _ bs e _ hR _ _ _ =>
  obtain ⟨xs, eR, pR⟩ := hR
  have lx : xs.length = (codes (sub t)).length := Paired.length pR
  have lc : (codes (sub t)).length ≤ 200 := by rw [codes_len]; exact l2
  have l1 : (Str.ofString " ").length = 1 := by decide +kernel
  have l1' : (Str.ofString "; ").length = 2 := by decide +kernel
  have wd : ∀ r ∈ codes (sub t), r.1.length ≤ 8 ∧ r.2.length ≤ 3 ∧ ∀ k ∈ r.2, k < 200 := fun r hr => by
    obtain ⟨u, hu, rfl⟩ := List.mem_map.mp hr
    refine ⟨(nm_len (g.rn _ (Tr.ok_iff.mp (sub_ok ok u hu)).1)).2, ?_, fun k hk => ?_⟩
    · show (u.kids.map _).length ≤ 3
      rw [List.length_map]
      exact u.kids3
    · obtain ⟨c, hc, rfl⟩ := List.mem_map.mp hk
      exact Nat.lt_of_lt_of_le (List.idxOf_lt_length_of_mem ((sub_ord t).mem hu hc)) l2
  have ws : ∀ r ∈ codes (sub t), ((r.1 :: r.2.map nsS).map (·.length)).sum ≤ 17 := fun r hr => by
    obtain ⟨h1, h2, h3⟩ := wd r hr
    rw [List.map_cons, List.sum_cons]
    have : ∀ l : List Nat, (∀ k ∈ l, k < 200) → ((l.map nsS).map (·.length)).sum ≤ l.length * 3 := by
      intro l
      induction l with
      | nil => intro _; exact Nat.le_refl _
      | cons k r ih =>
        intro h
        have a := nsS_len (n := k) (k := 3) (by decide) (Nat.lt_of_lt_of_le (h k (List.mem_cons_self ..)) (by decide))
        have b := ih fun x hx => h x (List.mem_cons_of_mem _ hx)
        rw [List.map_cons, List.map_cons, List.sum_cons, List.length_cons, Nat.add_mul, Nat.one_mul]
        omega
    have := this r.2 h3
    omega
  refine ⟨⟨_, rfl⟩, .ref a, rfl, a, CT, dx, _, _, rfl, e, Z.cls, Z.nR, trF_R, R, rfl, ⟨_, SqT.of eR⟩, fun D nD => lc_tup (K := K) (a := R) (xs := xs) (fun i H' => i ≤ xs.length ∧ Same H H' ∧ H' D = some (.lst ((((codes (sub t)).take i).map rowS).map V.str))) ⟨Nat.zero_le _, same_new nD, upd_same⟩ (fun i H' _ p => SqT.of (p.2.1 _ _ eR)) (fun i x H' hx p => ?_) fun H' p => ?_⟩
  · obtain ⟨hi, s4, eD⟩ := p
    obtain ⟨r, hr2, b, fa, rfl, hb, hf⟩ := par_at pR hx
    have hlt : i < xs.length := (List.getElem?_eq_some_iff.mp hx).1
    have hrm := List.mem_of_getElem? hr2
    obtain ⟨w1, w2, w3⟩ := wd r hrm
    refine ⟨b, _, rfl, SqT.of (s4 _ _ hb), rfl, _, _, rfl, _, _, rfl, rfl, rfl, Gd.yes_if ⟨⟨_, rfl⟩, .str r.1, rfl, .ref fa, rfl, fa, rfl, ⟨_, SqT.of (s4 _ _ hf)⟩, fun D2 nD2 => lc_funT (K := K) (te := tCB (fun xs H Q => ∃ i, xs = [V.int i] ∧ i.natAbs.log2 < 1920 ∧ Q (.str (toString i)) H) (tCons (tVar 3) tNil)) (j := 3) (vs := [3]) (a := fa) (xs := nsV r.2) (ys := (r.2.map nsS).map V.str) (fun _ => rfl) nD2 (SqT.of (s4 _ _ hf)) (by rw [nsV_len]; omega) (by rw [List.length_map, List.length_map, nsV_len]) (fun p x y H5 hx hy s5 k => ?_) fun H5 s5 eC => ?_⟩⟩
    · intro kk
      unfold nsV at hx
      rw [List.getElem?_map] at hx hy
      rw [List.getElem?_map] at hy
      cases ek : r.2[p]? with
      | none => rw [ek] at hx; cases hx
      | some n =>
        rw [ek] at hx hy
        cases hx
        cases hy
        exact ⟨.int _, rfl, _, rfl, log_ok (Nat.lt_of_lt_of_le (w3 n (List.mem_of_getElem? ek)) (by decide)), kk H5 fun _ _ e => e⟩
    · refine ⟨D2, _, rfl, .inr (SqL.of eC), ?_, fun L nL => ?_⟩
      · rw [List.length_cons, List.length_append, List.length_map, List.length_map, List.length_nil]
        exact Nat.le_of_lt (small1000 (by omega))
      · have es : (r.2.map nsS).map V.str ++ ([] : List V) = (r.2.map nsS).map V.str := List.append_nil _
        have sL := same_new (o := .lst (V.str r.1 :: ((r.2.map nsS).map V.str ++ []))) nL
        have s7 := s4.trans (s5.trans sL)
        refine ⟨_, L, r.1 :: r.2.map nsS, rfl, rfl, .inl (SqL.of (by rw [upd_same, es]; rfl)), ?_, _, (s5.trans sL) _ _ eD, ?_, hlt, ?_, ?_⟩
        · have := ws r hrm
          rw [List.length_cons, List.length_map, l1]
          omega
        · rw [List.length_map, List.length_map, List.length_take]
          exact small1000 (by omega)
        · intro x o e
          rw [upd_ne (ne_of_none e nD)]
          exact s7 _ _ e
        · rw [upd_same, List.take_add_one, hr2, Option.toList_some, List.map_append, List.map_append]
          rfl
  · obtain ⟨_, s4, eD⟩ := p
    rw [lx, List.take_length] at eD
    have rl : ∀ z ∈ (codes (sub t)).map rowS, z.length ≤ 21 := fun z hz => by
      obtain ⟨r, hr, rfl⟩ := List.mem_map.mp hz
      show (Txt.join (Str.ofString " ") (r.1 :: r.2.map nsS)).length ≤ 21
      rw [TL.join_eq]
      have a := StrLaws.join_length_le (Str.ofString " ") (r.1 :: r.2.map nsS)
      have b := ws r hr
      have c := (wd r hr).2.1
      rw [l1, List.length_cons, List.length_map] at a
      omega
    have sm : ∀ l : List Str, (∀ z ∈ l, z.length ≤ 21) → (l.map (·.length)).sum ≤ l.length * 21 := by
      intro l
      induction l with
      | nil => intro _; exact Nat.le_refl _
      | cons z r ih =>
        intro h
        have a := h z (List.mem_cons_self ..)
        have b := ih fun x hx => h x (List.mem_cons_of_mem _ hx)
        rw [List.map_cons, List.sum_cons, List.length_cons, Nat.add_mul, Nat.one_mul]
        omega
    have b := sm _ rl
    rw [List.length_map] at b
    refine ⟨_, D, (codes (sub t)).map rowS, rfl, rfl, .inl (SqL.of eD), ?_, q _ s4⟩
    rw [List.length_map, l1']
    omega
end
end Ks
/-! names: k06 _law_tree -/
set_option Elab.async false
set_option linter.all false
set_option maxRecDepth 100000
set_option maxHeartbeats 4000000
namespace Ks
open PySem PySem.Spec PyProof.Rows L2 Gd Kx
theorem asTT {X : Cx} {es : List Expr} {t t' : TT} (h : PTs X es t') (q : t' = t) : PTs X es t := q ▸ h
/-! ### the law's trees: a row and the parts -/
inductive LtAt (H : Hp) : V → Tr → Prop
  | mk {b ra q : Addr} {t : Tr} {xs : List V} : H b = some (.tup [.ref ra, .ref q]) → RowV H (.ref ra) t.row → H q = some (.tup xs) → xs.length = t.kids.length → (∀ (i : Nat) (x : V) (c : Tr), xs[i]? = some x → t.kids[i]? = some c → LtAt H x c) → LtAt H (.ref b) t
/-- tuples stay -/
def Tk (H H' : Hp) : Prop := ∀ b ys, H b = some (.tup ys) → H' b = some (.tup ys)
theorem Tk.of {H H' : Hp} (s : Same H H') : Tk H H' := fun b ys e => s _ _ e
theorem Tk.sb {H H' : Hp} {p : Addr} {ys : List V} (e : H p = some (.lst ys)) (s : Sb p H H') : Tk H H' := fun b zs h => s b _ (fun z => by rw [z, e] at h; cases h) h
theorem Tk.deal {H H' : Hp} {p : Addr} (D : DealAt H p) (s : Sb p H H') : Tk H H' := by
  obtain ⟨_, _, _, e, _⟩ := D
  exact Tk.sb e s
theorem Tk.trans {H H1 H2 : Hp} (a : Tk H H1) (b : Tk H1 H2) : Tk H H2 := fun c ys e => b _ _ (a _ _ e)
theorem StT.tk {H H' : Hp} {a : Addr} {zs : List Str} (h : StT H a zs) (s : Tk H H') : StT H' a zs := s _ _ h
theorem RowV.tk {H H' : Hp} {x : V} {r : Rw} (h : RowV H x r) (s : Tk H H') : RowV H' x r := by
  obtain ⟨b, f, e, h1, h2⟩ := h
  exact ⟨b, f, e, s _ _ h1, s _ _ h2⟩
/-! ### everything but lists stands -/
def Nl (H H' : Hp) : Prop := ∀ b o, (∀ zs, o ≠ HO.lst zs) → H b = some o → H' b = some o
section
variable {H H' H'' : Hp} {a : Addr} {m : Md} {rs : List Rw}
theorem Nl.refl : Nl H H := fun _ _ _ e => e
theorem Nl.of (s : Same H H') : Nl H H' := fun b o _ e => s b o e
theorem Nl.trans (s : Nl H H') (t : Nl H' H'') : Nl H H'' := fun b o n e => t b o n (s b o n e)
theorem Nl.deal {p : Addr} (D : DealAt H p) (s : Sb p H H') : Nl H H' := fun b o n e => s b o (fun z => by
  obtain ⟨_, _, _, ep, _⟩ := D
  rw [z, ep] at e
  cases e
  exact n _ rfl) e
theorem Nl.upd {a : Addr} {zs ys : List V} (e : H a = some (.lst zs)) : Nl H (upd H a (.lst ys)) := fun b o n h => by
  rw [upd_ne (fun z => by rw [z, e] at h; cases h; exact n _ rfl)]
  exact h
theorem Nl.tk (s : Nl H H') : Tk H H' := fun b ys e => s _ _ (fun _ z => by cases z) e
theorem RowsT.nl (h : RowsT H a rs) (s : Nl H H') : RowsT H' a rs := by
  obtain ⟨xs, e, p⟩ := h
  exact ⟨xs, e.by (fun o n _ e => s _ _ n e), Paired.mapP p fun _ _ z => RowV.tk z s.tk⟩
theorem MdAt.nl (h : MdAt H a m) (s : Nl H H') : MdAt H' a m := by
  obtain ⟨k, r, e, h1, h2⟩ := h
  exact ⟨k, r, s.tk _ _ e, h1.tk s.tk, h2.nl s⟩
theorem KnM.keep {H H' : Hp} {a : Addr} (h : KnM H a) (s : Same H H') : KnM H' a := by
  obtain ⟨k, r, xs, e, fz⟩ := h
  exact ⟨k, r, xs, s _ _ e, fz.keep s⟩
theorem KnM.nl (h : KnM H a) (s : Nl H H') : KnM H' a := by
  obtain ⟨k, r, xs, e, o, e2, q⟩ := h
  exact ⟨k, r, xs, s.tk _ _ e, o, s _ _ (fun _ z => by cases z) e2, q⟩
end
theorem RowN.tk {H H' : Hp} {x : V} {r : Rn} (h : RowN H x r) (s : Tk H H') : RowN H' x r := by
  obtain ⟨b, q, e, h1, h2⟩ := h
  exact ⟨b, q, e, s _ _ h1, s _ _ h2⟩
theorem LtAt.tk {H H' : Hp} {x : V} {t : Tr} (h : LtAt H x t) (s : Tk H H') : LtAt H' x t := by
  induction h with
  | mk h1 h2 h3 h4 _ ih => exact .mk (s _ _ h1) (h2.tk s) (s _ _ h3) h4 ih
/-- some of the rows -/
def selZ (xs : List V) (rs : List Rw) (p : Rw → Bool) : List (Bool × V) := List.zipWith (fun x r => (p r, x)) xs rs
theorem selZ_len {xs : List V} {rs : List Rw} {p : Rw → Bool} (h : xs.length = rs.length) : (selZ xs rs p).length = xs.length := by
  unfold selZ
  rw [List.length_zipWith, h, Nat.min_self]
theorem selZ_at {xs : List V} {rs : List Rw} {p : Rw → Bool} {i : Nat} {x : V} {r : Rw} {z : Bool × V} (hx : xs[i]? = some x) (hr : rs[i]? = some r) (hz : (selZ xs rs p)[i]? = some z) : z = (p r, x) := by
  unfold selZ at hz
  rw [List.getElem?_zipWith, hx, hr] at hz
  exact (Option.some.inj hz).symm
theorem sel_pair {H : Hp} {p : Rw → Bool} : ∀ {xs : List V} {rs : List Rw}, Paired (RowV H) xs rs → Paired (RowV H) (picked (selZ xs rs p)) (rs.filter p)
  | _, _, .nil => .nil
  | x :: xs, r :: rs, .cons h t => by
    have ih := sel_pair (p := p) t
    cases e : p r with
    | true =>
      have e1 : picked (selZ (x :: xs) (r :: rs) p) = x :: picked (selZ xs rs p) := by
        unfold selZ picked
        simp [e]
      rw [e1, List.filter_cons_of_pos e]
      exact .cons h ih
    | false =>
      have e1 : picked (selZ (x :: xs) (r :: rs) p) = picked (selZ xs rs p) := by
        unfold selZ picked
        simp [e]
      rw [e1, List.filter_cons_of_neg (by rw [e]; decide)]
      exact ih
theorem dp_row0 {K : PySem.W.Frag} {H : Hp} {a : Addr} {zs : List Str} (h : StT H a zs) : Dp K H (.ref a) (dSs zs) := dp_st (SqT.of h)
theorem sh_ss {zs : List Str} (h : ∀ z ∈ zs, nmS z = true) : SeqAt.shaped (dSs zs) = true := by
  obtain ⟨h1, h2⟩ := lay_ss h
  unfold SeqAt.shaped
  rw [h1, decide_eq_true (by omega)]
  rfl
abbrev sTree : Stmt := Kx.topS 55
abbrev nTree : List Str := ["_law_deal_here", "_law_model_here", "_law_kind", "_law_deep", "_law_rows_here", "_law_row", "_law_field"]
theorem scTree : FnScope nTree ["_law_deal_here", "_law_model_here", "_law_kind", "_law_deep"] (defScope sTree) := ⟨rfl, rfl, rfl, by decide +kernel, rfl, by decide +kernel, by decide +kernel⟩
section
variable {P : Program} {w : World} {K : PySem.W.Frag} {mg : Str → Option Value} {base : Heap}
/-- a tree of this kind, drawn, of at most so many levels -/
def spTree (n : Nat) : Sp := fun vs H Q _ => ∃ (p b : Addr) (m : Md) (k : Str) (d : Int), vs = [.ref p, .ref b, .str k, .int d] ∧ DealAt H p ∧ MdAt H b m ∧ Good m ∧ k ∈ m.ks ∧ 1 ≤ d ∧ d ≤ (n : Int) ∧
  ∀ (t : Tr) (x : V) (H' : Hp), DealAt H' p → Sb p H H' → t.Ok m → t.row.2.1 = k → ((t.dep : Nat) : Int) ≤ d → LtAt H' x t → Q x H'
theorem dep_mk {r : Rw} {cs : List Tr} {d : Int} (h0 : 1 ≤ d) (hl : cs.length ≤ 3) (h : ∀ c ∈ cs, ((c.dep : Nat) : Int) ≤ d - 1) : (((Tr.mk r cs).dep : Nat) : Int) ≤ d := by
  match cs, hl with
  | [], _ => show ((1 : Nat) : Int) ≤ d; omega
  | [a], _ =>
    have := h a (by simp)
    show ((1 + a.dep : Nat) : Int) ≤ d
    omega
  | [a, b], _ =>
    have := h a (by simp)
    have := h b (by simp)
    show ((1 + max a.dep b.dep : Nat) : Int) ≤ d
    omega
  | [a, b, c], _ =>
    have := h a (by simp)
    have := h b (by simp)
    have := h c (by simp)
    show ((1 + max a.dep (max b.dep c.dep) : Nat) : Int) ≤ d
    omega
set_option maxHeartbeats 8000000 in
theorem ok_tree {f fp : Addr} {fd fdp : FuncData} (F : Fun K "_law_tree" "_law_tree" sTree f fd) (T : TS0 mg) (gT : mg "_law_tree" = some (.ref f)) (bT : Binds K fd ["_law_deal_here", "_law_model_here", "_law_kind", "_law_deep"] [])
    (GP : FnOk P w K mg base CX0 1 fp fdp ["_law_deal_here", "_law_many"] spPick) (kp : PySem.W.keepIn K (.ref fp) = true) (bP : Binds K fdp ["_law_deal_here", "_law_many"] []) (gP : mg "_law_pick" = some (.ref fp)) :
    ∀ n : Nat, FnOk P w K mg base CX0 (2 + n) f fd ["_law_deal_here", "_law_model_here", "_law_kind", "_law_deep"] (spTree n) := by
  intro n
  induction n with
  | zero =>
    refine F.ok scTree (fun vs H Q E h => ?_) (fun cv A ou s H vs Q E hr h => ?_)
    · obtain ⟨p, b, m, k, d, rfl, _⟩ := h
      rfl
    · obtain ⟨p, b, m, k, d, _, _, _, _, _, h1, h2, _⟩ := h
      omega
  | succ n GT =>
  refine F.ok scTree (fun vs H Q E h => ?_) (fun cv A ou s H vs Q E hr h => ?_)
  · obtain ⟨p, b, m, k, d, rfl, _⟩ := h
    rfl
  obtain ⟨p, b, m, k, d, rfl, hD, hM, g, hk, d1, dn, q⟩ := h
  have hr1 : Room 1 (A.deeper (envOfC "_law_tree" (defScope sTree) s.heap.objs.size f cv)) := hr.mono (Nat.le_trans (by decide : 1 ≤ 2) (Nat.le_add_right 2 n))
  have hu := hr.units
  refine ⟨_, pss_cons (ps_setLc (i := 4) (own := [("_law_row", 5)]) (g := gName 5) (tt := tTest (tOp rEq (tOp (rIxT K) (tVar 5) (tC (.int 1))) (tVar 2))) (by rfl) scTree.nd rfl rfl (sw_true rfl rfl rfl (by decide +kernel)) (pi_tup (pe_ix ix_tup (pv 1) pe_int (fun _ _ => rfl)))
        (blkOk_by (own := [("_law_row", 5)]) (N := nTree) (sc := defScope sTree) (by decide +kernel)) (fun _ _ _ _ _ => pg_name (i := 5) scTree.nd rfl (Or.inl rfl))
        (fun _ _ _ _ _ => asTT (pts_one (pt_cmpR op_eq (pe_ix ix_tup (pv 5) pe_int (fun _ _ => rfl)) (pv 2) (nomark _))) rfl) (fun _ _ _ _ _ => pv 5))
    (pss_cons (ps_if (pt_cmpR op_lt (pv 3) pe_int (nomark _)) (pss_one (ps_setLc (i := 4) (own := [("_law_row", 5)]) (g := gName 5) (tt := tTest (tOp (rEqD K) (tOp (rIxT K) (tVar 5) (tC (.int 2))) (tTup tNil))) (by rfl) scTree.nd rfl rfl (sw_true rfl rfl rfl (by decide +kernel)) (pi_list (pv 4))
        (blkOk_by (own := [("_law_row", 5)]) (N := nTree) (sc := defScope sTree) (by decide +kernel)) (fun _ _ _ _ _ => pg_name (i := 5) scTree.nd rfl (Or.inl rfl))
        (fun _ _ _ _ _ => asTT (pts_one (pt_cmpR (op_eqD hu) (pe_ix ix_tup (pv 5) pe_int (fun _ _ => rfl)) (pe_tup pa_nil) (nomark _))) rfl) (fun _ _ _ _ _ => pv 5))) pss_nil)
    (pss_cons (ps_set (i := 5) scTree.nd rfl (.inl rfl) (pe_ix ix_list (pv 4) (pe_call GP hr1 (by rfl) gP kp bP .nil pass0 (pa_cons (pv 0) (pa_cons (pe_callB call_len_seq (by rfl) T.len PySem.boot_len (pa_cons (pv 4) pa_nil)) pa_nil))) (fun _ _ => rfl)))
    (pss_one (ps_ret (pe_tup (pa_cons (pv 5) (pa_cons (pe_tupleOf (by rfl) T.tup (pe_lc (own := [("_law_field", 6)]) (g := gName 6) (tt := tYes) rfl scTree.nd (pi_tup (pe_ix ix_tup (pv 5) pe_int (fun _ _ => rfl))) (blkOk_by (own := [("_law_field", 6)]) (N := nTree) (sc := defScope sTree) (by decide +kernel))
        (fun _ _ _ _ _ => pg_name (i := 6) scTree.nd rfl (Or.inl rfl)) (fun _ _ _ _ _ => pts_nil)
        (fun _ _ _ _ _ => asTE (te := tCall (spTree n) [] E0 (tCons (tVar 0) (tCons (tVar 1) (tCons (tVar 6) (tCons (tOp (rI0 fun i j => .int (i - j)) (tVar 3) (tC (.int 1))) tNil))))) (pe_call GT hr (by rfl) gT F.kp bT .nil pass0 (pa_cons (pv 0) (pa_cons (pv 1) (pa_cons (pv 6) (pa_cons (pe_op op_sub (pv 3) pe_int) pa_nil))))) rfl))) pa_nil))))))), ?_⟩
  obtain ⟨kA, rA, eb, hks, hR⟩ := id hM
  obtain ⟨xs, eR, pR⟩ := id hR
  have r6 := g.r6
  have lx : xs.length = m.rs.length := Paired.length pR
  -- the rows of the kind
  refine seq_join (fun σ G => ∃ (D : Addr) (ys : List V) (rs : List Rw), σ = [some (.ref p), some (.ref b), some (.str k), some (.int d), some (.ref D), none, none] ∧ H D = none ∧ Same H G ∧ G D = some (.lst ys) ∧ Paired (RowV G) ys rs ∧ (∀ r ∈ rs, r ∈ m.rs ∧ r.2.1 = k) ∧ (∃ r ∈ rs, r.2.2 = []) ∧ rs.length ≤ 6) ?_ fun rest => ?_
  rotate_left
  · refine ⟨.ref b, rfl, b, _, _, .ref rA, rfl, rfl, SqT.of eb, rfl, rA, rfl, ⟨_, eR.sq⟩, fun D nD => lc_selT (K := K) (a := rA) (xs := xs) (zs := selZ xs m.rs fun r => decide (r.2.1 = k)) (fun _ => rfl) nD eR.sq (by omega) (selZ_len lx) (fun i x z H3 hx hz s3 q3 => ?_) (fun i x z H3 hx hz hb s3 q3 => ?_) fun H3 s3 eD => ?_⟩
    · intro kk
      obtain ⟨r, hr2, b', fa, rfl, hb', hf⟩ := rows_at pR hx
      have ez := selZ_at hx hr2 hz
      subst ez
      refine ⟨.ref b', rfl, b', _, _, .str r.2.1, rfl, rfl, SqT.of (s3 _ _ hb'), rfl, .str k, rfl, rfl, _, rfl, ?_⟩
      have := kk H3 fun _ _ e => e
      rw [show decide (V.str r.2.1 = V.str k) = decide (r.2.1 = k) by rw [Bool.eq_iff_iff]; simp]
      exact this
    · intro kk
      obtain ⟨r, hr2, b', fa, rfl, hb', hf⟩ := rows_at pR hx
      have ez := selZ_at hx hr2 hz
      subst ez
      exact ⟨_, rfl, kk H3 fun _ _ e => e⟩
    · refine rest _ _ ⟨D, _, m.rs.filter fun r => decide (r.2.1 = k), rfl, nD, s3, eD, Paired.mapP (sel_pair pR) fun _ _ z => RowV.keep z s3, fun r hr => ?_, ?_, ?_⟩
      · obtain ⟨h1, h2⟩ := List.mem_filter.mp hr
        exact ⟨h1, of_decide_eq_true h2⟩
      · obtain ⟨r, hr, e1, e2⟩ := g.tr k hk
        exact ⟨r, List.mem_filter.mpr ⟨hr, decide_eq_true e1⟩, e2⟩
      · exact Nat.le_trans (List.length_filter_le _ _) r6
  rintro σ G1 ⟨D1, ys1, rs1, rfl, nD1, s1, eD1, p1, a1, lf1, l61⟩
  -- no fields at the last level
  refine seq_join (fun σ G => ∃ (D : Addr) (ys : List V) (rs : List Rw), σ = [some (.ref p), some (.ref b), some (.str k), some (.int d), some (.ref D), none, none] ∧ H D = none ∧ Same H G ∧ G D = some (.lst ys) ∧ Paired (RowV G) ys rs ∧ (∀ r ∈ rs, r ∈ m.rs ∧ r.2.1 = k ∧ (d < 2 → r.2.2 = [])) ∧ 1 ≤ rs.length ∧ rs.length ≤ 6) ?_ fun rest => ?_
  rotate_left
  · refine ⟨.int d, rfl, _, _, rfl, rfl, _, rfl, ite2 (fun e => ?_) (fun e => ?_)⟩
    · have ly : ys1.length = rs1.length := Paired.length p1
      refine ⟨.ref D1, rfl, D1, rfl, ⟨_, SqL.of eD1⟩, fun D nD => lc_selL (K := K) (a := D1) (xs := ys1) (zs := selZ ys1 rs1 fun r => decide (r.2.2 = [])) (fun _ => rfl) nD (SqL.of eD1) (by omega) (selZ_len ly) (fun i x z H3 hx hz s3 q3 => ?_) (fun i x z H3 hx hz hb s3 q3 => ?_) fun H3 s3 eD => ?_⟩
      · intro kk
        obtain ⟨r, hr2, b', fa, rfl, hb', hf⟩ := rows_at p1 hx
        have ez := selZ_at hx hr2 hz
        subst ez
        refine ⟨.ref b', rfl, b', _, _, .ref fa, rfl, rfl, SqT.of (s3 _ _ hb'), rfl, (by show 0 ≤ sizeLine; exact Nat.zero_le _), fun U nU => ?_⟩
        have sU := same_new (o := .tup []) nU
        have hf3 : StT (upd H3 U (.tup [])) fa r.2.2 := sU _ _ (s3 _ _ hf)
        have fn : ∀ z ∈ r.2.2, nmS z = true := fun z hz => g.kn z (g.fk r (a1 r (List.mem_of_getElem? hr2)).1 z hz)
        refine ⟨dSs r.2.2, dSs [], dp_row0 hf3, dp_row0 (upd_same : StT (upd H3 U (.tup [])) U []), sh_ss fn, sh_ss (fun z hz => by cases hz), _, rfl, ?_⟩
        rw [eqv_ss]
        exact kk _ sU
      · intro kk
        obtain ⟨r, hr2, b', fa, rfl, hb', hf⟩ := rows_at p1 hx
        have ez := selZ_at hx hr2 hz
        subst ez
        exact ⟨_, rfl, kk H3 fun _ _ e => e⟩
      · have nDH : H D = none := by
          cases z : H D with
          | none => rfl
          | some o => rw [s1 _ _ z] at nD; cases nD
        refine rest _ _ ⟨D, _, rs1.filter fun r => decide (r.2.2 = []), rfl, nDH, s1.trans s3, eD, Paired.mapP (sel_pair p1) fun _ _ z => RowV.keep z s3, fun r hr => ?_, ?_, ?_⟩
        · obtain ⟨h1, h2⟩ := List.mem_filter.mp hr
          obtain ⟨h3, h4⟩ := a1 r h1
          exact ⟨h3, h4, fun _ => of_decide_eq_true h2⟩
        · obtain ⟨r, hr, e2⟩ := lf1
          exact List.length_pos_of_mem (List.mem_filter.mpr ⟨hr, decide_eq_true e2⟩)
        · exact Nat.le_trans (List.length_filter_le _ _) l61
    · refine rest _ _ ⟨D1, ys1, rs1, rfl, nD1, s1, eD1, p1, fun r hr => ⟨(a1 r hr).1, (a1 r hr).2, fun h2 => absurd (decide_eq_true h2) e⟩, ?_, l61⟩
      obtain ⟨r, hr, _⟩ := lf1
      exact List.length_pos_of_mem hr
  clear eD1 p1 a1 lf1 l61 s1 nD1
  rintro σ G2 ⟨D, ys, rs, rfl, nD, s2, eD, pY, aY, l1, l6⟩
  have ly : ys.length = rs.length := Paired.length pY
  have Dp : D ≠ p := by
    obtain ⟨_, _, _, e, _⟩ := hD
    exact fun z => by rw [z, e] at nD; cases nD
  -- one of them
  refine seq_join (fun σ G => ∃ (rb : Addr) (r : Rw), σ = [some (.ref p), some (.ref b), some (.str k), some (.int d), some (.ref D), some (.ref rb), none] ∧ DealAt G p ∧ Sb p H G ∧ RowV G (.ref rb) r ∧ r ∈ m.rs ∧ r.2.1 = k ∧ (d < 2 → r.2.2 = [])) ?_ fun rest => ?_
  rotate_left
  · refine ⟨.ref D, rfl, .ref p, rfl, .ref D, rfl, D, _, rfl, .inl (SqL.of eD), p, _, rfl, hD.keep s2, by omega, by omega, fun i H3 l2 u2 D3 b3 => ?_⟩
    have hi : i.toNat < ys.length := by omega
    have ex : ys[i.toNat]? = some ys[i.toNat] := List.getElem?_eq_getElem hi
    obtain ⟨r, hr2, hrow⟩ := rows_at pY ex
    have hrow3 := RowV.sb hrow (hD.keep s2) b3
    obtain ⟨rb, _, erb, _, _⟩ := id hrow
    obtain ⟨h1, h2, h3⟩ := aY r (List.mem_of_getElem? hr2)
    rw [erb] at hrow3 ex
    refine ⟨D, _, i, .ref rb, rfl, rfl, SqL.of (b3 _ _ Dp eD), at_of (j := i.toNat) (by omega) ex, rest _ _ ⟨rb, r, rfl, D3, (Sb.of s2).trans b3, hrow3, h1, h2, h3⟩⟩
  clear eD pY aY nD s2
  rintro σ G3 ⟨rb, r, rfl, D3, b3, hrow, hr0, rk, rl⟩
  obtain ⟨_, fa, ee, h1, h2⟩ := id hrow
  cases ee
  have gr := g.f3 r hr0
  have rne : r.2.2 ≠ [] → 2 ≤ d := fun hne => by
    rcases Int.lt_or_le d 2 with z | z
    · exact absurd (rl z) hne
    · exact z
  -- the parts
  refine ⟨.ref rb, rfl, .ref rb, rfl, rb, _, _, .ref fa, rfl, rfl, SqT.of h1, rfl, fa, rfl, ⟨_, SqT.of h2⟩, fun C nC => lc_tup (K := K) (a := fa) (xs := r.2.2.map V.str) (fun i H' => i ≤ r.2.2.length ∧ DealAt H' p ∧ Sb p G3 H' ∧ ∃ (zs : List V) (cs : List Tr), H' C = some (.lst zs) ∧ zs.length = i ∧ cs.length = i ∧
      (∀ (j : Nat) (x : V) (c : Tr), zs[j]? = some x → cs[j]? = some c → LtAt H' x c) ∧ cs.map (·.row.2.1) = r.2.2.take i ∧ ∀ c ∈ cs, c.Ok m ∧ ((c.dep : Nat) : Int) ≤ d - 1)
    ⟨Nat.zero_le _, D3.keep (same_new nC), Sb.new nC, [], [], upd_same, rfl, rfl, (fun j x c e _ => by simp at e), rfl, fun c hc => by cases hc⟩ (fun i H' hi p' => ?_) (fun i x H' hx p' => ?_) fun H' p' => ?_⟩
  · obtain ⟨_, D', b', _⟩ := p'
    exact SqT.of (Tk.deal D3 b' _ _ h2)
  · obtain ⟨hi, D4, b4, zs, cs, eC, lz, lc, lt4, ks4, ok4⟩ := p'
    rw [List.getElem?_map] at hx
    cases ef : r.2.2[i]? with
    | none => rw [ef] at hx; cases hx
    | some fl =>
      rw [ef] at hx
      cases hx
      have hil : i < r.2.2.length := (List.getElem?_eq_some_iff.mp ef).1
      have d2 := rne (fun z => by rw [z] at ef; cases ef)
      have Cp : C ≠ p := by
        obtain ⟨_, _, _, e, _⟩ := D3
        exact fun z => by rw [z, e] at nC; cases nC
      have nC' : G3 C = none := nC
      have fk := g.fk r hr0 fl (List.mem_of_getElem? ef)
      refine ⟨rfl, Gd.yes_if ⟨.ref p, rfl, .ref b, rfl, .str fl, rfl, .int d, rfl, _, _, rfl, rfl, p, b, m, fl, d - 1, rfl, D4, hM.nl ((Nl.deal hD b3).trans (Nl.deal D3 b4)), g, fk, by omega, by omega, fun t x H5 D5 b5 okt kt dt lt => ?_⟩⟩
      have eC5 := b5 _ _ Cp eC
      have t45 := Tk.deal D4 b5
      refine ⟨zs, eC5, small1000 (by omega), hil, ?_, ?_, zs ++ [x], cs ++ [t], upd_same, by rw [List.length_append, lz]; rfl, by rw [List.length_append, lc]; rfl, ?_, ?_, ?_⟩
      · obtain ⟨u1, u2, u3, e5, l5⟩ := D5
        exact ⟨u1, u2, u3, by rw [upd_ne (Ne.symm Cp)]; exact e5, l5⟩
      · intro y o ny e
        have : y ≠ C := ne_of_none e nC'
        rw [upd_ne this]
        exact b5 _ _ ny (b4 _ _ ny e)
      · have t6 : Tk H5 (upd H5 C (.lst (zs ++ [x]))) := fun y ys e => by
          rw [upd_ne (fun z => by rw [z, eC5] at e; cases e)]
          exact e
        intro j x' c' ex ec
        by_cases hj : j < i
        · rw [List.getElem?_append_left (by omega)] at ex ec
          exact (lt4 j x' c' ex ec).tk (t45.trans t6)
        · have hj2 : j = i := by
            have := (List.getElem?_eq_some_iff.mp ex).1
            rw [List.length_append, List.length_singleton] at this
            omega
          subst hj2
          rw [List.getElem?_append_right (by omega), lz, Nat.sub_self] at ex
          rw [List.getElem?_append_right (by omega), lc, Nat.sub_self] at ec
          cases ex
          cases ec
          exact lt.tk t6
      · rw [List.map_append, ks4, List.take_add_one, ef, Option.toList_some]
        show _ ++ [t.row.2.1] = _
        rw [kt]
      · intro c hc
        rcases List.mem_append.mp hc with hc | hc
        · exact ok4 c hc
        · rw [List.mem_singleton.mp hc]
          exact ⟨okt, dt⟩
  · obtain ⟨_, D4, b4, zs, cs, eC, lz, lc, lt4, ks4, ok4⟩ := p'
    rw [List.length_map] at lz lc ks4
    rw [List.take_length] at ks4
    refine .inl ⟨C, _, rfl, SqL.of eC, fun T1 nT1 => ⟨(by show 2 ≤ sizeLine; decide), fun T2 nT2 => ?_⟩⟩
    have sT := (same_new (o := .tup zs) nT1).trans (same_new (o := .tup [.ref rb, .ref T1]) nT2)
    have l3 : cs.length ≤ 3 := by omega
    have tk := (Tk.deal D3 b4).trans (Tk.of sT)
    refine q (Tr.mk r cs) (.ref T2) _ (D4.keep sT) (b3.trans (b4.trans (.of sT))) ?_ (by rw [Tr.mk_row]; exact rk) (dep_mk d1 l3 fun c hc => (ok4 c hc).2) ?_
    · refine Tr.ok_iff.mpr ?_
      rw [Tr.mk_row, Tr.mk_kids r l3]
      exact ⟨hr0, ks4.symm, fun c hc => (ok4 c hc).1⟩
    · refine .mk (ra := rb) (q := T1) (xs := zs) upd_same ?_ (same_new nT2 _ _ upd_same) ?_ ?_
      · rw [Tr.mk_row]
        exact hrow.tk tk
      · rw [Tr.mk_kids r l3]
        omega
      · rw [Tr.mk_kids r l3]
        exact fun j x c ex ec => (lt4 j x c ex ec).tk (Tk.of sT)
end
end Ks
set_option Elab.async false
set_option linter.all false
set_option maxRecDepth 100000
set_option maxHeartbeats 4000000
namespace Ks
open PySem PySem.Spec PyProof.Rows L2 Gd Kx
/-! ### rows read from a text -/
abbrev sNmb : Stmt := Kx.topS 44
theorem scNmb : FnScope ["word", "sign"] ["word"] (defScope sNmb) := ⟨rfl, rfl, rfl, by decide +kernel, rfl, by decide +kernel, by decide +kernel⟩
def digS : Str := "0123456789"
def dgt (c : Nat) : Bool := decide (c ∈ digS.cps.toList)
def numW (z : Str) : Option Nat := if z.length ≤ 3 ∧ z.length ≠ 0 ∧ z.cps.toList.all dgt = true then some (z.cps.toList.foldl (fun n c => n * 10 + (c - 48)) 0) else none
theorem dgt_fin {c : Nat} (h : dgt c = true) : ∃ i : _root_.Fin 10, c = 48 + i.1 := by
  have h' : c ∈ digS.cps.toList := of_decide_eq_true h
  have e : digS.cps.toList = [48, 49, 50, 51, 52, 53, 54, 55, 56, 57] := by decide +kernel
  rw [e] at h'
  simp only [List.mem_cons, List.not_mem_nil, or_false] at h'
  exact ⟨⟨c - 48, by omega⟩, by show c = 48 + (c - 48); omega⟩
theorem num1 : ∀ a : _root_.Fin 10, PySem.intText? ⟨#[48 + a.1]⟩ = some (((48 + a.1 - 48 : Nat) : Nat) : Int) := by decide +kernel
theorem num2 : ∀ a b : _root_.Fin 10, PySem.intText? ⟨#[48 + a.1, 48 + b.1]⟩ = some ((((48 + a.1 - 48) * 10 + (48 + b.1 - 48) : Nat) : Nat) : Int) := by decide +kernel
theorem num3 : ∀ a b c : _root_.Fin 10, PySem.intText? ⟨#[48 + a.1, 48 + b.1, 48 + c.1]⟩ = some (((((48 + a.1 - 48) * 10 + (48 + b.1 - 48)) * 10 + (48 + c.1 - 48) : Nat) : Nat) : Int) := by decide +kernel
theorem numW_int {z : Str} {n : Nat} (h : numW z = some n) : PySem.intText? z = some ((n : Nat) : Int) ∧ z.length ≤ 3 := by
  unfold numW at h
  split at h
  · rename_i hc
    obtain ⟨h3, h0, ha⟩ := hc
    have hn := Option.some.inj h
    obtain ⟨⟨l⟩⟩ := z
    have hl : l.length = (Str.mk ⟨l⟩).length := rfl
    refine ⟨?_, h3⟩
    have ha' : ∀ c ∈ l, dgt c = true := fun c hc => List.all_eq_true.mp ha c hc
    match l, hl, ha', hn with
    | [], hl, _, _ => exact absurd hl.symm h0
    | [a], _, ha', hn =>
      obtain ⟨i, rfl⟩ := dgt_fin (ha' a (by simp))
      rw [← hn]
      simpa using num1 i
    | [a, b], _, ha', hn =>
      obtain ⟨i, rfl⟩ := dgt_fin (ha' a (by simp))
      obtain ⟨j, rfl⟩ := dgt_fin (ha' b (by simp))
      rw [← hn]
      simpa using num2 i j
    | [a, b, c], _, ha', hn =>
      obtain ⟨i, rfl⟩ := dgt_fin (ha' a (by simp))
      obtain ⟨j, rfl⟩ := dgt_fin (ha' b (by simp))
      obtain ⟨k, rfl⟩ := dgt_fin (ha' c (by simp))
      rw [← hn]
      simpa using num3 i j k
    | a :: b :: c :: d :: r, hl, _, _ =>
      rw [← hl] at h3
      simp at h3
  · cases h
/-- a number as a text may hold it -/
def oN : Option Nat → V
  | some n => .int ((n : Nat) : Int)
  | none => .non
/-! ### a text, cut -/
theorem spl_ne (S : List Nat) : ∀ (l : List Nat) (k : Nat) (acc : List Nat), TL.spl S k acc l ≠ []
  | [], k, acc => by rw [TL.spl_nil]; simp
  | c :: r, 0, acc => by
    cases h : TL.pre S (c :: r) with
    | true => rw [TL.spl_hit h]; simp
    | false => rw [TL.spl_miss h]; exact spl_ne S r 0 _
  | _ :: r, k + 1, acc => by
    show TL.spl S k acc r ≠ []
    exact spl_ne S r k acc
theorem spl_len (S : List Nat) : ∀ (l : List Nat) (k : Nat) (acc : List Nat), ∀ p ∈ TL.spl S k acc l, p.length ≤ acc.length + l.length
  | [], k, acc, p, h => by
    rw [TL.spl_nil] at h
    rw [List.mem_singleton.mp h]
    exact Nat.le_add_right _ _
  | c :: r, 0, acc, p, h => by
    cases hp : TL.pre S (c :: r) with
    | true =>
      rw [TL.spl_hit hp] at h
      rcases List.mem_cons.mp h with rfl | h
      · exact Nat.le_add_right _ _
      · have := spl_len S r _ [] p h
        rw [List.length_nil] at this
        rw [List.length_cons]
        omega
    | false =>
      rw [TL.spl_miss hp] at h
      have := spl_len S r 0 _ p h
      rw [List.length_append, List.length_singleton] at this
      rw [List.length_cons]
      omega
  | c :: r, k + 1, acc, p, h => by
    have := spl_len S r k acc p h
    rw [List.length_cons]
    omega
def cutS (z y : Str) : List Str := Txt.split z y
theorem cut_ne {z y : Str} (hy : TL.tl y ≠ []) (hk : y.cps.all (· < 256) = true) : cutS z y ≠ [] := fun e => by
  have h := TL.split_spl z y hy (TL.kind_ok hk)
  have e' : Txt.split z y = [] := e
  rw [e'] at h
  exact spl_ne _ _ _ _ h.symm
theorem cut_len {z y p : Str} (hy : TL.tl y ≠ []) (hk : y.cps.all (· < 256) = true) (h : p ∈ cutS z y) : p.length ≤ z.length := by
  have e := TL.split_spl z y hy (TL.kind_ok hk)
  have h1 : TL.tl p ∈ TL.spl (TL.tl y) 0 [] (TL.tl z) := by
    rw [← e]
    exact List.mem_map.mpr ⟨p, h, rfl⟩
  have := spl_len _ _ _ _ _ h1
  rw [List.length_nil] at this
  have l1 : (TL.tl p).length = p.length := rfl
  have l2 : (TL.tl z).length = z.length := rfl
  omega
/-- the rows that a text tells -/
abbrev Ro : Type := Str × List (Option Nat)
def rowO (p : Str) : Ro := ((cutS p " ").headD "", ((cutS p " ").drop 1).map numW)
def rowsO (z : Str) : List Ro := (cutS z "; ").map rowO
def RowO (H : Hp) (x : V) (r : Ro) : Prop := ∃ b q, x = .ref b ∧ H b = some (.tup [.str r.1, .ref q]) ∧ H q = some (.tup (r.2.map oN))
def RwsO (H : Hp) (R : Addr) (rs : List Ro) : Prop := ∃ xs, H R = some (.tup xs) ∧ Paired (RowO H) xs rs
theorem RowO.keep {H H' : Hp} {x : V} {r : Ro} (h : RowO H x r) (s : Same H H') : RowO H' x r := by
  obtain ⟨b, q, e, h1, h2⟩ := h
  exact ⟨b, q, e, s _ _ h1, s _ _ h2⟩
abbrev sRot : Stmt := Kx.topS 45
abbrev nRot : List Str := ["text", "rows", "part", "words", "word"]
theorem scRot : FnScope nRot ["text"] (defScope sRot) := ⟨rfl, rfl, rfl, by decide +kernel, rfl, by decide +kernel, by decide +kernel⟩
section
variable {P : Program} {w : World} {K : PySem.W.Frag} {mg : Str → Option Value} {base : Heap}
def spNmb : Sp := fun vs H Q _ => ∃ z : Str, vs = [.str z] ∧ z.length ≤ sizeLine ∧ ∀ H', Same H H' → Q (oN (numW z)) H'
theorem ok_nmb {f : Addr} {fd : FuncData} (F : Fun K "_number" "_number" sNmb f fd) (T : TS0 mg) (mi : mg "int" = none) (mM : ∃ t, mg "MOST_DIGITS" = some (.int 3 t)) (mD : ∃ t, mg "DIGITS" = some (.str digS t)) : FnOk P w K mg base CX0 1 f fd ["word"] spNmb := by
  refine F.ok scNmb (fun vs H Q E h => ?_) (fun cv A ou s H vs Q E hr h => ?_)
  · obtain ⟨z, rfl, _⟩ := h
    rfl
  obtain ⟨z, rfl, hz, q⟩ := h
  obtain ⟨t1, mM⟩ := mM
  obtain ⟨t2, mD⟩ := mD
  refine ⟨_, pss_cons (ps_if (PW.pt (pw_or (pt_cmpR op_gt (pe_callB call_len_str (by rfl) T.len PySem.boot_len (pa_cons (pv 0) pa_nil)) (pe_glob (v := .int 3) (by rfl) mM ⟨_, rfl⟩) (nomark _))
        (pw_or (pt_not (pt_truth (pv 0) (fun _ => rfl))) (pw_or1 (pt_not (pt_val (pe_callB (cr_all rfl) (by rfl) T.all boot_all (pa_cons (pe_lc (own := [("sign", 1)]) (g := gName 1) (tt := tYes) rfl scNmb.nd (pi_str (pv 0)) (blkOk_by (own := [("sign", 1)]) (N := ["word", "sign"]) (sc := defScope sNmb) (by decide +kernel))
          (fun _ _ _ _ _ => pg_name (i := 1) scNmb.nd rfl (Or.inl rfl)) (fun _ _ _ _ _ => pts_nil) (fun _ _ _ _ _ => pe_cmpR op_in_sign (pv 1) (pe_glob (v := .str digS) (by rfl) mD ⟨_, rfl⟩) rfl)) pa_nil))))))))
      (pss_one (ps_ret pe_non)) pss_nil)
    (pss_one (ps_ret (pe_callTy call_int_str (by rfl) mi boot_int (pa_cons (pv 0) pa_nil)))), ?_⟩
  have ez := len_list z
  have big : ∀ {H' : Hp}, Same H H' → numW z = none → Q .non H' := fun s' e => by
    have := q _ s'
    rw [e] at this
    exact this
  refine ⟨.str z, rfl, z, rfl, hz, _, _, rfl, rfl, _, rfl, ?_⟩
  by_cases h3 : z.length ≤ 3
  rotate_left
  · rw [decide_eq_true (show ((z.length : Nat) : Int) > 3 by omega)]
    exact iteT (big (fun _ _ e => e) (if_neg fun h => h3 h.1))
  rw [decide_eq_false (show ¬ ((z.length : Nat) : Int) > 3 by omega)]
  refine iteF ⟨.str z, rfl, _, ⟨hz, rfl⟩, ?_⟩
  by_cases h0 : z.length = 0
  · rw [show (((z.length : Nat) : Int) != 0) = false by rw [h0]; rfl]
    exact iteT (big (fun _ _ e => e) (if_neg fun h => h.2.1 h0))
  rw [show (((z.length : Nat) : Int) != 0) = true from bne_iff_ne.mpr (by omega)]
  refine iteF ⟨.str z, rfl, z, rfl, fun D nD => lc_strY (x := z) (fun i H2 => Same H H2 ∧ H2 D = some (.lst ((z.cps.toList.take i).map fun c => V.bl (dgt c)))) (fun _ => rfl) ⟨same_new nD, upd_same⟩ ?_ ?_⟩
  · rintro i y H2 hi ⟨s2, eD⟩
    refine ⟨_, rfl, y, digS, rfl, rfl, _, eD, ?_, ?_, ?_⟩
    · rw [List.length_map, List.length_take]
      exact small1000 (by omega)
    · intro b o e
      rw [upd_ne (ne_of_none e nD)]
      exact s2 b o e
    · rw [upd_same, List.take_add_one, hi]
      simp [dgt]
  · rintro H2 ⟨s2, eD⟩
    rw [List.take_length] at eD
    refine ⟨D, z.cps.toList.map dgt, rfl, SqL.of (by rw [eD, List.map_map]; rfl), ?_⟩
    have e : (z.cps.toList.map dgt).all id = z.cps.toList.all dgt := by
      rw [List.all_map]
      rfl
    rw [e]
    cases ha : z.cps.toList.all dgt with
    | false => exact ⟨_, rfl, iteT (big s2 (if_neg fun h => by rw [ha] at h; cases h.2.2))⟩
    | true =>
      have en : ∃ n, numW z = some n := ⟨_, if_pos ⟨h3, h0, ha⟩⟩
      obtain ⟨n, en⟩ := en
      have q2 := q H2 s2
      rw [en] at q2
      exact ⟨_, rfl, iteF ⟨.str z, rfl, z, _, rfl, (numW_int en).1, by omega, q2⟩⟩
def spRot : Sp := fun vs H Q _ => ∃ z : Str, vs = [.str z] ∧ z.length ≤ 100000 ∧ (∀ p ∈ cutS z "; ", p.length ≤ 900) ∧ ∀ R H', Same H H' → RwsO H' R (rowsO z) → Q (.ref R) H'
set_option maxHeartbeats 8000000 in
theorem ok_rot {f fn : Addr} {fd fdn : FuncData} (F : Fun K "_rows_of_text" "_rows_of_text" sRot f fd) (T : TS0 mg)
    (GN : FnOk P w K mg base CX0 1 fn fdn ["word"] spNmb) (kn : PySem.W.keepIn K (.ref fn) = true) (bN : Binds K fdn ["word"] []) (gN : mg "_number" = some (.ref fn)) : FnOk P w K mg base CX0 2 f fd ["text"] spRot := by
  refine F.ok scRot (fun vs H Q E h => ?_) (fun cv A ou s H vs Q E hr h => ?_)
  · obtain ⟨z, rfl, _⟩ := h
    rfl
  obtain ⟨z, rfl, hz, hp9, q⟩ := h
  refine ⟨_, pss_cons (ps_set (i := 1) scRot.nd rfl (.inl rfl) (pe_lst pa_nil))
    (pss_cons (ps_for PassesOwn.never rfl (pi_list (pe_split (pv 0) pe_str)) (pg_name (i := 2) scRot.nd rfl (.inl rfl))
      (pss_cons (ps_set (i := 3) scRot.nd rfl (.inl rfl) (pe_split (pv 2) pe_str))
      (pss_one (ps_expr (pe_bm PySem.F.plainAttrs_list PySem.F.slot_list_append PySem.F.type_list_append mt_append (pv 1) (pa_cons (pe_tup (pa_cons (pe_ix ix_list (pv 3) pe_int (fun _ _ => rfl)) (pa_cons (pe_tupleOf (by rfl) T.tup (pe_lc (own := [("word", 4)]) (g := gName 4) (tt := tYes) rfl scRot.nd (pi_list (pe_slice sl_list (pv 3) (po_some pe_int) po_none)) (blkOk_by (own := [("word", 4)]) (N := nRot) (sc := defScope sRot) (by decide +kernel))
          (fun _ _ _ _ _ => pg_name (i := 4) scRot.nd rfl (Or.inl rfl)) (fun _ _ _ _ _ => pts_nil) (fun _ _ _ _ _ => asTE (te := tCall spNmb [] E0 (tCons (tVar 4) tNil)) (pe_call GN hr (by rfl) gN kn bN .nil pass0 (pa_cons (pv 4) pa_nil)) rfl))) pa_nil))) pa_nil))))))
    (pss_one (ps_ret (pe_tupleOf (by rfl) T.tup (pv 1))))), ?_⟩
  have sz := sizeLine_eq
  refine ⟨(by show 0 ≤ sizeLine; exact Nat.zero_le _), fun M nM => ?_⟩
  have sM := same_new (o := .lst []) nM
  refine ⟨.str z, rfl, ⟨z, rfl⟩, z, "; ", rfl, rfl, by decide +kernel, by omega, fun Lp nLp => ?_⟩
  have ML : M ≠ Lp := ne_of_none upd_same nLp
  have sP := sM.trans (same_new (o := .lst ((Txt.split z "; ").map V.str)) nLp)
  have nLH : H Lp = none := by
    cases e : H Lp with
    | none => rfl
    | some o => rw [sM _ _ e] at nLp; cases nLp
  have ln := PyProof.Rows.split_le z "; "
  refine ⟨Lp, rfl, ⟨_, SqL.of upd_same⟩, for_list (K := K) (a := Lp) (xs := (Txt.split z "; ").map V.str) (fun i σ H' => ∃ (o2 o3 : Option V) (xs : List V), σ = [some (.str z), some (.ref M), o2, o3, none] ∧ Same H H' ∧ H' Lp = some (.lst ((Txt.split z "; ").map V.str)) ∧ H' M = some (.lst xs) ∧ Paired (RowO H') xs ((rowsO z).take i))
    ⟨none, none, [], rfl, sP, upd_same, by rw [upd_ne ML]; exact upd_same, .nil⟩ (fun i σ H' _ pp => ?_) ?_ ?_⟩
  · obtain ⟨_, _, _, _, _, e, _⟩ := pp
    exact SqL.of e
  · rintro i x σ H1 hx ⟨o2, o3, xs, rfl, s1, eL, eM, pr⟩
    rw [List.getElem?_map] at hx
    cases ep : (Txt.split z "; ")[i]? with
    | none => rw [ep] at hx; cases hx
    | some p =>
    rw [ep] at hx
    cases hx
    have hp := hp9 p (List.mem_of_getElem? ep)
    have hi := (List.getElem?_eq_some_iff.mp ep).1
    have lw := PyProof.Rows.split_le p " "
    refine ⟨.str p, rfl, ⟨p, rfl⟩, p, " ", rfl, rfl, by decide +kernel, by omega, fun Wd nW => ?_⟩
    have sW := same_new (o := .lst ((Txt.split p " ").map V.str)) nW
    have wne : cutS p " " ≠ [] := cut_ne (by decide +kernel) (by decide +kernel)
    have w0 : (Txt.split p " ")[0]? = some ((Txt.split p " ").headD "") := by
      have : Txt.split p " " ≠ [] := wne
      cases hc : Txt.split p " " with
      | nil => exact absurd hc this
      | cons a r => rfl
    refine ⟨.ref M, rfl, .inl ⟨rfl, _, SqL.of (sW _ _ eM)⟩, .ref Wd, rfl, Wd, _, _, .str ((Txt.split p " ").headD ""), rfl, rfl, SqL.of upd_same, atI_nat (j := 0) (by rw [List.getElem?_map, w0]; rfl), ?_⟩
    refine ⟨.ref Wd, rfl, _, rfl, Wd, _, rfl, SqL.of upd_same, fun c nc => ⟨c, rfl, ⟨_, SqL.of upd_same⟩, fun D nD => ?_⟩⟩
    have e1 : 1 ≤ ((Txt.split p " ").map V.str).length := by
      rw [List.length_map]
      exact List.length_pos_iff.mpr wne
    have ed : cutV ((Txt.split p " ").map V.str) (some (1 : Int)) none = ((Txt.split p " ").map V.str).drop 1 := cut_drop (i := 1) e1
    rw [ed] at nD ⊢
    have sc := same_new (o := .lst (((Txt.split p " ").map V.str).drop 1)) nc
    have lw2 : (((Txt.split p " ").map V.str).drop 1).length ≤ 1000 := by
      rw [List.length_drop, List.length_map]
      omega
    refine lc_funL (K := K) (te := tCall spNmb [] E0 (tCons (tVar 4) tNil)) (j := 4) (vs := [4]) (a := c) (xs := ((Txt.split p " ").map V.str).drop 1) (ys := (rowO p).2.map oN) (fun _ => rfl) nD (SqL.of upd_same) lw2 (by
        show ((((Txt.split p " ").drop 1).map numW).map oN).length = _
        rw [List.length_map, List.length_map, List.length_drop, List.length_drop, List.length_map]) (fun k x y H3 hx hy s3 q3 => ?_) fun H3 s3 eD => ?_
    · intro kk
      rw [← List.map_drop, List.getElem?_map] at hx
      have hy' : ((((Txt.split p " ").drop 1).map numW).map oN)[k]? = some y := hy
      rw [List.getElem?_map, List.getElem?_map] at hy'
      cases ew : ((Txt.split p " ").drop 1)[k]? with
      | none => rw [ew] at hx; cases hx
      | some w =>
        rw [ew] at hx hy'
        cases hx
        cases hy'
        have hw : w.length ≤ p.length := cut_len (by decide +kernel) (by decide +kernel) (List.mem_of_mem_drop (List.mem_of_getElem? ew))
        exact ⟨.str w, rfl, w, rfl, by omega, fun H4 s4 => kk H4 s4⟩
    · refine .inl ⟨D, _, rfl, SqL.of eD, fun T1 nT1 => ⟨(by show 2 ≤ sizeLine; decide), fun T2 nT2 => ?_⟩⟩
      have sT := (same_new (o := .tup ((rowO p).2.map oN)) nT1).trans (same_new (o := .tup [.str ((Txt.split p " ").headD ""), .ref T1]) nT2)
      have s13 := sW.trans (sc.trans (s3.trans sT))
      have eM3 := s13 _ _ eM
      have lx : xs.length ≤ i := by
        rw [Paired.length pr, List.length_take]
        exact Nat.min_le_left _ _
      have nl := Nl.upd (ys := xs ++ [V.ref T2]) eM3
      have nMH := nM
      refine ⟨M, _, _, rfl, rfl, eM3, by omega, _, _, xs ++ [.ref T2], rfl, same_upd (s1.trans s13) nM, by rw [upd_ne (Ne.symm ML)]; exact s13 _ _ eL, upd_same, ?_⟩
      rw [List.take_add_one, show (rowsO z)[i]? = some (rowO p) by unfold rowsO cutS; rw [List.getElem?_map, ep]; rfl]
      refine Paired.snoc (Paired.mapP pr fun _ _ h => ?_) ?_
      · obtain ⟨b', q', e', h1, h2⟩ := h.keep s13
        exact ⟨b', q', e', nl.tk _ _ h1, nl.tk _ _ h2⟩
      · exact ⟨T2, T1, rfl, nl.tk _ _ upd_same, nl.tk _ _ (same_new nT2 _ _ upd_same)⟩
  · rintro σ H1 ⟨o2, o3, xs, rfl, s1, eL, eM, pr⟩
    rw [List.take_of_length_le (by unfold rowsO cutS; rw [List.length_map, List.length_map]; exact Nat.le_refl _)] at pr
    exact ⟨.ref M, rfl, .inl ⟨M, _, rfl, SqL.of eM, fun R nR => q R _ (s1.trans (same_new nR)) ⟨xs, upd_same, Paired.mapP pr fun _ _ h => h.keep (same_new nR)⟩⟩⟩
end
end Ks
/-! names: k06 _law_size _law_rows _law_rows_of -/
set_option Elab.async false
set_option linter.all false
set_option maxRecDepth 100000
set_option maxHeartbeats 4000000
namespace Ks
open PySem PySem.Spec PyProof.Rows L2 Gd Kx
theorem dep_pos (t : Tr) : 1 ≤ t.dep := by cases t <;> simp [Tr.dep] <;> omega
theorem dep_kid {t c : Tr} (h : c ∈ t.kids) : c.dep < t.dep := by
  cases t <;> simp [Tr.kids] at h
  · subst h; simp [Tr.dep]
  · rcases h with rfl | rfl <;> simp [Tr.dep] <;> omega
  · rcases h with rfl | rfl | rfl <;> simp [Tr.dep] <;> omega
abbrev sSz : Stmt := Kx.topS 58
abbrev sLr : Stmt := Kx.topS 56
abbrev sRo : Stmt := Kx.topS 57
theorem scSz : FnScope ["_law_tree_here", "_law_part"] ["_law_tree_here"] (defScope sSz) := ⟨rfl, rfl, rfl, by decide +kernel, rfl, by decide +kernel, by decide +kernel⟩
abbrev nLr : List Str := ["_law_done", "_law_tree_here", "_law_row", "_law_part"]
theorem scLr : FnScope nLr ["_law_done", "_law_tree_here"] (defScope sLr) := ⟨rfl, rfl, rfl, by decide +kernel, rfl, by decide +kernel, by decide +kernel⟩
theorem scRo : FnScope ["_law_tree_here", "_law_done"] ["_law_tree_here"] (defScope sRo) := ⟨rfl, rfl, rfl, by decide +kernel, rfl, by decide +kernel, by decide +kernel⟩
/-- what stands at a law's tree -/
theorem LtAt.at {H : Hp} {x : V} {t : Tr} (h : LtAt H x t) : ∃ (b ra fa q : Addr) (xs : List V), x = .ref b ∧ H b = some (.tup [.ref ra, .ref q]) ∧ H ra = some (.tup [.str t.row.1, .str t.row.2.1, .ref fa]) ∧ StT H fa t.row.2.2 ∧ H q = some (.tup xs) ∧ xs.length = t.kids.length ∧
    ∀ (i : Nat) (x : V) (c : Tr), xs[i]? = some x → t.kids[i]? = some c → LtAt H x c := by
  cases h with
  | @mk b ra q _ xs h1 h2 h3 h4 h5 =>
    obtain ⟨ra', fa, e, h6, h7⟩ := h2
    cases e
    exact ⟨b, ra, fa, q, xs, rfl, h1, h6, h7, h3, h4, h5⟩
theorem kid_of {t : Tr} {xs : List V} {H : Hp} (hl : xs.length = t.kids.length) (h : ∀ (i : Nat) (x : V) (c : Tr), xs[i]? = some x → t.kids[i]? = some c → LtAt H x c) {i : Nat} {x : V} (e : xs[i]? = some x) : ∃ c, t.kids[i]? = some c ∧ LtAt H x c := by
  have hi := (List.getElem?_eq_some_iff.mp e).1
  have ec : t.kids[i]? = some (t.kids[i]'(by omega)) := List.getElem?_eq_getElem _
  exact ⟨_, ec, h i x _ e ec⟩
section
variable {P : Program} {w : World} {K : PySem.W.Frag} {mg : Str → Option Value} {base : Heap}
def spSz (n : Nat) : Sp := fun vs H Q _ => ∃ (x : V) (t : Tr), vs = [x] ∧ LtAt H x t ∧ t.dep ≤ n ∧ ∀ H', Same H H' → Q (.int ((t.size : Nat) : Int)) H'
theorem ok_sz {f : Addr} {fd : FuncData} (F : Fun K "_law_size" "_law_size" sSz f fd) (ms : mg "sum" = none) (gS : mg "_law_size" = some (.ref f)) (bS : Binds K fd ["_law_tree_here"] []) :
    ∀ n : Nat, FnOk P w K mg base CX0 (1 + n) f fd ["_law_tree_here"] (spSz n) := by
  intro n
  induction n with
  | zero =>
    refine F.ok scSz (fun vs H Q E h => ?_) (fun cv A ou s H vs Q E hr h => ?_)
    · obtain ⟨x, t, rfl, _⟩ := h
      rfl
    · obtain ⟨x, t, _, _, h1, _⟩ := h
      have := dep_pos t
      omega
  | succ n GS =>
  refine F.ok scSz (fun vs H Q E h => ?_) (fun cv A ou s H vs Q E hr h => ?_)
  · obtain ⟨x, t, rfl, _⟩ := h
    rfl
  obtain ⟨x, t, rfl, hx, dn, q⟩ := h
  obtain ⟨b, ra, fa, qa, xs, rfl, h1, h2, h3, h4, hl, hk⟩ := hx.at
  refine ⟨_, pss_one (ps_ret (pe_op op_add pe_int (pe_callB (cr_sum rfl) (by rfl) ms boot_sum (pa_cons (pe_lc (own := [("_law_part", 1)]) (g := gName 1) (tt := tYes) rfl scSz.nd (pi_tup (pe_ix ix_tup (pv 0) pe_int (fun _ _ => rfl))) (blkOk_by (own := [("_law_part", 1)]) (N := ["_law_tree_here", "_law_part"]) (sc := defScope sSz) (by decide +kernel))
      (fun _ _ _ _ _ => pg_name (i := 1) scSz.nd rfl (Or.inl rfl)) (fun _ _ _ _ _ => pts_nil) (fun _ _ _ _ _ => asTE (te := tCall (spSz n) [] E0 (tCons (tVar 1) tNil)) (pe_call GS hr (by rfl) gS F.kp bS .nil pass0 (pa_cons (pv 1) pa_nil)) rfl)) pa_nil)))), ?_⟩
  have k3 := t.kids3
  refine ⟨.ref b, rfl, b, _, _, .ref qa, rfl, rfl, SqT.of h1, rfl, qa, rfl, ⟨_, SqT.of h4⟩, fun D nD => lc_funT (K := K) (te := tCall (spSz n) [] E0 (tCons (tVar 1) tNil)) (j := 1) (vs := [1]) (a := qa) (xs := xs) (ys := (t.kids.map fun c => ((c.size : Nat) : Int)).map V.int) (fun _ => rfl) nD (SqT.of h4) (by omega) (by rw [List.length_map, List.length_map, hl]) (fun i y z H3 hy hz s3 p => ?_) fun H3 s3 eD => ?_⟩
  · intro kk
    obtain ⟨c, ec, hc⟩ := kid_of hl hk hy
    rw [List.getElem?_map, List.getElem?_map, ec] at hz
    cases hz
    have := dep_kid (List.mem_of_getElem? ec)
    exact ⟨y, rfl, y, c, rfl, hc.tk (.of s3), by omega, fun H4 s4 => kk H4 s4⟩
  · refine ⟨D, _, rfl, SqL.of eD, _, _, rfl, rfl, ?_⟩
    have := q H3 s3
    rw [← size_int t] at this
    exact this
/-- the rows of a tree, put in where they are not yet there -/
def spLr (n : Nat) : Sp := fun vs H Q _ => ∃ (L : Addr) (x : V) (t : Tr) (m : Md) (D : List Tr) (xs : List V), vs = [.ref L, x] ∧ LtAt H x t ∧ t.dep ≤ n ∧ t.Ok m ∧ Good m ∧ H L = some (.lst xs) ∧ Paired (RowN H) xs (codes D) ∧ Ord D ∧ D.Nodup ∧ (∀ u ∈ D, u.Ok m) ∧ (addAll D t.post).length ≤ 900 ∧
  ∀ (H' : Hp) (xs' : List V), Sb L H H' → H' L = some (.lst xs') → Paired (RowN H') xs' (codes (addAll D t.post)) → Q (.int (((addAll D t.post).idxOf t : Nat) : Int)) H'
theorem addAll_len {D L M : List Tr} : (addAll D L).length ≤ (addAll (addAll D L) M).length := by
  obtain ⟨E, e⟩ := addAll_pre M (addAll D L)
  rw [e, List.length_append]
  omega
theorem shape_item {ds : List PyData} {d : PyData} (h : SeqAt.shaped (.list ds) = true) (hd : d ∈ ds) : True := True.intro
theorem sh_rn {r : Rn} (h : nmS r.1 = true) : SeqAt.shaped (dRn r) = true := by
  have e := lay_ns r.2
  have one : ∀ d ∈ [PyData.str r.1, dNs r.2], d.canLay0 = true ∧ d.depth ≤ 3 := by
    intro d hd
    simp only [List.mem_cons, List.not_mem_nil, or_false] at hd
    rcases hd with rfl | rfl
    · exact ⟨nm_ok h, by rw [PyData.depth]; omega⟩
    · exact e
  have d := dep_all (n := 3) fun d hd => (one d hd).2
  unfold SeqAt.shaped
  have e2 : (dRn r).depth ≤ 64 := by
    unfold dRn
    rw [PyData.depth]
    omega
  rw [show (dRn r).canLay0 = true from lay_all fun d hd => (one d hd).1, decide_eq_true e2]
  rfl
theorem sh_lst {rs : List Rn} (h : ∀ r ∈ rs, nmS r.1 = true) : SeqAt.shaped (.list (rs.map dRn)) = true := by
  have e := lay_rns h
  have e1 : (PyData.list (rs.map dRn)).canLay0 = (dRns rs).canLay0 := rfl
  have e2 : (PyData.list (rs.map dRn)).depth = (dRns rs).depth := by
    unfold dRns
    rw [PyData.depth, PyData.depth]
  unfold SeqAt.shaped at e ⊢
  rw [e1, e2]
  exact e
theorem any_rn (rs : List Rn) (r : Rn) : ((rs.map dRn).any fun z => PyData.eqv z (dRn r)) = decide (r ∈ rs) := by
  rw [List.any_map, Bool.eq_iff_iff, List.any_eq_true, decide_eq_true_eq]
  constructor
  · rintro ⟨x, hx, e⟩
    have e' : PyData.eqv (dRn x) (dRn r) = true := e
    rw [eqv_rn, decide_eq_true_eq] at e'
    rw [← e']
    exact hx
  · intro h
    exact ⟨r, h, by show PyData.eqv (dRn r) (dRn r) = true; rw [eqv_rn, decide_eq_true_eq]⟩
set_option maxHeartbeats 8000000 in
theorem ok_lr {f : Addr} {fd : FuncData} (F : Fun K "_law_rows" "_law_rows" sLr f fd) (T : TS0 mg) (gL : mg "_law_rows" = some (.ref f)) (bL : Binds K fd ["_law_done", "_law_tree_here"] []) :
    ∀ n : Nat, FnOk P w K mg base CX0 (1 + n) f fd ["_law_done", "_law_tree_here"] (spLr n) := by
  intro n
  induction n with
  | zero =>
    refine F.ok scLr (fun vs H Q E h => ?_) (fun cv A ou s H vs Q E hr h => ?_)
    · obtain ⟨L, x, t, m, D, xs, rfl, _⟩ := h
      rfl
    · obtain ⟨L, x, t, m, D, xs, _, _, h1, _⟩ := h
      have := dep_pos t
      omega
  | succ n GS =>
  refine F.ok scLr (fun vs H Q E h => ?_) (fun cv A ou s H vs Q E hr h => ?_)
  · obtain ⟨L, x, t, m, D, xs, rfl, _⟩ := h
    rfl
  obtain ⟨L, x, t, m, D, xs, rfl, hx, dn, ok, g, eL, pL, oD, ndD, okD, big, q⟩ := h
  obtain ⟨b, ra, fa, qa, ys, rfl, h1, h2, h3, h4, hl, hk⟩ := hx.at
  have hu : (A.deeper (envOfC "_law_rows" (defScope sLr) s.heap.objs.size f cv)).units + 65 < cLine := by
    have := hr.un
    omega
  obtain ⟨r0, rk0, okk⟩ := Tr.ok_iff.mp ok
  refine ⟨_, pss_cons (ps_set (i := 2) scLr.nd rfl (.inl rfl) (pe_tup (pa_cons (pe_ix ix_tup (pe_ix ix_tup (pv 1) pe_int (fun _ _ => rfl)) pe_int (fun _ _ => rfl)) (pa_cons (pe_tupleOf (by rfl) T.tup (pe_lc (own := [("_law_part", 3)]) (g := gName 3) (tt := tYes) rfl scLr.nd (pi_tup (pe_ix ix_tup (pv 1) pe_int (fun _ _ => rfl))) (blkOk_by (own := [("_law_part", 3)]) (N := nLr) (sc := defScope sLr) (by decide +kernel))
      (fun _ _ _ _ _ => pg_name (i := 3) scLr.nd rfl (Or.inl rfl)) (fun _ _ _ _ _ => pts_nil) (fun _ _ _ _ _ => asTE (te := tCall (spLr n) [] E0 (tCons (tVar 0) (tCons (tVar 3) tNil))) (pe_call GS hr (by rfl) gL F.kp bL .nil pass0 (pa_cons (pv 0) (pa_cons (pv 3) pa_nil))) rfl))) pa_nil))))
    (pss_cons (ps_if (pt_cmpR (op_notInD hu) (pv 2) (pv 0) (by rfl)) (pss_one (ps_expr (pe_bm PySem.F.plainAttrs_list PySem.F.slot_list_append PySem.F.type_list_append mt_append (pv 0) (pa_cons (pv 2) pa_nil)))) pss_nil)
    (pss_one (ps_ret (pe_bm PySem.F.plainAttrs_list PySem.F.slot_list_index PySem.F.type_list_index (mt_indexD hu) (pv 0) (pa_cons (pv 2) pa_nil))))), ?_⟩
  have k3 := t.kids3
  let Dk := addAll D (t.kids.flatMap Tr.post)
  have eDk : addAll D t.post = add Dk t := by rw [Tr.post_eq, addAll_app]; rfl
  have okDk : ∀ u ∈ Dk, u.Ok m := fun u hu => by
    rcases mem_addAll.mp hu with z | z
    · exact okD u z
    · obtain ⟨c, hc, hu⟩ := List.mem_flatMap.mp z
      exact Tr.post_ok c (okk c hc) u hu
  have oDk : Ord Dk := ord_posts _ _ oD
  have ndDk : Dk.Nodup := addAll_nd ndD
  have kDk : ∀ c ∈ t.kids, c ∈ Dk := fun c hc => mem_addAll.mpr (.inr (List.mem_flatMap.mpr ⟨c, hc, by rw [Tr.post_eq]; exact List.mem_append_right _ (List.mem_singleton.mpr rfl)⟩))
  have lDk : Dk.length ≤ 900 := by
    rw [eDk] at big
    obtain ⟨E, e⟩ := add_pre Dk t
    rw [e, List.length_append] at big
    omega
  -- the row
  refine seq_join (fun σ G => ∃ (T2 : Addr) (zs : List V), σ = [some (.ref L), some (.ref b), some (.ref T2), none] ∧ Sb L H G ∧ G L = some (.lst zs) ∧ Paired (RowN G) zs (codes Dk) ∧ RowN G (.ref T2) (code Dk t)) ?_ fun rest => ?_
  rotate_left
  · refine ⟨.ref b, rfl, b, _, _, .ref ra, rfl, rfl, SqT.of h1, rfl, ra, _, _, .str t.row.1, rfl, rfl, SqT.of h2, rfl, .ref b, rfl, b, _, _, .ref qa, rfl, rfl, SqT.of h1, rfl, qa, rfl, ⟨_, SqT.of h4⟩, fun C nC => lc_tup (K := K) (a := qa) (xs := ys) (fun i H' => i ≤ ys.length ∧ Sb L H H' ∧ ∃ zs, H' L = some (.lst zs) ∧ Paired (RowN H') zs (codes (addAll D ((t.kids.take i).flatMap Tr.post))) ∧
        H' C = some (.lst (nsV ((t.kids.take i).map fun c => (addAll D ((t.kids.take i).flatMap Tr.post)).idxOf c))))
      ⟨Nat.zero_le _, Sb.new nC, xs, same_new nC _ _ eL, Paired.mapP pL fun _ _ z => RowN.keep z (same_new nC), upd_same⟩ (fun i H' _ p => SqT.of (Tk.sb eL p.2.1 _ _ h4)) (fun i y H' hy p => ?_) fun H' p => ?_⟩
    · obtain ⟨hi, s4, zs, eL4, pL4, eC4⟩ := p
      obtain ⟨c, ec, hc⟩ := kid_of hl hk hy
      have CL : C ≠ L := fun z => by rw [z, eL] at nC; cases nC
      have hi2 : i < ys.length := (List.getElem?_eq_some_iff.mp hy).1
      have cm := List.mem_of_getElem? ec
      have dk := dep_kid cm
      have nx : addAll (addAll D ((t.kids.take i).flatMap Tr.post)) c.post = addAll D ((t.kids.take (i + 1)).flatMap Tr.post) := by
        rw [List.take_add_one, ec, Option.toList_some, List.flatMap_append, addAll_app, List.flatMap_cons, List.flatMap_nil, List.append_nil]
      have pre1 : (addAll D ((t.kids.take (i + 1)).flatMap Tr.post)).length ≤ 900 := by
        have e : t.kids.flatMap Tr.post = (t.kids.take (i + 1)).flatMap Tr.post ++ (t.kids.drop (i + 1)).flatMap Tr.post := by
          rw [← List.flatMap_append, List.take_append_drop]
        have : Dk = addAll (addAll D ((t.kids.take (i + 1)).flatMap Tr.post)) ((t.kids.drop (i + 1)).flatMap Tr.post) := by
          show addAll D (t.kids.flatMap Tr.post) = _
          rw [e, addAll_app]
        rw [this] at lDk
        exact Nat.le_trans addAll_len lDk
      refine ⟨rfl, Gd.yes_if ⟨.ref L, rfl, y, rfl, L, y, c, m, addAll D ((t.kids.take i).flatMap Tr.post), zs, rfl, hc.tk (Tk.sb eL s4), by omega, okk c cm, g, eL4, pL4, ord_posts _ _ oD, addAll_nd ndD, fun u hu => ?_, by rw [nx]; exact pre1, fun H5 zs5 b5 eL5 pL5 => ?_⟩⟩
      · rcases mem_addAll.mp hu with z | z
        · exact okD u z
        · obtain ⟨c', hc', hu⟩ := List.mem_flatMap.mp z
          exact Tr.post_ok c' (okk c' (List.mem_of_mem_take hc')) u hu
      · rw [nx] at pL5 ⊢
        have eC5 := b5 _ _ CL eC4
        have nCH : H C = none := nC
        obtain ⟨E, eE⟩ : ∃ E, addAll D ((t.kids.take (i + 1)).flatMap Tr.post) = addAll D ((t.kids.take i).flatMap Tr.post) ++ E := by
          rw [← nx]
          exact addAll_pre _ _
        have t6 : Tk H5 (upd H5 C (.lst (nsV ((t.kids.take i).map fun c => (addAll D ((t.kids.take i).flatMap Tr.post)).idxOf c) ++ [V.int (((addAll D ((t.kids.take (i + 1)).flatMap Tr.post)).idxOf c : Nat) : Int)]))) := fun y zs e => by
          rw [upd_ne (fun z => by rw [z, eC5] at e; cases e)]
          exact e
        refine ⟨_, eC5, ?_, hi2, ?_, zs5, ?_, Paired.mapP pL5 fun _ _ z => RowN.tk z t6, ?_⟩
        · rw [nsV_len, List.length_map, List.length_take]
          exact small1000 (by omega)
        · intro y o ny e
          rw [upd_ne (ne_of_none e nCH)]
          exact b5 _ _ ny (s4 _ _ ny e)
        · rw [upd_ne (Ne.symm CL)]
          exact eL5
        · rw [upd_same, eE]
          conv => rhs; rw [List.take_add_one, ec, Option.toList_some, List.map_append, nsV_app, idx_app E (L := t.kids.take i) (fun c hc => mem_addAll.mpr (.inr (List.mem_flatMap.mpr ⟨c, hc, by rw [Tr.post_eq]; exact List.mem_append_right _ (List.mem_singleton.mpr rfl)⟩)))]
          rfl
    · obtain ⟨_, s4, zs, eL4, pL4, eC4⟩ := p
      rw [hl, List.take_length] at pL4 eC4
      refine .inl ⟨C, _, rfl, SqL.of eC4, fun T1 nT1 => ⟨(by show 2 ≤ sizeLine; decide), fun T2 nT2 => ?_⟩⟩
      have sT := (same_new (o := .tup (nsV (code Dk t).2)) nT1).trans (same_new (o := .tup [.str t.row.1, .ref T1]) nT2)
      exact rest _ _ ⟨T2, zs, rfl, s4.trans (.of sT), sT _ _ eL4, Paired.mapP pL4 fun _ _ z => RowN.keep z sT, T2, T1, rfl, upd_same, same_new nT2 _ _ upd_same⟩
  clear eL pL
  rintro σ G ⟨T2, zs, rfl, bG, eL, pL, row⟩
  have nmc : nmS (code Dk t).1 = true := g.rn _ r0
  have nmD := codes_nm g okDk
  have lz : zs.length = Dk.length := by rw [Paired.length pL, codes_len]
  -- put in
  refine seq_join (fun σ G' => ∃ zs', σ = [some (.ref L), some (.ref b), some (.ref T2), none] ∧ Sb L G G' ∧ G' L = some (.lst zs') ∧ Paired (RowN G') zs' (codes (add Dk t)) ∧ RowN G' (.ref T2) (code Dk t)) ?_ fun rest => ?_
  rotate_left
  · refine ⟨.ref T2, rfl, .ref L, rfl, dRn (code Dk t), (codes Dk).map dRn, dp_rn row, .lst (SqL.of eL) (dp_rnAll pL), sh_rn nmc, sh_lst nmD, _, rfl, ?_⟩
    rw [any_rn]
    by_cases hm : t ∈ Dk
    · rw [decide_eq_true ((code_mem g.rd oDk okDk ok kDk).mpr hm)]
      exact iteF (rest _ _ ⟨zs, rfl, .refl, eL, by rw [add_in hm]; exact pL, row⟩)
    · rw [decide_eq_false fun z => hm ((code_mem g.rd oDk okDk ok kDk).mp z)]
      have t6 : Tk G (upd G L (.lst (zs ++ [.ref T2]))) := fun y zs' e => by
        rw [upd_ne (fun z => by rw [z, eL] at e; cases e)]
        exact e
      refine iteT ⟨.ref L, rfl, .inl ⟨rfl, _, SqL.of eL⟩, .ref T2, rfl, L, _, _, rfl, rfl, eL, small1000 (by omega), rest _ _ ⟨_, rfl, .set, upd_same, ?_, row.tk t6⟩⟩
      rw [add_out hm, codes_snoc oDk kDk]
      exact Paired.snoc (Paired.mapP pL fun _ _ z => RowN.tk z t6) (row.tk t6)
  rintro σ G' ⟨zs', rfl, bG', eL', pL', row'⟩
  have ht : t ∈ add Dk t := mem_add.mpr (.inr rfl)
  have okA : ∀ u ∈ add Dk t, u.Ok m := fun u hu => by
    rcases mem_add.mp hu with z | z
    · exact okDk u z
    · rw [z]; exact ok
  have oA : Ord (add Dk t) := ord_add oDk kDk
  have ndA : (add Dk t).Nodup := add_nd ndDk
  obtain ⟨E, eE⟩ := add_pre Dk t
  have cA : code (add Dk t) t = code Dk t := by rw [eE, code_app E kDk]
  have hi := codes_at (idx_at ht)
  rw [cA] at hi
  refine ⟨.ref L, rfl, .inl ⟨rfl, _, SqL.of eL'⟩, .ref T2, rfl, L, .ref T2, dRn (code Dk t), (codes (add Dk t)).map dRn, (add Dk t).idxOf t, dRn (code Dk t), rfl, rfl, .lst (SqL.of eL') (dp_rnAll pL'), dp_rn row', sh_lst (codes_nm g okA), sh_rn nmc, by rw [List.getElem?_map, hi]; rfl, by rw [eqv_rn]; exact decide_eq_true rfl, fun j z' hj hz' => ?_, ?_⟩
  · rw [List.getElem?_map] at hz'
    cases ej : (codes (add Dk t))[j]? with
    | none => rw [ej] at hz'; cases hz'
    | some r =>
      rw [ej] at hz'
      cases hz'
      rw [eqv_rn]
      refine decide_eq_false fun z => ?_
      rw [z] at ej
      have := (List.getElem?_inj (l := codes (add Dk t)) (List.getElem?_eq_some_iff.mp ej).1 (codes_nd g.rd oA ndA okA)).mp (ej.trans hi.symm)
      omega
  · rw [← eDk] at pL' ⊢
    exact q G' zs' (bG.trans bG') eL' pL'
/-- the rows of a tree -/
def spRo (n : Nat) : Sp := fun vs H Q _ => ∃ (x : V) (t : Tr) (m : Md), vs = [x] ∧ LtAt H x t ∧ t.dep ≤ n ∧ t.Ok m ∧ Good m ∧ (sub t).length ≤ 900 ∧ ∀ R H', Same H H' → RwsT H' R (codes (sub t)) → Q (.ref R) H'
theorem ok_ro {f fl : Addr} {fd fdl : FuncData} {n : Nat} (F : Fun K "_law_rows_of" "_law_rows_of" sRo f fd) (mt : mg "tuple" = none)
    (GL : FnOk P w K mg base CX0 (1 + n) fl fdl ["_law_done", "_law_tree_here"] (spLr n)) (kl : PySem.W.keepIn K (.ref fl) = true) (bL : Binds K fdl ["_law_done", "_law_tree_here"] []) (gL : mg "_law_rows" = some (.ref fl)) : FnOk P w K mg base CX0 (1 + n + 1) f fd ["_law_tree_here"] (spRo n) := by
  refine F.ok scRo (fun vs H Q E h => ?_) (fun cv A ou s H vs Q E hr h => ?_)
  · obtain ⟨x, t, m, rfl, _⟩ := h
    rfl
  obtain ⟨x, t, m, rfl, hx, dn, ok, g, big, q⟩ := h
  refine ⟨_, pss_cons (ps_set (i := 1) scRo.nd rfl (.inl rfl) (pe_lst pa_nil))
    (pss_cons (ps_expr (pe_call GL hr (by rfl) gL kl bL .nil pass0 (pa_cons (pv 1) (pa_cons (pv 0) pa_nil))))
    (pss_one (ps_ret (pe_tupleOf (by rfl) mt (pv 1))))), ?_⟩
  refine ⟨(by show 0 ≤ sizeLine; exact Nat.zero_le _), fun L nL => ?_⟩
  refine ⟨.ref L, rfl, x, rfl, L, x, t, m, [], [], rfl, hx.tk (.of (same_new nL)), dn, ok, g, upd_same, .nil, ord_nil, .nil, (fun u hu => by cases hu), big, fun H1 xs b1 eL p1 => ?_⟩
  refine ⟨.ref L, rfl, .inl ⟨L, _, rfl, SqL.of eL, fun R nR => ?_⟩⟩
  refine q R _ (fun b o e => ?_) ⟨xs, upd_same, Paired.mapP p1 fun _ _ z => RowN.keep z (same_new nR)⟩
  exact same_new nR _ _ (b1 _ _ (ne_of_none e nL) (same_new nL _ _ e))
end
end Ks
set_option Elab.async false
set_option linter.all false
set_option maxRecDepth 100000
namespace Ks
open PySem PySem.Spec PyProof.Rows L2 Gd Kx
/-! ### a law's tree as data -/
def dLt : Tr → PyData
  | .n0 r => .tuple [dRw r, .tuple []]
  | .n1 r a => .tuple [dRw r, .tuple [dLt a]]
  | .n2 r a b => .tuple [dRw r, .tuple [dLt a, dLt b]]
  | .n3 r a b c => .tuple [dRw r, .tuple [dLt a, dLt b, dLt c]]
theorem dLt_eq (t : Tr) : dLt t = .tuple [dRw t.row, .tuple (t.kids.map dLt)] := by cases t <;> rfl
theorem eqv_lt2 (r s : Rw) (a b : List PyData) : PyData.eqv (.tuple [dRw r, .tuple a]) (.tuple [dRw s, .tuple b]) = (decide (r = s) && PyData.eqvAll a b) := by
  show (PyData.eqv (dRw r) (dRw s) && (PyData.eqvAll a b && true)) = _
  rw [eqv_rw, Bool.and_true]
theorem eqv_lt : ∀ t u : Tr, PyData.eqv (dLt t) (dLt u) = decide (t = u)
  | .n0 r, u => by
    cases u <;> rw [dLt, dLt, eqv_lt2] <;> simp [PyData.eqvAll]
  | .n1 r a, u => by
    cases u with
    | n1 s x =>
      rw [dLt, dLt, eqv_lt2, show PyData.eqvAll [dLt a] [dLt x] = (PyData.eqv (dLt a) (dLt x) && true) from rfl, eqv_lt a x]
      simp
    | _ => rw [dLt, dLt, eqv_lt2] <;> simp [PyData.eqvAll]
  | .n2 r a b, u => by
    cases u with
    | n2 s x y =>
      rw [dLt, dLt, eqv_lt2, show PyData.eqvAll [dLt a, dLt b] [dLt x, dLt y] = (PyData.eqv (dLt a) (dLt x) && (PyData.eqv (dLt b) (dLt y) && true)) from rfl, eqv_lt a x, eqv_lt b y]
      simp
    | _ => rw [dLt, dLt, eqv_lt2] <;> simp [PyData.eqvAll]
  | .n3 r a b c, u => by
    cases u with
    | n3 s x y z =>
      rw [dLt, dLt, eqv_lt2, show PyData.eqvAll [dLt a, dLt b, dLt c] [dLt x, dLt y, dLt z] = (PyData.eqv (dLt a) (dLt x) && (PyData.eqv (dLt b) (dLt y) && (PyData.eqv (dLt c) (dLt z) && true))) from rfl, eqv_lt a x, eqv_lt b y, eqv_lt c z]
      simp
    | _ => rw [dLt, dLt, eqv_lt2] <;> simp [PyData.eqvAll]
theorem lay_lt {m : Md} (g : Good m) {t : Tr} : t.Ok m → (dLt t).canLay0 = true ∧ ∀ n, t.dep ≤ n → (dLt t).depth ≤ 4 * n + 8 := by
  induction t using Tr.ind with
  | h t ih =>
  intro ok
  obtain ⟨o1, o2, o3⟩ := Tr.ok_iff.mp ok
  have lr := lay_rw g.kn (g.row o1)
  rw [dLt_eq]
  have ly : PyData.canLay0 (.tuple (t.kids.map dLt)) = true := lay_all fun d hd => by
    obtain ⟨c, hc, rfl⟩ := List.mem_map.mp hd
    exact (ih c hc (o3 c hc)).1
  refine ⟨lay_all fun d hd => ?_, fun n hn => ?_⟩
  · simp only [List.mem_cons, List.not_mem_nil, or_false] at hd
    rcases hd with rfl | rfl
    · exact lr.1
    · exact ly
  · have dk := dep_all (n := 4 * (n - 1) + 8) (ds := t.kids.map dLt) fun d hd => by
      obtain ⟨c, hc, rfl⟩ := List.mem_map.mp hd
      have := dep_kid hc
      exact (ih c hc (o3 c hc)).2 (n - 1) (by omega)
    have dp := dep_pos t
    have d2 : (PyData.tuple (t.kids.map dLt)).depth ≤ 4 * n + 6 := by
      rw [PyData.depth]
      omega
    have lr2 := lr.2
    have := dep_all (n := 4 * n + 6) (ds := [dRw t.row, .tuple (t.kids.map dLt)]) fun d hd => by
      simp only [List.mem_cons, List.not_mem_nil, or_false] at hd
      rcases hd with rfl | rfl
      · omega
      · exact d2
    rw [PyData.depth]
    omega
theorem sh_lt {m : Md} (g : Good m) {t : Tr} (ok : t.Ok m) (d : t.dep ≤ 14) : SeqAt.shaped (dLt t) = true := by
  obtain ⟨h1, h2⟩ := lay_lt g ok
  have := h2 14 d
  unfold SeqAt.shaped
  rw [h1, decide_eq_true (by omega)]
  rfl
theorem dpAll_of {K : PySem.W.Frag} {H : Hp} {α : Type} {f : α → PyData} : ∀ {xs : List V} {cs : List α}, xs.length = cs.length → (∀ (i : Nat) (x : V) (c : α), xs[i]? = some x → cs[i]? = some c → Dp K H x (f c)) → DpAll K H xs (cs.map f)
  | [], [], _, _ => .nil
  | [], c :: cs, l, _ => by cases l
  | x :: xs, [], l, _ => by cases l
  | x :: xs, c :: cs, l, h => .cons (h 0 x c rfl rfl) (dpAll_of (by simpa using l) fun i y d e1 e2 => h (i + 1) y d (by simpa using e1) (by simpa using e2))
theorem dp_lt {K : PySem.W.Frag} {H : Hp} {x : V} {t : Tr} (h : LtAt H x t) : Dp K H x (dLt t) := by
  induction h with
  | mk h1 h2 h3 h4 _ ih =>
    rw [dLt_eq]
    exact .tup (SqT.of h1) (.cons (dp_row h2) (.cons (.tup (SqT.of h3) (dpAll_of h4 ih)) .nil))
/-! ### one comparison with two readings -/
theorem op_or2 {X : Cx} {f : Value → Value → Sem Value} {r1 r2 : R2} (h1 : OpR X f r1) (h2 : OpR X f r2) : OpR X f (fun x y H Q => r1 x y H Q ∨ r2 x y H Q) := by
  intro pins s σ H x y v u Q I rx ry h
  rcases h with h | h
  · exact h1 pins s σ H x y v u Q I rx ry h
  · exact h2 pins s σ H x y v u Q I rx ry h
/-- values that are no trees -/
inductive NoTr (CS : Addr) (H : Hp) : V → Prop where
  | non : NoTr CS H .non
  | bl (b : Bool) : NoTr CS H (.bl b)
  | int (i : Int) : NoTr CS H (.int i)
  | str (z : Str) : NoTr CS H (.str z)
  | tup {a : Addr} {xs : List V} (h : H a = some (.tup xs)) : NoTr CS H (.ref a)
  | sch {a : Addr} {m : Md} (h : ScAt CS H a m) (g : Good m) : NoTr CS H (.ref a)
theorem NoTr.keep {CS : Addr} {H H' : Hp} {x : V} (h : NoTr CS H x) (s : Same H H') : NoTr CS H' x := by
  cases h with
  | non => exact .non
  | bl b => exact .bl b
  | int i => exact .int i
  | str z => exact .str z
  | tup h => exact .tup (s _ _ h)
  | sch h g => exact .sch (h.keep s) g
section
variable {H H' H'' : Hp}
theorem ScAt.nl {C a : Addr} {m : Md} (h : ScAt C H a m) (s : Nl H H') : ScAt C H' a m := by
  obtain ⟨dx, k, c, n, ⟨dp, e, edp⟩, h1, ⟨xs, h2, hp⟩, o, h3, h4⟩ := h
  exact ⟨dx, k, c, n, ⟨dp, s _ _ (fun _ z => by cases z) e, s _ _ (fun _ z => by cases z) edp⟩, s _ _ (fun _ z => by cases z) h1, ⟨xs, h2.by (fun o n _ e => s _ _ n e), Paired.mapP hp fun _ _ z => RowV.tk z s.tk⟩, o, s _ _ (fun _ z => by cases z) h3, h4⟩
theorem TrAt.nl {CT CS a : Addr} {m : Md} {t : Tr} (h : TrAt CT CS m H a t) (s : Nl H H') : TrAt CT CS m H' a t := by
  induction h with
  | mk g1 g2 g3 g4 g5 _ ih =>
    obtain ⟨ys, e5, p5⟩ := g3
    exact .mk (s _ _ (fun _ z => by cases z) g1) (g2.nl s) ⟨ys, s.tk _ _ e5, Paired.mapP p5 fun _ _ z => RowN.tk z s.tk⟩ (s _ _ (fun _ z => by cases z) g4) g5 ih
end
theorem picked_flt {rs : List Rw} (p : Rw → Bool) : picked (rs.map fun r => (p r, V.str r.1)) = ((rs.filter p).map (·.1)).map V.str := by
  unfold picked
  induction rs with
  | nil => rfl
  | cons r t ih => cases h : p r <;> simp [h] <;> simpa using ih
theorem any_rep' (n : Nat) : (List.replicate n false).any id = false := by
  rw [List.any_eq_false]
  intro x hx
  rw [(List.mem_replicate.mp hx).2]
  decide
end Ks
set_option Elab.async false
set_option linter.all false
set_option maxRecDepth 100000
set_option maxHeartbeats 4000000
namespace Ks
open PySem PySem.Spec PyProof.Rows L2 Gd Kx
/-! ### small trees; making one -/
theorem post_len (t : Tr) : t.post.length = t.size := by
  induction t using Tr.ind with
  | h t ih =>
    rw [Tr.post_eq, Tr.size_eq, List.length_append, List.length_flatMap, List.length_singleton, Nat.add_comm]
    congr 2
    exact List.map_congr_left ih
theorem addAll_le : ∀ (L D : List Tr), (addAll D L).length ≤ D.length + L.length
  | [], D => by show D.length ≤ _; omega
  | t :: r, D => by
    have := addAll_le r (add D t)
    have h : (add D t).length ≤ D.length + 1 := by
      unfold add
      split
      · omega
      · rw [List.length_append, List.length_singleton]
        omega
    show (addAll (add D t) r).length ≤ _
    rw [List.length_cons]
    omega
theorem sub_size (t : Tr) : (sub t).length ≤ t.size := by
  have := addAll_le t.post []
  rw [post_len, List.length_nil] at this
  unfold sub
  omega
theorem size_dep1 {t : Tr} (h : t.dep ≤ 1) : t.size ≤ 1 := by
  rw [Tr.size_eq]
  cases ek : t.kids with
  | nil => exact Nat.le_refl _
  | cons c r =>
    have := dep_kid (t := t) (c := c) (by rw [ek]; exact List.mem_cons_self ..)
    have := dep_pos c
    omega
theorem size_dep {n B : Nat} (ih : ∀ c : Tr, c.dep ≤ n → c.size ≤ B) {t : Tr} (h : t.dep ≤ n + 1) : t.size ≤ 1 + 3 * B := by
  have k : ∀ c ∈ t.kids, c.size ≤ B := fun c hc => ih c (by have := dep_kid hc; omega)
  rw [Tr.size_eq]
  have : ∀ l : List Tr, (∀ c ∈ l, c.size ≤ B) → (l.map Tr.size).sum ≤ l.length * B := by
    intro l
    induction l with
    | nil => intro _; simp
    | cons c r ih =>
      intro h
      have a := h c (List.mem_cons_self ..)
      have b := ih fun x hx => h x (List.mem_cons_of_mem _ hx)
      rw [List.map_cons, List.sum_cons, List.length_cons, Nat.add_mul, Nat.one_mul]
      omega
  have a := this _ k
  have b : t.kids.length * B ≤ 3 * B := Nat.mul_le_mul_right B t.kids3
  omega
theorem size40 {t : Tr} (h : t.dep ≤ 4) : t.size ≤ 40 := size_dep (B := 13) (fun c hc => size_dep (B := 4) (fun c hc => size_dep (B := 1) (fun c hc => size_dep1 hc) hc) hc) h
theorem mk_baseT {C x dx : Addr} {H : Hp} (nx : H x = none) (nd : H dx = none) : Same H (upd (upd H dx (.own x)) x (.ins C dx [])) := fun b o e => by
  rw [upd_ne (ne_of_none e nx), upd_ne (ne_of_none e nd)]
  exact e
theorem mk_sameT {C x dx : Addr} {H H' : Hp} (nx : H x = none) (nd : H dx = none) (h : But x (upd (upd H dx (.own x)) x (.ins C dx [])) H') : Same H H' := fun b o e => h b o (ne_of_none e nx) (mk_baseT nx nd _ _ e)
theorem mk_go {CT CS s : Addr} {H : Hp} {m : Md} {t : Tr} {bs : List Addr} {Q : VK} {E : XK} (hs : ScAt CS H s m) (g : Good m) (ok : t.Ok m) (kid : Kids CT CS m H bs t.kids) (l : (sub t).length ≤ 200) (q : ∀ a H', Same H H' → TrAt CT CS m H' a t → Q (.ref a) H') :
    ∀ x dx, H x = none → H dx = none → dx ≠ x → spMk CT CS (.ref x :: .ref s :: .str t.row.1 :: bs.map V.ref) (upd (upd H dx (.own x)) x (.ins CT dx [])) (fun v H2 => v = .non ∧ Q (.ref x) H2) E := fun x dx nx nd _ =>
  have sb := mk_baseT (C := CT) nx nd
  ⟨x, dx, s, m, t, bs, rfl, upd_same, hs.keep sb, g, ok, kid.keep sb, l, fun H' b ht => ⟨rfl, q x H' (mk_sameT nx nd b) ht⟩⟩
end Ks
set_option Elab.async false
set_option linter.all false
set_option maxRecDepth 100000
set_option maxHeartbeats 4000000
namespace Ks
open PySem PySem.Spec PyProof.Rows L2 Gd Kx
section
variable {P : Program} {w : World} {K : PySem.W.Frag} {mg : Str → Option Value} {base : Heap} {CT CS : Addr}
/-- the trees of a bundle of rows, the last one given back -/
def spOfr (CT CS : Addr) : Sp := fun vs H Q _ => ∃ (s R : Addr) (m : Md) (rs : List Rn) (ts : List Tr) (t : Tr), vs = [.ref CT, .ref s, .ref R] ∧ ScAt CS H s m ∧ Good m ∧ RwsT H R rs ∧ Bld m rs ts ∧ 1 ≤ rs.length ∧ rs.length ≤ 200 ∧ ts[rs.length - 1]? = some t ∧
  ∀ a H', Same H H' → TrAt CT CS m H' a t → Q (.ref a) H'
set_option maxHeartbeats 8000000 in
theorem ok_ofr {f fi fk fr : Addr} {fd fdk fdr : FuncData} (F : Fun K "of_rows" "Tree.of_rows" (cT 1) f fd) (T : TS0 mg)
    (Mt : Mk K CT fi) (FI : FnR P w K mg base CX0 5 fi (spMk CT CS))
    (GK : FnOk P w K mg base CX0 1 fk fdk ["schema"] (spChk CS)) (kk : PySem.W.keepIn K (.ref fk) = true) (bK : Binds K fdk ["schema"] []) (gK : mg "check_schema" = some (.ref fk))
    (GR : FnOk P w K mg base CX0 5 fr fdr ["schema", "rows"] (spCrw CS)) (kr : PySem.W.keepIn K (.ref fr) = true) (bR : Binds K fdr ["schema", "rows"] []) (gR : mg "check_rows" = some (.ref fr)) :
    FnOk P w K mg base CX0 7 f fd ["cls", "schema", "rows"] (spOfr CT CS) := by
  refine F.ok scOfr (fun vs H Q E h => ?_) (fun cv A ou s H vs Q E hr h => ?_)
  · obtain ⟨s, R, m, rs, ts, t, rfl, _⟩ := h
    rfl
  obtain ⟨sa, R, m, rs, ts, t, rfl, hs, g, hR, bd, r1, r200, hlast, q⟩ := h
  have hr1 : Room 1 (A.deeper (envOfC "Tree.of_rows" (defScope (cT 1)) s.heap.objs.size f cv)) := hr.mono (by decide)
  have hr5 : Room 5 (A.deeper (envOfC "Tree.of_rows" (defScope (cT 1)) s.heap.objs.size f cv)) := hr.mono (by decide)
  refine ⟨_, pss_cons (ps_expr (pe_call GK hr1 (by rfl) gK kk bK .nil pass0 (pa_cons (pv 1) pa_nil)))
    (pss_cons (ps_expr (pe_call GR hr5 (by rfl) gR kr bR .nil pass0 (pa_cons (pv 1) (pa_cons (pv 2) pa_nil))))
    (pss_cons (ps_set (i := 3) scOfr.nd rfl (.inr rfl) (pe_lst pa_nil))
    (pss_cons (ps_for PassesOwn.never rfl (pi_tup (pv 2)) (pg_tup rfl (pgs_cons (pg_name (i := 4) scOfr.nd rfl (.inl rfl)) (pgs_cons (pg_name (i := 5) scOfr.nd rfl (.inl rfl)) pgs_nil)))
      (pss_cons (ps_setLc (i := 6) (own := [("number", 7)]) (g := gName 7) (tt := tYes) (by rfl) scOfr.nd rfl rfl (sw_true rfl rfl rfl (by decide +kernel)) (pi_tup (pv 5)) (blkOk_by (own := [("number", 7)]) (N := nOfr) (sc := defScope (cT 1)) (by decide +kernel))
          (fun _ _ _ _ _ => pg_name (i := 7) scOfr.nd rfl (Or.inl rfl)) (fun _ _ _ _ _ => pts_nil) (fun _ _ _ _ _ => asTE (te := tOp (rIxL K) (tVar 3) (tVar 7)) (pe_ix ix_list (pv 3) (pv 7) (fun _ _ => rfl)) rfl))
      (pss_one (ps_expr (pe_bm PySem.F.plainAttrs_list PySem.F.slot_list_append PySem.F.type_list_append mt_append (pv 3) (pa_cons (pe_makeVS (pv 0) Mt FI hr pass0 (pa_cons (pv 1) (pa_cons (pv 4) (StX.pa_star (pv 6) pa_nil)))) pa_nil))))))
    (pss_one (ps_ret (pe_ix ix_list (pv 3) (pe_un un_neg pe_int) (fun _ _ => rfl))))))), ?_⟩
  obtain ⟨xs, eR, pR⟩ := id hR
  have lx : xs.length = rs.length := Paired.length pR
  refine ⟨.ref sa, rfl, sa, m, rfl, hs, .ref sa, rfl, .ref R, rfl, sa, R, m, rs, ts, rfl, hs, g, hR, bd, r1, r200, fun H1 s1 => ?_⟩
  refine ⟨(by show 0 ≤ sizeLine; exact Nat.zero_le _), fun M nM => ?_⟩
  have sM := s1.trans (same_new (o := .lst []) nM)
  have nMH : H M = none := by
    cases z : H M with
    | none => rfl
    | some o => rw [s1 _ _ z] at nM; cases nM
  refine ⟨.ref R, rfl, R, rfl, ⟨_, SqT.of (sM _ _ eR)⟩, for_tup (K := K) (a := R) (xs := xs) (fun i σ H' => ∃ (o4 o5 o6 : Option V) (as : List Addr), σ = [some (.ref CT), some (.ref sa), some (.ref R), some (.ref M), o4, o5, o6, none] ∧ Same H H' ∧ H' M = some (.lst (as.map V.ref)) ∧ as.length = i ∧
      ∀ (j : Nat) (a : Addr) (u : Tr), as[j]? = some a → ts[j]? = some u → TrAt CT CS m H' a u) ⟨none, none, none, [], rfl, sM, upd_same, rfl, fun j a u e _ => by simp at e⟩ (fun i σ H' _ p => ?_) ?_ ?_⟩
  · obtain ⟨_, _, _, _, _, s2, _⟩ := p
    exact SqT.of (s2 _ _ eR)
  · rintro i x σ H2 hx ⟨o4, o5, o6, as, rfl, s2, eM, la, tt⟩
    obtain ⟨r, hr2, hrow⟩ := par_at pR hx
    have hi : i < rs.length := (List.getElem?_eq_some_iff.mp hr2).1
    have hit : i < ts.length := by rw [← bd.len]; exact hi
    obtain ⟨u, ht⟩ : ∃ u, ts[i]? = some u := ⟨_, List.getElem?_eq_getElem hit⟩
    obtain ⟨en, ln, kk⟩ := bd.at_ i r u hr2 ht
    have oku := bd.ok u (List.mem_of_getElem? ht)
    have k3 := u.kids3
    obtain ⟨b, q0, rfl, eb, eq0⟩ := RowN.keep hrow s2
    have lbs : (r.2.map fun n => as.getD n 0).length = r.2.length := List.length_map ..
    refine ⟨b, _, rfl, SqT.of eb, rfl, _, _, rfl, _, _, rfl, rfl, ?_⟩
    have get : ∀ (j n : Nat), r.2[j]? = some n → as[n]? = some (as.getD n 0) := fun j n e => by
      have hj : j < u.kids.length := by
        have := (List.getElem?_eq_some_iff.mp e).1
        omega
      obtain ⟨hn, _⟩ := kk j n _ e (List.getElem?_eq_getElem hj)
      have hl : n < as.length := by omega
      rw [List.getD_eq_getElem?_getD, List.getElem?_eq_getElem hl]
      rfl
    refine ⟨.ref q0, rfl, q0, rfl, ⟨_, SqT.of eq0⟩, fun D nD => lc_funT (K := K) (a := q0) (xs := nsV r.2) (ys := (r.2.map fun n => as.getD n 0).map V.ref) (fun _ => rfl) nD (SqT.of eq0) (by rw [nsV_len]; omega) (by rw [List.length_map, lbs, nsV_len]) (fun j y z H3 hy hz s3 pq => ?_) fun H3 s3 eD => ?_⟩
    · intro k
      unfold nsV at hy
      rw [List.getElem?_map] at hy hz
      rw [List.getElem?_map] at hz
      cases hn : r.2[j]? with
      | none => rw [hn] at hy; cases hy
      | some n =>
        rw [hn] at hy hz
        cases hy
        cases hz
        exact ⟨.ref M, rfl, .int ((n : Nat) : Int), rfl, M, _, _, _, rfl, rfl, SqL.of (s3 _ _ eM), atI_nat (by rw [List.getElem?_map, get j n hn]; rfl), k H3 fun _ _ e => e⟩
    have eM3 := s3 _ _ eM
    have s23 := s2.trans s3
    refine ⟨.ref M, rfl, .inl ⟨rfl, _, SqL.of eM3⟩, .ref CT, rfl, rfl, .ref sa, rfl, .str r.1, rfl, .ref D, rfl, D, _, rfl, .inr (SqL.of eD), fun y dy ny nd _ => ?_⟩
    have sb := mk_baseT (C := CT) ny nd
    have kid : Kids CT CS m H3 (r.2.map fun n => as.getD n 0) u.kids := ⟨by rw [lbs, ln], fun j a c ea ec => by
      rw [List.getElem?_map] at ea
      cases hn : r.2[j]? with
      | none => rw [hn] at ea; cases ea
      | some n =>
        rw [hn] at ea
        cases ea
        exact (tt n _ c (get j n hn) (kk j n c hn ec).2).keep s3⟩
    refine ⟨y, dy, sa, m, u, r.2.map fun n => as.getD n 0, by rw [List.append_nil, en], upd_same, (hs.keep s23).keep sb, g, oku, kid.keep sb, Nat.le_trans (bd.sub_len ht) (by omega), fun H4 bt ht4 => ⟨rfl, ?_⟩⟩
    have s4 := mk_sameT ny nd bt
    have eM4 := s4 _ _ eM3
    have n5 : Nl H4 (upd H4 M (.lst (as.map V.ref ++ [.ref y]))) := Nl.upd eM4
    refine ⟨M, _, _, rfl, rfl, eM4, by rw [List.length_map, la]; exact small1000 (by omega), _, _, _, as ++ [y], rfl, same_upd (s23.trans s4) nMH, by rw [upd_same, List.map_append]; rfl, by rw [List.length_append, la]; rfl, fun j a v ea ev => ?_⟩
    by_cases hj : j < i
    · rw [List.getElem?_append_left (by omega)] at ea
      exact ((tt j a v ea ev).keep (s3.trans s4)).nl n5
    · have hj2 : j = i := by
        have := (List.getElem?_eq_some_iff.mp ea).1
        rw [List.length_append, List.length_singleton] at this
        omega
      subst hj2
      rw [List.getElem?_append_right (by omega), la, Nat.sub_self] at ea
      cases ea
      rw [ht] at ev
      cases ev
      exact ht4.nl n5
  · rintro σ H2 ⟨o4, o5, o6, as, rfl, s2, eM, la, tt⟩
    have hl : rs.length - 1 < as.length := by omega
    have ea : as[rs.length - 1]? = some as[rs.length - 1] := List.getElem?_eq_getElem hl
    exact ⟨.ref M, rfl, _, rfl, M, _, _, .ref as[rs.length - 1], rfl, rfl, SqL.of eM, last_at (n := rs.length) (by rw [List.length_map, la, lx]) (by rw [List.getElem?_map, ea]; rfl), q _ H2 s2 (tt _ _ t ea hlast)⟩
end
end Ks
set_option Elab.async false
set_option linter.all false
set_option maxRecDepth 100000
set_option maxHeartbeats 4000000
/-! raise C(e), C an own class of one field over any built-in base -/
namespace Gd
open PySem PySem.Spec PyProof.Rows L2
open PySem.W (excInitIn excOver excTail)
section
variable {X : Cx} {CX : CXT} {k : Nat} {f C : Addr} {fd : FuncData} {ps : List Str} {sp : Sp} {x : Str} {p pos : Pos} {e : Expr}
theorem run_rai {pins : List (Addr × Obj)} {σ : L2.St} {H : Hp} {s : Shared} {Q : XK} {us ws : List Value} {kw : List (Str × Value)} {zs : List V} (N : Ini X.K C f) (ty : PySem.W.typeIn X.K (.ref C) = some (.type "type")) (F : FnOk X.prog X.w X.K X.mg X.base CX k f fd ps sp) (hR : Room (k + 1) X.A)
    (hx : Passes CX X E0) (I : Inv X pins σ H s) (hl : us.length ≤ sizeLine) (hB : ∀ (s' : Shared) (self : Value), X.K.In s'.heap → BindsTo s' fd ⟨self :: us, kw⟩ (ps.zip (self :: ws))) (hV : Vals zs ws)
    (h : ∀ a, H a = none → sp (.ref a :: zs) (upd H a (exo a C none)) (fun v H2 => v = .non ∧ ∃ d fs, H2 a = some (exo a C (some d)) ∧ H2 d = some (exd d fs) ∧ H d = none ∧ Q (.ref C) (some d) (upd (del H2 a) d (.xd fs))) E0) : wpAny (model X.prog X.w) X.A (call (.ref C) us kw) (MkP X pins σ Q) X.xe s := by
  obtain ⟨B, nid, iid, tl, FB, SF, hin, hov⟩ := N.xc.base
  obtain ⟨hp, g, dr, t0, os⟩ := s
  obtain ⟨nm, N', qn, bs, bm, hdct, sn, sub, ab, col, dd, k0, k1, k2, k3, k5, hC, hT⟩ := PySem.W.excInit_of I.kIn hin
  have le1 : hp.objs.size ≤ hp.objs.size + 1 := Nat.le_succ _
  have n1 : H (hp.objs.size + 1) = none := I.hok.fresh le1
  have q1 := h (hp.objs.size + 1) n1
  have kk : ∀ b o, hp.get? b = some o → ((hp.push (PySem.W.kdv_tup us)).push (PySem.HandSPX.excO C hp.objs.size)).get? b = some o := fun b o e => Heap.get?_push_of_some _ (Heap.get?_push_of_some _ e)
  have g1 : ((hp.push (PySem.W.kdv_tup us)).push (PySem.HandSPX.excO C hp.objs.size)).get? (hp.objs.size + 1) = some (PySem.HandSPX.excO C hp.objs.size) := by heap_get
  have I2 : Inv X pins σ (upd H (hp.objs.size + 1) (exo (hp.objs.size + 1) C none)) ⟨(hp.push (PySem.W.kdv_tup us)).push (PySem.HandSPX.excO C hp.objs.size), g, dr, t0, os⟩ :=
    I.laid (t' := t0) (a := hp.objs.size + 1) (o := exo (hp.objs.size + 1) C none) (h' := (hp.push (PySem.W.kdv_tup us)).push (PySem.HandSPX.excO C hp.objs.size)) kk le1 (exo_ok g1)
  have r2 : Vals (V.ref (hp.objs.size + 1) :: zs) (Value.ref (hp.objs.size + 1) :: ws) := .cons rfl hV
  have hR2 : Room k (X.A.under (.builtin "type.__call__" ⟨.ref C :: us, kw⟩)) := by
    have d1 : (X.A.under (.builtin "type.__call__" ⟨.ref C :: us, kw⟩)).depth = X.A.depth + 1 := by
      first | rfl | simp [Around.under, Code.weight, Code.isCreation, Code.isGuard, Code.isCaller, Code.frames, Code.isFrame, guardIds]
    have d2 : (X.A.under (.builtin "type.__call__" ⟨.ref C :: us, kw⟩)).units = X.A.units + 1 := by
      first | rfl | simp [Around.under, Code.cUnits, Code.frames, Code.isFrame]
    exact ⟨hR.hd, by have := hR.dp; rw [d1]; omega, by have := hR.un; rw [d2]; omega⟩
  have e0 := I2.env0
  have e1 : Env0 X.prog X.w X.K X.mg X.base (X.A.under (.builtin "type.__call__" ⟨.ref C :: us, kw⟩)) X.stack ⟨(hp.push (PySem.W.kdv_tup us)).push (PySem.HandSPX.excO C hp.objs.size), g, dr, t0, os⟩ (upd H (hp.objs.size + 1) (exo (hp.objs.size + 1) C none)) :=
    ⟨by first | exact e0.frames | (simpa [Around.under, Code.envs, Code.isFrame, pushEnvs] using e0.frames), e0.mod, e0.bs, e0.bsz, e0.funs, e0.frf, e0.hok, e0.bare⟩
  refine wpAny_call (PySem.Gk.call_kw FB hT hC (PySem.W.looks_findIn I.kIn N.at_) (fun self => PySem.W.bind_fn I.kIn self N.ty) hl
    (codeAny_mono (F.run _ X.stack _ _ ⟨Value.ref (hp.objs.size + 1) :: us, kw⟩ (Value.ref (hp.objs.size + 1) :: ws) _ _ E0 hR2 e1 (hB _ _ I2.kIn) r2 q1) fun r s' hq' => ?_))
  match r, hq' with
  | .error er, hq' => exact hx pins σ _ _ er s' I2 hq'
  | .ok (.ret u), hq' =>
    obtain ⟨v, H2, os2, bare2, un2, hok2, rv, ev, d, fs, ea, ed, hd1, q2⟩ := hq'
    subst ev
    obtain ⟨h2, g2, d2, t2, os'⟩ := s'
    exact ⟨rv, mk_end (raises_own N.xc.sB ty) I le1 kk un2 hok2 os2 bare2 ea ed hd1 q2⟩
  | .ok .next, hq' => exact False.elim hq'
  | .ok .brk, hq' => exact False.elim hq'
  | .ok .cont, hq' => exact False.elim hq'
/-- C(e): one value -/
def tRai (C : Addr) (f : Str) (te : TE) : L2.St → Hp → XK → Prop := fun σ H Q => te σ H fun v H1 => ∀ d H', Same H1 H' → H1 d = none → H' d = some (.xd [(f, v)]) → Q (.ref C) (some d) H'
theorem pmk_one {nm g : Str} {te : TE} (O : One X.prog X.w X.K X.mg X.base nm g C) (ty : PySem.W.typeIn X.K (.ref C) = some (.type "type")) (hR : Room 2 X.A) (hg : Gl X nm) (he : PE X e te) (hdb : (nm == ("__debug__" : Str)) = false := by decide)
    (hs : starEach [e] X.env = (false, eval e X.env) :: starEach [] X.env := by rfl) (hpl : (backTo pos (starEach [] X.env)).any (·.1) = false := by rfl) :
    PMk X (.Call (.Name nm p) [e] [] pos) (tRai C g te) := by
  intro pins s σ H Q I h
  obtain ⟨fa, fd, N, F, b, sb⟩ := O.ini
  refine wpAny_Call_Name_kw (ld_glob I hg O.gl ?_ hdb)
  refine PySem.W.callWith_K (h₀ := X.base) I.ok.mod.kin N.xc.kp (thn ((pa_cons he pa_nil hs).run pos pins s σ H (fun zs H1 => match zs with | [v] => ∀ d H', Same H1 H' → H1 d = none → H' d = some (.xd [(g, v)]) → Q (.ref C) (some d) H' | _ => False) I ?_) fun us s2 z2 => ?_) hs hpl
  · exact h
  obtain ⟨zs, H2, I2, r2, q2⟩ := z2
  obtain ⟨v, rfl, q2⟩ : ∃ v, zs = [v] ∧ ∀ d H', Same H2 H' → H2 d = none → H' d = some (.xd [(g, v)]) → Q (.ref C) (some d) H' := by
    match zs, q2 with
    | [v], q2 => exact ⟨v, rfl, q2⟩
  obtain ⟨u, rfl, ru⟩ := vals1 r2
  refine ⟨I2.kIn, ?_⟩
  refine run_rai (ws := [u]) (zs := [v]) N ty F hR pass0 I2 (by rw [sizeLine_eq]; exact (by decide : 1 ≤ 16777216)) (fun s' self ki => ?_) (.cons ru .nil) fun a na => ?_
  · have := b s' [self, u] ki rfl
    rw [List.append_nil] at this
    exact this
  · refine ⟨a, v, rfl, upd_same, fun d nd n => ⟨rfl, d, [(g, v)], upd_same, ?_, ?_, ?_⟩⟩
    · rw [upd_ne n, upd_same]
    · rw [upd_ne n] at nd
      exact nd
    · have nd' : H2 d = none := by rw [upd_ne n] at nd; exact nd
      refine q2 d _ (fun b o eb => ?_) nd' upd_same
      rw [upd_ne (ne_of_none eb nd'), del_ne (ne_of_none eb na), upd_ne (ne_of_none eb na), upd_ne (ne_of_none eb nd'), upd_ne (ne_of_none eb na)]
      exact eb
end
end Gd
set_option Elab.async false
set_option linter.all false
set_option maxRecDepth 100000
set_option maxHeartbeats 4000000
/-! try: body, except (A, B, C) as n: suite, the three own classes -/
namespace Gd
open PySem PySem.Spec PyProof.Rows L2
theorem fly_more {h h' B : Heap} {l : List Env} {e : Addr} {Z : Obj → Prop} (k : ∀ b o, h.get? b = some o → h'.get? b = some o) (f : HandSPX.FlyingZ B l e Z h) : HandSPX.FlyingZ B l e Z h' := by
  obtain ⟨f1, f2, f3, oe, vs, T, oT, ts, g1, g2, g3, g4, g5, g6, g7, g8, g9⟩ := f
  exact ⟨fun b o q => k b o (f1 b o q), f2, f3.of_keeps fun b o q _ => ⟨o, k b o q, rfl⟩, oe, vs, T, oT, ts, k _ _ g1, g2, g3, g4, g5, g6, k _ _ g7, g8, g9⟩
/-- what such a clause wishes of an exception of the body -/
def wTup (K : PySem.W.Frag) (n : Nat) (c1 c2 c3 : Value) (i : Nat) (ts : Addr → Value → Option Addr → TS) (Wout : WX) (D : Ends) : WX := fun cls d σ H =>
  ∃ b, PySem.W.exmAny K cls [c1, c2, c3] = some b ∧ (b = true → ∀ a, H a = none → σ.length = n → ts a cls d ⟨fun τ G => D.nx (τ.set i none) G, D.rt, fun τ G => D.bk (τ.set i none) G, fun τ G => D.ct (τ.set i none) G⟩ (σ.set i (some (.ref a))) H) ∧ (b = false → Wout cls d σ H)
section
variable {X : Cx} {x1 x2 x3 n : Str} {c1 c2 c3 : Value} {i k : Nat} {body suite : List Stmt} {b₀ : Stmt} {p1 p2 p3 tp pos hpos : Pos} {tb : WX → TS} {ts : Addr → Value → Option Addr → TS} {Wout : WX}
theorem ps_try3 (hs : X.stack = X.env :: X.outer) (hf : X.env.frame = some X.env.locals) (hN : X.N.Nodup) (hi : X.N[i]? = some n) (hln : X.env.kindOf n = some .local)
    (g1 : Gl X x1) (m1 : X.mg x1 = some c1) (g2 : Gl X x2) (m2 : X.mg x2 = some c2) (g3 : Gl X x3) (m3 : X.mg x3 = some c3) (tk : Takes X Wout)
    (hb : ∀ (W : WX) (pn : List (Addr × Obj)) (xe : Value → Shared → Prop), Takes (X.tr pn xe) W → PassesOwn (model X.prog X.w) X.A X.env xe → PSs (X.tr pn xe) body (tb W))
    (hsu : ∀ (a : Addr) (oe : Obj) (cls : Value) (d : Option Addr) (pn : List (Addr × Obj)), Zc cls d oe → (∃ vs, oe.data = .fields vs) → PSs (X.suite a ((a, oe) :: pn)) (b₀ :: suite) (ts a cls d))
    (d1 : (x1 == ("__debug__" : Str)) = false := by decide) (d2 : (x2 == ("__debug__" : Str)) = false := by decide) (d3 : (x3 == ("__debug__" : Str)) = false := by decide) :
    PS X (.Try body [.ExceptHandler (some (.Tuple [.Name x1 p1, .Name x2 p2, .Name x3 p3] k tp)) (some n) (b₀ :: suite) hpos] [] [] pos) (fun D σ H => tb (wTup X.K X.N.length c1 c2 c3 i ts Wout D) D σ H) := by
  constructor
  intro pins s σ H D I0 h0
  have okX := I0.ok
  have frX : X.A.frames = some (X.env :: X.outer) := by rw [okX.frames, hs]
  have locN : Loc X.env.scope n := .inl hln
  refine wpAny_Try_except ?_
  refine wpAny_mono ((hb (wTup X.K X.N.length c1 c2 c3 i ts Wout D) (X.pn ++ pins) (fun e t1 => wpAny (model X.prog X.w) X.A (noteFrame e X.env) (fun _ t2 => wpAny (model X.prog X.w) X.A (setFlight e none) (fun _ t3 =>
    wpAny (model X.prog X.w) X.A (handleBy e X.env [.ExceptHandler (some (.Tuple [.Name x1 p1, .Name x2 p2, .Name x3 p3] k tp)) (some n) (b₀ :: suite) hpos]) (SP X pins D) X.xe t3) X.xe t2) X.xe t1) (fun u z xx => ?_) PassesOwn.looking).run [] s σ H D (I0.toTry _) h0) (fun f s1 hsp => ?_) (fun e s1 he => he)
  · obtain ⟨a, B, y, pins2, τ, G, cls, d, rfl, J0, nb, up, sky, na, os, ag, b, hb1, hyes, hno⟩ := xx
    have J : Inv X pins τ G y := J0.ofTry okX
    have sky2 : Sky B (X.env :: X.outer) a (Zc cls d) X.env.locals z.heap := by rw [← hs]; exact sky
    show wpAny (model X.prog X.w) X.A (noteFrame (.ref a) X.env) _ _ _
    refine Sky.land Zc.steady frX hf sky2 fun h3 fl3 up3 => ?_
    -- the three classes make a tuple
    have kp : ∀ b o, h3.get? b = some o → (h3.push { cls := .type "tuple", data := .seq [c1, c2, c3].toArray }).get? b = some o := fun b o e => Heap.get?_push_of_some _ e
    have fl4 := fly_more kp fl3
    have up4 : y.heap.UpToSlots (h3.push { cls := .type "tuple", data := .seq [c1, c2, c3].toArray }) := (up.trans up3).trans (Heap.UpToSlots.of_keeps kp)
    have J3 : Inv X pins τ G { z with heap := h3 } := J.landed nb fl3.1 (up.trans up3) os ag
    have J4 : Inv X pins τ G { z with heap := h3.push { cls := .type "tuple", data := .seq [c1, c2, c3].toArray } } := J.landed nb fl4.1 up4 os ag
    obtain ⟨oe3, vs3, he3, hz3, hd3⟩ := fl3.there
    have off : ∀ {g : Heap} {o : Obj} {vs : Array Value}, g.FunFrames B (X.env :: X.outer) → g.get? a = some o → o.data = .fields vs → a ∉ frs (X.env :: X.outer) := by
      intro g o vs ff e dd hm
      obtain ⟨_, o2, e2, hnf⟩ := ff.mem hm
      rw [e] at e2
      cases e2
      exact hnf _ dd
    have nfr := off fl3.2.2.1 he3 hd3
    have nL : a ≠ X.env.locals := fun q => nfr (List.mem_filterMap.mpr ⟨X.env, List.mem_cons_self, by rw [hf, q]⟩)
    have nF : a ∉ X.fs := fun hm => by
      obtain ⟨e, he, q⟩ := List.mem_filterMap.mp hm
      exact nfr (List.mem_filterMap.mpr ⟨e, List.mem_cons_of_mem _ he, q⟩)
    have S3 := J3.suite he3 hd3 na nL nF
    refine wpAny_handleBy_cons (codeAny_handlers_test ?_) (by intro q; cases q)
    have he4 := kp _ _ he3
    have LT : PySem.W.Looks (model X.prog X.w) (h3.push { cls := .type "tuple", data := .seq [c1, c2, c3].toArray }) (typeOf (.ref a)) cls := fun A Q E t kk q => wpAny_typeOf_ref (kk _ _ he4) (by rw [hz3.1]; exact q)
    have LM := PySem.W.exm_tup3 (M := model X.prog X.w) J4.kIn LT (tp := h3.objs.size) (Heap.get?_push_size _ rfl) hb1
    have evalT : ∀ {Q : Value → Shared → Prop} {E : Value → Shared → Prop}, Q (.ref h3.objs.size) { z with heap := h3.push { cls := .type "tuple", data := .seq [c1, c2, c3].toArray } } →
        wpAny (model X.prog X.w) (X.A.mark (some (.ref a))) (eval (.Tuple [.Name x1 p1, .Name x2 p2, .Name x3 p3] k tp) X.env) Q E { z with heap := h3 } := by
      intro Q E q
      refine wpAny_Tuple_spliced ?_
      refine Calls.spliced_cons (ld_glob (X := X.suite a ((a, oe3) :: (X.pn ++ pins))) S3 g1 m1 ?_ d1)
      refine Calls.spliced_cons (ld_glob (X := X.suite a ((a, oe3) :: (X.pn ++ pins))) S3 g2 m2 ?_ d2)
      refine Calls.spliced_cons (ld_glob (X := X.suite a ((a, oe3) :: (X.pn ++ pins))) S3 g3 m3 ?_ d3)
      exact Calls.spliced_nil ⟨by rw [sizeLine_eq]; exact (by decide : 3 ≤ 16777216), q⟩
    refine evalT (LM.here ?_)
    cases b with
    | true =>
      refine codeAny_handlers_suite_as ?_
      refine HandSPX.lands_againZ fl4 fun h5 fl5 up5 => ?_
      have J5 : Inv X pins τ G { z with heap := h5 } := J.landed nb fl5.1 (up4.trans up5) os ag
      obtain ⟨oe5, vs5, he5, hz5, hd5⟩ := fl5.there
      have S5 := J5.suite he5 hd5 na nL nF
      refine store_ok (X := X.suite a ((a, oe5) :: (X.pn ++ pins))) (v := .ref a) S5 hN hi locN rfl (fun s6 S6 => ?_) (.inr hln)
      refine wpAny_mono ((hsu a oe5 cls d (X.pn ++ pins) hz5 ⟨_, hd5⟩).run [] s6 _ G _ S6 (hyes rfl a na J.len)) (fun f s7 hsp => ?_) (fun _ _ q => False.elim q)
      have leave : ∀ {τ7 : L2.St} {G7 : Hp} {Q : Shared → Prop}, Inv (X.suite a ((a, oe5) :: (X.pn ++ pins))) [] τ7 G7 s7 → (∀ s8, Inv X pins (τ7.set i none) G7 s8 → Q s8) →
          wpAny (model X.prog X.w) X.A (do bindName X.env n .none; unbindBehindTheSuite X.env n hpos) (fun _ s8 => Q s8) X.xe s7 := fun {τ7 G7 Q} S7 hq => gone_ok (S7.unsuite okX) hN hi hln hq
      cases f with
      | ret u =>
        obtain ⟨v7, τ7, G7, S7, r7, q7⟩ := hsp
        exact leave S7 fun s8 J8 => ⟨_, _, _, J8, r7, q7⟩
      | next =>
        obtain ⟨τ7, G7, S7, q7⟩ := hsp
        exact leave S7 fun s8 J8 => ⟨_, _, J8, q7⟩
      | brk =>
        obtain ⟨τ7, G7, S7, q7⟩ := hsp
        exact leave S7 fun s8 J8 => ⟨_, _, J8, q7⟩
      | cont =>
        obtain ⟨τ7, G7, S7, q7⟩ := hsp
        exact leave S7 fun s8 J8 => ⟨_, _, J8, q7⟩
    | false =>
      show wpAny _ X.A (handleBy (.ref a) X.env []) _ _ _
      refine wpAny_handleBy_nil ?_
      obtain ⟨_, _, _, oe, vs, T, oT, ts2, hea, hza, hda, hv1, _⟩ := id fl4
      unfold PySem.passOn
      refine wpAny_bind (wpAny_field hea hda hv1 ?_)
      rw [if_neg (show ¬ ((Value.ref T == Value.none) = true) from by simp)]
      have on : wpAny (model X.prog X.w) X.A (setFlight (.ref a) X.env.frame) (fun _ s8 => wpAny (model X.prog X.w) X.A (throw (.ref a) : Sem Flow) (SP X pins D) X.xe s8) X.xe { z with heap := h3.push { cls := .type "tuple", data := .seq [c1, c2, c3].toArray } } := by
        rw [hf]
        refine HandSPX.setFlight_upZ fl4 fun h5 hh5 up5 => wpAny_throw (tk _ _ ?_)
        exact ⟨a, B, y, pins, τ, G, cls, d, rfl, J, nb, up4.trans up5, .inr (.inr (by rw [hs]; exact hh5)), na, os, ag, hno rfl⟩
      first
        | exact wpAny_bind (wpAny_pure (wpAny_bind on))
        | exact wpAny_bind on
  · cases f with
    | ret u =>
      obtain ⟨v, τ, G, J0, r, q⟩ := hsp
      exact ⟨v, τ, G, J0.ofTry okX, r, q⟩
    | next =>
      obtain ⟨τ, G, J0, q⟩ := hsp
      exact wpAny_execs_nil ⟨τ, G, J0.ofTry okX, q⟩
    | brk =>
      obtain ⟨τ, G, J0, q⟩ := hsp
      exact ⟨τ, G, J0.ofTry okX, q⟩
    | cont =>
      obtain ⟨τ, G, J0, q⟩ := hsp
      exact ⟨τ, G, J0.ofTry okX, q⟩
end
end Gd
set_option Elab.async false
set_option linter.all false
set_option maxRecDepth 100000
set_option maxHeartbeats 4000000
/-! the exception that is handled, handed to a def: its class asked, its field read; repr of any plain thing -/
namespace Gd
open PySem PySem.Spec PyProof.Rows L2
/-! ### repr(x), x plain data of any kind -/
def rShowV (K : PySem.W.Frag) : List V → Hp → VK → Prop := fun xs H Q => ∃ (v : V) (d : PyData), xs = [v] ∧ Dp K H v d ∧ d.showable = true ∧ d.hasDict = false ∧ d.depth ≤ 60 ∧ d.shown.length ≤ sizeLine ∧ Q (.str d.shown) H
theorem call_showV {X : Cx} (hG : X.A.guards = some []) (hu : X.A.units + 64 < cLine) : CallR X (.builtin "repr") (rShowV X.K) := by
  intro pins s σ H xs us Q I r h
  obtain ⟨v, d, rfl, hd, hs, hn, hz, hl, q⟩ := h
  obtain ⟨u, rfl, ru⟩ := vals1 r
  cases hd with
  | non =>
    cases (show u = Value.none from ru)
    exact PySem.P.repr_of_none ⟨.str "None", H, I.tok _, ⟨_, rfl⟩, q⟩
  | bl b =>
    cases (show u = Value.bool b from ru)
    refine PySem.P.repr_of_bool ?_
    cases b with
    | true => exact ⟨.str "True", H, I.tok _, ⟨_, rfl⟩, q⟩
    | false => exact ⟨.str "False", H, I.tok _, ⟨_, rfl⟩, q⟩
  | int i =>
    obtain ⟨t, rfl⟩ := (show ∃ t, u = Value.int i t from ru)
    refine PySem.P.repr_of_int ?_ ⟨.str (toString i), H, I.tok _, ⟨_, rfl⟩, q⟩
    rw [PyData.showable] at hs
    exact of_decide_eq_true hs
  | str z =>
    obtain ⟨t, rfl⟩ := (show ∃ t, u = Value.str z t from ru)
    exact PySem.P.repr_of_str ⟨.str (reprText z), H, I.tok _, ⟨_, rfl⟩, q⟩ hl
  | lst h1 h2 => exact call_show hG hu pins s σ H _ _ Q I r ⟨_, _, rfl, .lst h1 h2, hs, hn, hz, hl, q⟩
  | tup h1 h2 => exact call_show hG hu pins s σ H _ _ Q I r ⟨_, _, rfl, .tup h1 h2, hs, hn, hz, hl, q⟩
/-! ### the exception that is handled -/
/-- its object is known and stays: of the class C, its dict at d -/
def Pnd (X : Cx) (a C d : Addr) : Prop := ∃ oe : Obj, (a, oe) ∈ X.pn ∧ Zc (.ref C) (some d) oe ∧ ∃ vs, oe.data = .fields vs
theorem Pnd.obj {X : Cx} {pins : List (Addr × Obj)} {σ : L2.St} {H : Hp} {s : Shared} {a C d : Addr} {fs : List (Str × V)} (p : Pnd X a C d) (I : Inv X pins σ H s) (e : H d = some (.xd fs)) :
    ∃ (ox od : Obj) (mA : Str → Option Value), PySem.W.InstAt s.heap a ox C (some od) ∧ (∀ name, PySem.W.lookIn name od = some (mA name)) ∧ ∀ f, RelO (fs.lookup f) (mA f) := by
  obtain ⟨oe, hm, hz, vs, hd⟩ := p
  obtain ⟨ha, _⟩ := I.pin (a, oe) (List.mem_append_left _ hm)
  obtain ⟨mA, hns, hr⟩ := (show ObjOk X.prog X.w H s.heap d (.xd fs) from I.hok d _ e)
  obtain ⟨od, ho, hl⟩ := lookIn_ns hns
  exact ⟨oe, od, mA, ⟨ha, hz.1, by unfold PySem.W.notCls; rw [hd] <;> rfl, by rw [hz.2]; exact ho⟩, hl, hr⟩
/-- isinstance(e, c) -/
def rIsP (X : Cx) : List V → Hp → VK → Prop := fun xs H Q => ∃ (a C d : Addr) (fs : List (Str × V)) (c : V) (u : Value) (b : Bool), xs = [.ref a, c] ∧ Pnd X a C d ∧ H d = some (.xd fs) ∧ ClsV c u ∧ XC X.K C ∧ PySem.W.kitOne X.K (.ref C) u = some b ∧ Q (.bl b) H
theorem call_isP {X : Cx} : CallR X (.builtin "isinstance") (rIsP X) := by
  intro pins s σ H xs us Q I r h
  obtain ⟨a, C, d, fs, c, u, b, rfl, pn, ed, k, T, e, q⟩ := h
  obtain ⟨u1, u2, rfl, r1, r2⟩ := vals2 r
  have e2 := k.eq r2
  subst e2
  have e1 : u1 = Value.ref a := r1
  subst e1
  have hcl : (PySem.W.clsIn X.K C).isSome = true := by
    obtain ⟨cd, hc, _⟩ := PySem.W.any_some T.hd
    rw [hc]
    rfl
  obtain ⟨ox, od, mA, J, hl, rel⟩ := pn.obj I ed
  exact PySem.W.kia_one (PySem.W.kitx_exc hcl T.ga T.gg T.sB T.ca T.cn T.ct T.mo) I.kIn J e (fun z => nomatch z) fun tk => ⟨.bl b, H, I.tok tk, rfl, q⟩
/-- e.f -/
def tFp (X : Cx) (f : Str) (te : TE) : TE := fun σ H Q => te σ H fun x H1 => ∃ (a C d : Addr) (fs : List (Str × V)) (v : V), x = .ref a ∧ Pnd X a C d ∧ XC X.K C ∧ PySem.W.findIn X.K (.ref C) f = some none ∧ H1 d = some (.xd fs) ∧ fs.lookup f = some v ∧ Q v H1
theorem pe_fp {X : Cx} {e : Expr} {te : TE} {pos : Pos} {f : Str} (he : PE X e te) (hb : attributeBase e f X.env (eval e X.env) = eval e X.env := by rfl) : PE X (.Attribute e f pos) (tFp X f te) := by
  constructor
  intro pins s σ H Q I h
  refine attr_of hb (thn (he.run pins s σ H _ I h) fun u s1 z => ?_)
  obtain ⟨x, H1, I1, rx, a, C, d, fs, v, ex, pn, T, hno, ed, l, q⟩ := z
  subst ex
  have eu : u = Value.ref a := rx
  subst eu
  obtain ⟨ox, od, mA, J, hl, rel⟩ := pn.obj I1 ed
  obtain ⟨u2, hu, ru⟩ := RelO.some_of (v := v) (o := mA f) (by rw [← l]; exact rel f)
  exact HandSPX.exc_get I1.kIn J T.ga T.gg T.sB (PySem.W.findObj_own T.hd hno rfl (by rw [hl, hu])) (handed_of ru) ⟨v, H1, I1.tok _, ru, q⟩
/-! ### a def that gets it -/
abbrev SpE : Type := Value → Option Addr → Hp → VK → Prop
structure FnE (P : Program) (w : World) (K : PySem.W.Frag) (mg : Str → Option Value) (base : Heap) (k : Nat) (f : Addr) (fd : FuncData) (y : Str) (sp : SpE) : Prop where
  run : ∀ (A : Around) (ou : List Env) (s : Shared) (H : Hp) (gs : Args) (p : Addr × Obj) (cls : Value) (d : Option Addr) (Q : VK), A.guards = some [] → L2H.RoomH k A → L2H.PinOk ou H s p → Zc cls d p.2 → (∃ vs, p.2.data = .fields vs) → Env0 P w K mg base A ou s H →
    BindsTo s fd gs [(y, .ref p.1)] → sp cls d H Q → codeAny (model P w) A (.call (.ref f) gs) (CR CX0 ou P w H s Q E0) s
theorem okE {P : Program} {w : World} {K : PySem.W.Frag} {mg : Str → Option Value} {base : Heap} {x qn y : Str} {st : Stmt} {f : Addr} {fd : FuncData} {N : List Str} {k : Nat} {sp : SpE} (F : Fun K x qn st f fd) (S : FnScope N [y] (defScope st))
    (hb : ∀ (cv : Value) (A : Around) (ou : List Env) (s : Shared) (H : Hp) (p : Addr × Obj) (cls : Value) (d : Option Addr) (Q : VK), A.guards = some [] → L2H.RoomH k (A.deeper (envOfC qn (defScope st) s.heap.objs.size f cv)) → Zc cls d p.2 → (∃ vs, p.2.data = .fields vs) → sp cls d H Q →
      ∃ t, PSs (L2H.cxH CX0 P w K mg base N qn (defScope st) f cv A ou s H E0 p) (defBody st) t ∧ t { nx := fun _ H' => Q .non H', rt := Q } (start N [.ref p.1]) H) : FnE P w K mg base (k + 1) f fd y sp := by
  obtain ⟨oc, od, kV, dc, pm, an, cv, ct, osl, rfl, lk, hc⟩ := F.ex
  constructor
  intro A ou s H gs p cls d Q hG hR hP hz hf e0 hB hS
  have inK : K.In s.heap := e0.mod.kin.keeps (fun b o e => (e0.bs b o e).left)
  have noL : s.heap.NoLimit := e0.mod.nolimit.keeps (fun b o e => (e0.bs b o e).left)
  have kinds : ∀ q ∈ [(y, Value.ref p.1)], (defScope st).names.lookup q.1 = some .local ∨ ((defScope st).names.lookup q.1 = some .cell ∧ ((cellsFrom (s.heap.objs.size + 1) (defScope st).names []).lookup q.1).isSome = true) := by
    intro q hq
    rw [List.mem_singleton.mp hq]
    cases S.par y (List.mem_singleton.mpr rfl) with
    | inl q => exact .inl q
    | inr q => exact .inr ⟨q, PySem.W.cellsFrom_some _ _ _ (.inl q)⟩
  refine codeAny_call_function hR.depth (inK _ _ lk) rfl S.co S.gen rfl (PySem.W.codeRec_of inK hc) (hB _ _ _ _ ?_)
  refine wpAny_newFunctionEnv_cells S.kind kinds fun ev he s2 y2 => ?_
  subst he
  refine ⟨noL.keeps y2.toInCall.keep, codeAny_func ?_⟩
  obtain ⟨t, ht, hq⟩ := hb cv A ou s H p cls d Q hG (hR.deeper _) hz hf hS
  have J0 : Inv (L2H.cxH CX0 P w K mg base N qn (defScope st) f cv A ou s H E0 p) [] (start N [.ref p.1]) H s2 := L2H.inv_startH (ps := [y]) (us := [.ref p.1]) S hP e0 rfl (.cons rfl .nil) y2
  refine wpAny_mono (ht.run [] s2 (start N [.ref p.1]) H _ J0 hq) (fun fl s3 h3 => ?_) fun _ _ z => z
  have fin : ∀ {τ : L2.St} {H' : Hp} {v : V} {u : Value}, Inv (L2H.cxH CX0 P w K mg base N qn (defScope st) f cv A ou s H E0 p) [] τ H' s3 → RelV v u → Q v H' → CE ou P w H s Q u s3 := by
    intro τ H' v u J rv q
    exact ⟨v, H', J.os, J.bare, J.base, J.hok, rv, q⟩
  match fl, h3 with
  | .ret u, ⟨v, τ, H', J, rv, q⟩ => exact fin J rv q
  | .next, ⟨τ, H', J, q⟩ => exact fin (v := V.non) (u := Value.none) J rfl q
  | .brk, ⟨_, _, _, q⟩ => exact False.elim q
  | .cont, ⟨_, _, _, q⟩ => exact False.elim q
/-- f(e) in the suite that handles e -/
theorem pe_callE {X : Cx} {a : Addr} {oe : Obj} {cls : Value} {d : Option Addr} {pn : List (Addr × Obj)} {k i : Nat} {f : Addr} {fd : FuncData} {x n y : Str} {sp : SpE} {p1 p2 pos : Pos} (F : FnE X.prog X.w X.K X.mg X.base k f fd y sp) (hG : X.A.guards = some []) (hR : L2H.RoomH k X.A)
    (hz : Zc cls d oe) (hf : ∃ vs, oe.data = .fields vs) (hg : Gl X x) (hm : X.mg x = some (.ref f)) (hk : PySem.W.keepIn X.K (.ref f) = true) (hb : Binds X.K fd [y] []) (hN : X.N[i]? = some n) (hv : Vis X.env.scope n)
    (hdb : (x == ("__debug__" : Str)) = false := by decide) (hd : (n == ("__debug__" : Str)) = false := by decide) (hcd : (n == ("__classdict__" : Str)) = false := by decide) :
    PE (X.suite a ((a, oe) :: pn)) (.Call (.Name x p1) [.Name n p2] [] pos) (fun σ H Q => σ[i]? = some (some (.ref a)) ∧ sp cls d H Q) := by
  constructor
  intro pins s σ H Q I h
  obtain ⟨hs, hsp⟩ := h
  refine wpAny_Call_Name_kw (ld_glob I hg hm ?_ hdb)
  refine PySem.W.callWith_K (h₀ := X.base) I.ok.mod.kin hk ?_ (by rfl) (by rfl)
  refine Calls.spliced_cons (thn ((pe_var (X := X.suite a ((a, oe) :: pn)) (pos := p2) (i := i) hN hv hd hcd).run pins s σ H (fun v H1 => v = .ref a ∧ H1 = H) I ⟨.ref a, hs, rfl, rfl⟩) fun u s1 z => ?_)
  obtain ⟨v, H1, I1, r1, ev, eH⟩ := z
  subst ev eH
  have eu : u = Value.ref a := r1
  subst eu
  refine Calls.spliced_nil ⟨I1.kIn, ?_⟩
  have P1 := I1.pin (a, oe) (List.mem_append_left _ List.mem_cons_self)
  have hpin : L2H.PinOk X.stack H1 s1 (a, oe) := ⟨P1.1, P1.2.1, fun hm => (List.mem_cons.mp (I1.stkSub a hm)).elim P1.2.2.1 P1.2.2.2.1, P1.2.2.2.2⟩
  have b := hb s1 [.ref a] I1.kIn rfl
  rw [List.append_nil] at b
  refine wpAny_call (codeAny_mono (F.run (X.A.mark (some (.ref a))) X.stack s1 H1 ⟨[.ref a], []⟩ (a, oe) cls d Q hG ⟨hR.dp, hR.un⟩ hpin hz hf I1.env0 b hsp) fun r s' hq => ?_)
  match r, hq with
  | .error e, hq => exact (show False from hq).elim
  | .ok (.ret u), hq => exact I1.after hq
  | .ok .next, hq => exact False.elim hq
  | .ok .brk, hq => exact False.elim hq
  | .ok .cont, hq => exact False.elim hq
end Gd
set_option Elab.async false
set_option linter.all false
set_option maxRecDepth 100000
set_option maxHeartbeats 4000000
namespace Ks
open PySem PySem.Spec PyProof.Rows L2 Gd Kx
/-! ### the services of the class of trees, for the laws about them -/
structure Tcs (P : Program) (w : World) (K : PySem.W.Frag) (mg : Str → Option Value) (base : Heap) (CT CS : Addr) : Prop where
  ch : Tch P w K mg base CT
  nb : PySem.W.findIn K (.ref CT) "__bool__" = some none
  ln : ∃ f fd, Dm K CT "__len__" f ∧ FnOk P w K mg base CX0 1 f fd ["self"] (spLnT CT CS) ∧ Binds K fd ["self"] []
  rp : ∃ f fd, Dm K CT "__repr__" f ∧ FnOk P w K mg base CX0 1 f fd ["self"] (spRpT CT CS) ∧ Binds K fd ["self"] []
  st : ∃ f fd, Dm K CT "__str__" f ∧ FnOk P w K mg base CX0 1 f fd ["self"] (spStT CT CS) ∧ Binds K fd ["self"] []
  eq : ∃ f fd, Dm K CT "__eq__" f ∧ FnOk P w K mg base CX0 2 f fd ["self", "other"] (spEqT K CT CS) ∧ Binds K fd ["self", "other"] []
  ne : PySem.W.findIn K (.ref CT) "__ne__" = some (some (.builtin "object.__ne__"))
  mo : PySem.W.mroIn K CT (.type "object") = some true
theorem sub_pos (t : Tr) : 1 ≤ (sub t).length := by
  have h : t ∈ sub t := List.mem_of_getElem? (sub_last t)
  exact List.length_pos_of_mem h
def spRgt : Sp := fun vs H Q _ => ∃ p : Addr, vs = [.ref p] ∧ DealAt H p ∧ ∀ H', Sb p H H' → Q (.bl true) H'
theorem TrAt.ins {CT CS : Addr} {H : Hp} {a : Addr} {m : Md} {t : Tr} (h : TrAt CT CS m H a t) : ∃ dx fs, H a = some (.ins CT dx fs) := by
  cases h with
  | mk e _ _ _ _ _ => exact ⟨_, _, e⟩
theorem par_has {α β : Type} {G : α → β → Prop} : ∀ {xs : List α} {rs : List β} {n : Nat} {r : β}, Paired G xs rs → rs[n]? = some r → ∃ x, xs[n]? = some x ∧ G x r
  | _, _, n, r, .nil, h => by simp at h
  | _, _, 0, r, .cons (a := i) q t, h => by
    have e := Option.some.inj h
    subst e
    exact ⟨i, rfl, q⟩
  | _, _, n + 1, r, .cons q t, h => by
    obtain ⟨x, e, z⟩ := par_has t (by simpa using h)
    exact ⟨x, by simpa using e, z⟩
theorem bld_codes {m : Md} {D : List Tr} (o : Ord D) (ok : ∀ u ∈ D, u.Ok m) : Bld m (codes D) D := by
  refine ⟨codes_len D, ok, fun i r t er et => ?_⟩
  rw [codes_at et] at er
  cases er
  refine ⟨rfl, List.length_map .., fun j n c ej ec => ?_⟩
  change (t.kids.map fun c => D.idxOf c)[j]? = some n at ej
  rw [List.getElem?_map, ec] at ej
  cases ej
  have hc := o i t et c (List.mem_of_getElem? ec)
  have h1 : D.idxOf c = (D.take i).idxOf c := by
    conv => lhs; rw [← List.take_append_drop i D]
    rw [List.idxOf_append, if_pos hc]
  refine ⟨?_, idx_at (List.mem_of_mem_take hc)⟩
  show D.idxOf c < i
  rw [h1]
  have := List.idxOf_lt_length_of_mem hc
  rw [List.length_take] at this
  omega
/-- rows, schema by name -/
def gRS {α : Type} : List α → List α → List α
  | [c], [r, s] => [c, s, r]
  | _, _ => []
theorem gRS_rel {vs : List V} {us : List Value} {zs : List V} {ws : List Value} (h : Vals vs us) (k : Vals zs ws) : Vals (gRS vs zs) (gRS us ws) := by
  cases h with
  | nil => exact .nil
  | cons a h =>
    cases h with
    | cons _ _ => exact .nil
    | nil =>
      cases k with
      | nil => exact .nil
      | cons b k =>
        cases k with
        | nil => exact .nil
        | cons c k =>
          cases k with
          | nil => exact .cons a (.cons c (.cons b .nil))
          | cons _ _ => exact .nil
/-- Tree.of_rows -/
def Ofr (P : Program) (w : World) (K : PySem.W.Frag) (mg : Str → Option Value) (base : Heap) (CT CS : Addr) : Prop :=
  ∃ (mc : Value) (p f : Addr) (fd : FuncData), ClX.CRead K CT mc ∧ ClX.CMet K CT mc "of_rows" p f ∧ FnOk P w K mg base CX0 7 f fd ["cls", "schema", "rows"] (spOfr CT CS) ∧ Binds K fd ["cls", "schema", "rows"] [] ∧ KBinds K fd ["cls", "schema", "rows"] ["rows", "schema"] gRS gRS
/-- the classes, seen from each other -/
structure Two (K : PySem.W.Frag) (CT CS : Addr) : Prop where
  ts : PySem.W.notFirst K CT (.ref CS) = true
  st : PySem.W.notFirst K CS (.ref CT) = true
  ks : PySem.W.kitOne K (.ref CS) (.ref CT) = some false
  kt : PySem.W.kitOne K (.ref CT) (.ref CS) = some false
  ot : ∀ t ∈ ["NoneType", "bool", "int", "str", "tuple", "dict"], PySem.W.notFirst K CT (.type t) = true ∧ PySem.W.kitOne K (.type t) (.ref CT) = some false ∧ PySem.W.subIn K (.ref CT) (.type t) = some false
theorem NoTr.ty {K : PySem.W.Frag} {CT CS : Addr} {H : Hp} {x : V} (h : NoTr CS H x) (TW : Two K CT CS) (Z : SCl K CS) (I : SCi K CS) : ∃ ty, TyOf K H x ty ∧ PySem.W.notFirst K CT ty = true ∧ PySem.W.kitOne K ty (.ref CT) = some false := by
  cases h with
  | non => exact ⟨_, .non, (TW.ot "NoneType" (by simp)).1, (TW.ot "NoneType" (by simp)).2.1⟩
  | bl b => exact ⟨_, .bl b, (TW.ot "bool" (by simp)).1, (TW.ot "bool" (by simp)).2.1⟩
  | int i => exact ⟨_, .int i, (TW.ot "int" (by simp)).1, (TW.ot "int" (by simp)).2.1⟩
  | str z => exact ⟨_, .str z, (TW.ot "str" (by simp)).1, (TW.ot "str" (by simp)).2.1⟩
  | tup h => exact ⟨_, .tup h, (TW.ot "tuple" (by simp)).1, (TW.ot "tuple" (by simp)).2.1⟩
  | sch h g => exact ⟨_, h.ty Z I, TW.ts, TW.ks⟩
/-- no tree -/
def NotT (K : PySem.W.Frag) (CT : Addr) (H : Hp) (x : V) : Prop := ∃ ty, TyX K H x ty ∧ PySem.W.kitOne K ty (.ref CT) = some false
end Ks
set_option Elab.async false
set_option linter.all false
set_option maxRecDepth 100000
set_option maxHeartbeats 4000000
/-! A head by one run, with facts of one's own: a Bool over the written part, and the defs. -/
namespace Gd
open PySem PySem.Spec PyProof.Rows L2
abbrev AlX : Type := Bool × List He.FnV
def obsX (tab : PySem.W.Frag → Bool) (fn : List He.FnD) (K : PySem.W.Frag) : AlX := (tab K && fn.all fun d => PySem.W.keepIn K (.ref (He.fAd K d.at_)) && (He.Fa.code d.at_ d.qual).ok K, fn.map fun d => He.fnObs K d.at_)
def SaysX (tab : PySem.W.Frag → Bool) (fn : List He.FnD) (K : PySem.W.Frag) : Prop := obsX tab fn K = (true, fn.map He.FnD.val)
def obsXG (n : Nat) (tab : PySem.W.Frag → Bool) (fn : List He.FnD) (g : Addr → Option Obj) : AlX := obsX tab fn (He.frG g (He.asG g n))
def hookX (n : Nat) (tab : PySem.W.Frag → Bool) (fn : List He.FnD) : PySem.W.Hook where
  α := AlX
  obs := fun s => obsXG n tab fn s.heap.get?
  val := fun _ => (true, fn.map He.FnD.val)
  says := fun _ h => ∃ K : PySem.W.Frag, K.In h ∧ SaysX tab fn K
  of := fun _ _ e => ⟨_, He.frG_in, e⟩
  keeps := fun _ _ _ ⟨K, hK, c⟩ k => ⟨K, PySem.W.Frag.In.keeps hK k, c⟩
theorem obsXG_eq {n : Nat} {tab : PySem.W.Frag → Bool} {fn : List He.FnD} {g : Addr → Option Obj} {s : Shared} (h : ∀ a, g a = s.heap.get? a) : obsXG n tab fn g = (hookX n tab fn).obs s := by
  obtain rfl : g = s.heap.get? := funext h
  rfl
section
variable {tab : PySem.W.Frag → Bool} {fn : List He.FnD} {K : PySem.W.Frag}
theorem SaysX.facts (c : SaysX tab fn K) : tab K = true := (He.ba (show (tab K && fn.all fun d => PySem.W.keepIn K (.ref (He.fAd K d.at_)) && (He.Fa.code d.at_ d.qual).ok K) = true from congrArg Prod.fst c)).1
/-- a def of the text where the run left it -/
theorem SaysX.fun_ (c : SaysX tab fn K) (i : Nat) {d : He.FnD} {st : Stmt} (h : fn[i]? = some d) (e : d = ⟨d.at_, d.name, d.qual, defArgs st, defBody st, defScope st⟩) : ∃ fd, Fun K d.name d.qual st (He.fAd K d.at_) fd := by
  have c2 := (He.ba (show (tab K && fn.all fun d => PySem.W.keepIn K (.ref (He.fAd K d.at_)) && (He.Fa.code d.at_ d.qual).ok K) = true from congrArg Prod.fst c)).2
  obtain ⟨k1, k2⟩ := He.ba (List.all_eq_true.mp c2 d (List.mem_of_getElem? h))
  have e1 : fn.map (fun d => He.fnObs K d.at_) = fn.map He.FnD.val := congrArg Prod.snd c
  have e2 : (fn.map fun d => He.fnObs K d.at_)[i]? = (fn.map He.FnD.val)[i]? := by rw [e1]
  rw [List.getElem?_map, List.getElem?_map, h] at e2
  obtain ⟨oc, od, osl, kV, doc, pm, an, cdv, ct, lk, hc⟩ := He.fn_ok (Option.some.inj e2) k2
  rw [e] at lk
  exact ⟨_, ⟨⟨oc, od, kV, doc, pm, an, cdv, ct, osl, rfl, lk, hc⟩, k1⟩⟩
end
theorem walk_goE {l : PySem.W.OpenLaw} {n k : Nat} {q : Program} {loose : List Str} {XP : (Str → Option Value) → Heap → Prop} {YP : World → Heap → Prop} {d : DefRec} {x : Str}
    (hn : l.most = some n) (hn2 : n ≤ sizeLine) (hdf : d.params.defaults = []) (hR : Room k callerA)
    (F : ∀ (w : World) (mg : Str → Option Value) (fa : Addr) (h : Heap), YP w h → h.Ns mainGlobals mg → mg d.name = some (.ref fa) →
      ∃ (K : PySem.W.Frag) (fd : FuncData) (sp : Sp), K.In h ∧ (∀ (s : Shared) (u : Value), BindsTo s fd ⟨[u], []⟩ [(x, u)]) ∧ (∀ (H : Hp) (a : Addr) (ns : List Int), ns.length ≤ n → SqL K H a (ns.map V.int) → sp [.ref a] H (fun v _ => v = .bl true) fun _ _ _ => False) ∧
        ∀ base : Heap, K.In base → base.Ns mainGlobals mg → Pr l.prog w K mg base CX0 k fa fd [x] sp) :
    PySem.W.WalkO q loose XP YP l.row.toRowW d [] (fun f vs => PySem.call f vs) := by
  refine Att.attach_call hn hdf fun w s0 s1 mg mb fa o pm cd doc a vs ns G Y ho hd hcd hmg hobj hints hlen hg => ?_
  obtain ⟨K, fd, sp, KX, hb, hsp, hF⟩ := F w mg fa _ Y G.T.g hmg
  exact law_go KX G.T.g G.T.b G.T.builtins G.T.nolimit hg hobj hints (Nat.le_trans hlen hn2) hR hF hb (fun H _ hS => hsp H a ns hlen hS) fun _ _ _ z => z
end Gd
set_option Elab.async false
set_option linter.all false
set_option maxRecDepth 100000
set_option maxHeartbeats 4000000
/-! raise C(), C an own class without a field; x < y of data -/
namespace Gd
open PySem PySem.Spec PyProof.Rows L2
structure Zro (K : PySem.W.Frag) (mg : Str → Option Value) (nm : Str) (C : Addr) : Prop where
  gl : mg nm = some (.ref C)
  ex : ∃ (B newId initId : String) (bmB : List Value), ExcBaseFacts B newId initId bmB ∧ PySem.W.excIn K C bmB newId = true
  kp : PySem.W.keepIn K (.ref C) = true
  sb : PySem.W.subIn K (.ref C) (.type "BaseException") = some true
  ty : PySem.W.typeIn K (.ref C) = some (.type "type")
section
variable {X : Cx}
theorem pmk_own0 {C : Addr} {bmB : List Value} {B newId initId : String} {x : Str} {p pos : Pos} (F : ExcBaseFacts B newId initId bmB) (q : PySem.W.excIn X.K C bmB newId = true) (gC : X.mg x = some (.ref C))
    (kC : PySem.W.keepIn X.K (.ref C) = true) (r : Raises X (.ref C)) (hg : Gl X x) (hdb : (x == ("__debug__" : Str)) = false := by decide) :
    PMk X (.Call (.Name x p) [] [] pos) (fun _ H Q => Q (.ref C) none H) := by
  intro pins s σ H Q I h
  refine wpAny_Call_Name_kw (ld_glob I hg gC ?_ hdb)
  refine PySem.W.callWith_K0 I.kIn kC ?_
  show wpAny _ _ (call (.ref C) []) _ _ _
  obtain ⟨bm, N, nm, qn, bs, hdct, sn, sub, ab, col, dd, k0, k1, k2, k3, k5, mN, hC, hN, hni, T⟩ := exc_obj I.kIn q
  refine wpAny_call_exc_subT F T hC hN hni (fun h' e hm => ?_) (Nat.zero_le _)
  exact mk_of I hm r h (I.hok.gone hm.new)
theorem pmk_zro {C : Addr} {x : Str} {p pos : Pos} (O : Zro X.K X.mg x C) (hg : Gl X x) (hdb : (x == ("__debug__" : Str)) = false := by decide) : PMk X (.Call (.Name x p) [] [] pos) (fun _ H Q => Q (.ref C) none H) := by
  obtain ⟨B, newId, initId, bmB, F, q⟩ := O.ex
  exact pmk_own0 F q O.gl O.kp (raises_own O.sb O.ty) hg hdb
/-- x < y of data that are alike -/
def rLtD (K : PySem.W.Frag) : R2 := fun x y H Q => ∃ d e, Dp K H x d ∧ Dp K H y e ∧ PySem.W.alike d e = true ∧ d ≠ .none ∧ d.depth ≤ 64 ∧ Q (.bl (PySem.W.dataLt d e)) H
theorem op_ltD (hu : X.A.units + 64 < cLine) : OpR X (compareOp .Lt) (rLtD X.K) := by
  intro pins s σ H x y v u Q I rx ry h
  obtain ⟨d, e, hd, he, al, nn, dd, q⟩ := h
  obtain ⟨as, r1⟩ := Dp.reads I d x v hd rx
  obtain ⟨bs, r2⟩ := Dp.reads I e y u he ry
  have hm : X.A.units + min d.depth e.depth < cLine := by omega
  exact PySem.W.rcLt_alike d e X.A s v u as bs r1 r2 al nn hm _ _ _ _ ⟨.bl _, H, I, rfl, q⟩
end
/-- such a class's facts as Bools -/
def zbm : Nat → List Value
  | 0 => [.type "ValueError", .type "Exception", .type "BaseException", .type "object"]
  | 1 => [.type "LookupError", .type "Exception", .type "BaseException", .type "object"]
  | _ => [.type "ArithmeticError", .type "Exception", .type "BaseException", .type "object"]
end Gd
set_option Elab.async false
set_option linter.all false
set_option maxRecDepth 100000
set_option maxHeartbeats 4000000
namespace Ks
open PySem PySem.Spec PyProof.Rows L2 Gd Kx
/-! ### paths in a tree -/
abbrev sTat : Stmt := Kx.topS 46
theorem scTat : FnScope ["tree", "path", "number"] ["tree", "path"] (defScope sTat) := ⟨rfl, rfl, rfl, by decide +kernel, rfl, by decide +kernel, by decide +kernel⟩
theorem scGi : FnScope ["self", "at"] ["self", "at"] (defScope (cT 9)) := ⟨rfl, rfl, rfl, by decide +kernel, rfl, by decide +kernel, by decide +kernel⟩
/-- a part of a path, right or not -/
inductive Pv (H : Hp) : V → Prop
  | int (n : Int) : Pv H (.int n)
  | bl (b : Bool) : Pv H (.bl b)
  | non : Pv H .non
  | str (z : Str) : Pv H (.str z)
  | tup {a : Addr} {xs : List V} : H a = some (.tup xs) → Pv H (.ref a)
theorem Pv.tk {H H' : Hp} {v : V} (h : Pv H v) (s : Tk H H') : Pv H' v := by
  cases h with
  | int n => exact .int n
  | bl b => exact .bl b
  | non => exact .non
  | str z => exact .str z
  | tup e => exact .tup (s _ _ e)
def isI : V → Bool
  | .int _ => true
  | _ => false
def numB : V → Int → Int → Bool
  | .int n, a, b => decide (a ≤ n) && decide (n ≤ b)
  | _, _, _ => false
/-- one step down -/
def stepT (t : Tr) : V → Option Tr
  | .int n => if 0 ≤ n then t.kids[n.toNat]? else none
  | _ => none
def walk : Tr → List V → Option Tr
  | t, [] => some t
  | t, v :: r => (stepT t v).bind fun c => walk c r
theorem num_step {t : Tr} {v : V} : numB v 0 (((t.kids.length : Nat) : Int) - 1) = (stepT t v).isSome := by
  cases v with
  | int n =>
    show (decide (0 ≤ n) && decide (n ≤ ((t.kids.length : Nat) : Int) - 1)) = (if 0 ≤ n then t.kids[n.toNat]? else none).isSome
    by_cases h0 : 0 ≤ n
    · rw [decide_eq_true h0, Bool.true_and, if_pos h0]
      by_cases h1 : n ≤ ((t.kids.length : Nat) : Int) - 1
      · rw [decide_eq_true h1, List.getElem?_eq_getElem (by omega)]
        rfl
      · rw [decide_eq_false h1, List.getElem?_eq_none (by omega)]
        rfl
    · rw [decide_eq_false h0, if_neg h0]
      rfl
  | _ => rfl
theorem step_int {t c : Tr} {v : V} (h : stepT t v = some c) : ∃ k : Nat, v = .int ((k : Nat) : Int) ∧ t.kids[k]? = some c := by
  cases v with
  | int n =>
    have h' : (if 0 ≤ n then t.kids[n.toNat]? else none) = some c := h
    by_cases h0 : 0 ≤ n
    · rw [if_pos h0] at h'
      exact ⟨n.toNat, by congr 1; omega, h'⟩
    · rw [if_neg h0] at h'
      cases h'
  | _ => cases h
section
variable {P : Program} {w : World} {K : PySem.W.Frag} {mg : Str → Option Value} {base : Heap} {CT CS IP : Addr}
def spIintV : Sp := fun vs H Q _ => ∃ v, vs = [v] ∧ Pv H v ∧ Q (.bl (isI v)) H
theorem ok_iintV {f : Addr} {fd : FuncData} (F : Fun K "is_integer" "is_integer" sIint f fd) (T : TS0 mg) (N : TsN mg) : FnOk P w K mg base CX0 1 f fd ["value"] spIintV := by
  refine F.ok scIint (fun vs H Q E h => ?_) (fun cv A ou s H vs Q E hr h => ?_)
  · obtain ⟨v, rfl, _⟩ := h
    rfl
  obtain ⟨v, rfl, pv', q⟩ := h
  refine ⟨_, pss_one (ps_ret (pe_and (pe_callB call_isi (by rfl) T.isi boot_isinstance (pa_cons (pv 0) (pa_cons (pe_bltn (v := .ty "int") (by rfl) N.int boot_int rfl) pa_nil)))
    (pe_one (pe_not (pe_callB call_isi (by rfl) T.isi boot_isinstance (pa_cons (pv 0) (pa_cons (pe_bltn (v := .ty "bool") (by rfl) N.bool boot_bool rfl) pa_nil))))))), ?_⟩
  cases pv' with
  | int n =>
    refine ⟨.int n, rfl, .int n, .ty "int", _, _, true, rfl, .ty "int", .base (.int n), kit_ty (by decide +kernel), _, rfl, iteT ?_⟩
    exact ⟨.int n, rfl, .int n, .ty "bool", _, _, false, rfl, .ty "bool", .base (.int n), kit_ty (by decide +kernel), _, rfl, q⟩
  | bl b =>
    refine ⟨.bl b, rfl, .bl b, .ty "int", _, _, true, rfl, .ty "int", .base (.bl b), kit_ty (by decide +kernel), _, rfl, iteT ?_⟩
    exact ⟨.bl b, rfl, .bl b, .ty "bool", _, _, true, rfl, .ty "bool", .base (.bl b), kit_ty (by decide +kernel), _, rfl, q⟩
  | non => exact ⟨.non, rfl, .non, .ty "int", _, _, false, rfl, .ty "int", .base .non, kit_ty (by decide +kernel), _, rfl, iteF q⟩
  | str z => exact ⟨.str z, rfl, .str z, .ty "int", _, _, false, rfl, .ty "int", .base (.str z), kit_ty (by decide +kernel), _, rfl, iteF q⟩
  | tup e => exact ⟨_, rfl, _, .ty "int", _, _, false, rfl, .ty "int", .base (.tup e), kit_ty (by decide +kernel), _, rfl, iteF q⟩
def spInumV : Sp := fun vs H Q _ => ∃ (v : V) (a b : Int), vs = [v, .int a, .int b] ∧ Pv H v ∧ Q (.bl (numB v a b)) H
theorem ok_inumV {f fi : Addr} {fd fdi : FuncData} (F : Fun K "is_number" "is_number" sInum f fd)
    (GI : FnOk P w K mg base CX0 1 fi fdi ["value"] spIintV) (ki : PySem.W.keepIn K (.ref fi) = true) (bI : Binds K fdi ["value"] []) (gI : mg "is_integer" = some (.ref fi)) : FnOk P w K mg base CX0 2 f fd ["value", "least", "most"] spInumV := by
  refine F.ok scInum (fun vs H Q E h => ?_) (fun cv A ou s H vs Q E hr h => ?_)
  · obtain ⟨v, a, b, rfl, _⟩ := h
    rfl
  obtain ⟨v, a, b, rfl, pv', q⟩ := h
  refine ⟨_, pss_one (ps_ret (pe_and (pe_call GI hr (by rfl) gI ki bI .nil pass0 (pa_cons (pv 0) pa_nil)) (pe_one (pe_chain op_le op_le (pv 1) (pv 0) (pv 2))))), ?_⟩
  refine ⟨v, rfl, v, rfl, pv', ?_⟩
  cases v with
  | int n =>
    refine ⟨_, rfl, iteT ⟨.int a, rfl, .int n, rfl, _, _, rfl, rfl, _, rfl, ?_⟩⟩
    have q' : Q (.bl (decide (a ≤ n) && decide (n ≤ b))) H := q
    by_cases h1 : a ≤ n
    · rw [decide_eq_true h1] at q' ⊢
      exact iteT ⟨.int b, rfl, _, _, rfl, rfl, q'⟩
    · rw [decide_eq_false h1] at q' ⊢
      exact iteF q'
  | _ => exact ⟨_, rfl, iteF q⟩
/-- a tree at a path -/
def spTat (K : PySem.W.Frag) (CT CS IP : Addr) : Sp := fun vs H Q E => ∃ (a : Addr) (m : Md) (t : Tr) (x : V), vs = [.ref a, x] ∧ TrAt CT CS m H a t ∧
  (((∃ ty, TyX K H x ty ∧ PySem.W.kitOne K ty (.type "tuple") = some false) ∧ ∀ d H', Same H H' → H' d = some (.xd [("value", x)]) → E (.ref IP) (some d) H') ∨
   (∃ (L : Addr) (xs : List V), x = .ref L ∧ H L = some (.tup xs) ∧ (∀ v ∈ xs, Pv H v) ∧ (walk t xs = none → ∀ d H', Same H H' → H' d = some (.xd [("value", x)]) → E (.ref IP) (some d) H') ∧
     ∀ u, walk t xs = some u → ∀ b H', Same H H' → TrAt CT CS m H' b u → Q (.ref b) H'))
set_option maxHeartbeats 8000000 in
theorem ok_tat {f fi : Addr} {fd fdi : FuncData} (F : Fun K "_tree_at" "_tree_at" sTat f fd) (T : TS0 mg) (C : Tcs P w K mg base CT CS) (O : One P w K mg base "InvalidPath" "value" IP) (ty : PySem.W.typeIn K (.ref IP) = some (.type "type"))
    (GI : FnOk P w K mg base CX0 2 fi fdi ["value", "least", "most"] spInumV) (ki : PySem.W.keepIn K (.ref fi) = true) (bI : Binds K fdi ["value", "least", "most"] []) (gI : mg "is_number" = some (.ref fi)) :
    FnOk P w K mg base (CX P w) 4 f fd ["tree", "path"] (spTat K CT CS IP) := by
  refine F.okX scTat (fun vs H Q E h => ?_) (fun cv A ou s H vs Q E hr h => ?_)
  · obtain ⟨a, m, t, x, rfl, _⟩ := h
    rfl
  obtain ⟨a, m, t, x, rfl, ht, h⟩ := h
  obtain ⟨⟨Zc, Ic, gTr, _, _, ⟨pF, fF, dF, PF, FF, bFF⟩, _, _⟩, _, _, _, _, _, _, _⟩ := C
  have hr2 : Room 2 (A.deeper (envOfC "_tree_at" (defScope sTat) s.heap.objs.size f cv)) := hr.mono (by decide)
  refine ⟨_, pss_cons (ps_if (pt_not (pt_val (pe_callB call_isi (by rfl) T.isi boot_isinstance (pa_cons (pv 1) (pa_cons (pe_bltn (v := .ty "tuple") (by rfl) T.tup boot_tuple rfl) pa_nil))))) (pss_one (ps_raise rfl (takes_of rfl rfl rfl rfl) (pmk_one O ty hr2 (by rfl) (pv 1)))) pss_nil)
    (pss_cons (ps_for PassesOwn.leaving rfl (pi_tup (pv 1)) (pg_name (i := 2) scTat.nd rfl (.inl rfl))
      (pss_cons (ps_if (pt_not (pt_val (pe_call GI hr2 (by rfl) gI ki bI .nil pass0 (pa_cons (pv 2) (pa_cons pe_int (pa_cons (pe_op op_sub (pe_callB call_len_seq (by rfl) T.len PySem.boot_len (pa_cons (pe_prop (pv 0) Zc.cls PF FF hr2 bFF .nil pass0 rfl) pa_nil)) pe_int) pa_nil)))))) (pss_one (ps_raise rfl (takes_of rfl rfl rfl rfl) (pmk_one O ty hr2 (by rfl) (pv 1)))) pss_nil)
      (pss_one (ps_set (i := 0) scTat.nd rfl (.inl rfl) (pe_ix ix_tup (pe_prop (pv 0) Zc.cls PF FF hr2 bFF .nil pass0 rfl) (pv 2) (fun _ _ => rfl))))))
    (pss_one (ps_ret (pv 0)))), ?_⟩
  rcases h with ⟨⟨ty1, tx, ek⟩, q⟩ | ⟨L, xs, rfl, eL, pvs, q0, q1⟩
  · exact ⟨x, rfl, x, .ty "tuple", ty1, _, false, rfl, .ty "tuple", tx, ek, _, rfl, iteT ⟨x, rfl, fun d H' s n e => q d H' s e⟩⟩
  refine ⟨.ref L, rfl, .ref L, .ty "tuple", _, _, true, rfl, .ty "tuple", .base (.tup eL), kit_ty (by decide +kernel), _, rfl, iteF ?_⟩
  refine ⟨.ref L, rfl, L, rfl, ⟨_, SqT.of eL⟩, for_tup (K := K) (a := L) (xs := xs) (fun i σ H' => ∃ (a' : Addr) (t' : Tr) (o2 : Option V), σ = [some (.ref a'), some (.ref L), o2] ∧ Same H H' ∧ TrAt CT CS m H' a' t' ∧ walk t xs = walk t' (xs.drop i)) ⟨a, t, none, rfl, fun _ _ e => e, ht, rfl⟩ (fun i σ H' _ p => ?_) ?_ ?_⟩
  · obtain ⟨_, _, _, _, s1, _⟩ := p
    exact SqT.of (s1 _ _ eL)
  · rintro i v σ H1 hv ⟨a', t', o2, rfl, s1, h1, ew⟩
    have hi := (List.getElem?_eq_some_iff.mp hv).1
    have dr : xs.drop i = v :: xs.drop (i + 1) := by
      rw [List.drop_eq_getElem_cons hi]
      congr 1
      exact (List.getElem?_eq_some_iff.mp hv).2
    rw [dr] at ew
    have pv' := (pvs v (List.mem_of_getElem? hv)).tk (.of s1)
    cases id h1 with
    | @mk _ dx R0 sA FA _ bs e hs1 hR1 hF1 lb kb =>
    refine ⟨v, rfl, .ref a', rfl, a', dx, _, rfl, e, a', dx, _, _, rfl, e, trF_F, FA, _, rfl, .inr (SqT.of hF1), _, _, rfl, rfl, v, 0, _, rfl, pv', ?_⟩
    rw [show (((bs.map V.ref).length : Nat) : Int) = ((t'.kids.length : Nat) : Int) by rw [List.length_map, lb], num_step]
    cases hst : stepT t' v with
    | none =>
      refine ⟨_, rfl, iteT ⟨.ref L, rfl, fun d H2 s2 n e2 => q0 ?_ d H2 (s1.trans s2) e2⟩⟩
      rw [ew]
      show (stepT t' v).bind _ = none
      rw [hst]
      rfl
    | some c =>
      obtain ⟨k, rfl, ek⟩ := step_int hst
      have lk := (List.getElem?_eq_some_iff.mp ek).1
      have eb : bs[k]? = some (bs[k]'(by omega)) := List.getElem?_eq_getElem _
      refine ⟨_, rfl, iteF ⟨.ref a', rfl, a', dx, _, rfl, e, a', dx, _, _, rfl, e, trF_F, .int ((k : Nat) : Int), rfl, FA, _, _, _, rfl, rfl, SqT.of hF1, atI_nat (by rw [List.getElem?_map, eb]; rfl), _, c, _, rfl, s1, kb k _ c eb ek, ?_⟩⟩
      rw [ew]
      show (stepT t' (.int ((k : Nat) : Int))).bind _ = _
      rw [hst]
      rfl
  · rintro σ H1 ⟨a', t', o2, rfl, s1, h1, ew⟩
    rw [List.drop_length] at ew
    exact ⟨.ref a', rfl, q1 t' ew a' H1 s1 h1⟩
theorem ok_gi {f fa : Addr} {fd fda : FuncData} (F : Fun K "__getitem__" "Tree.__getitem__" (cT 9) f fd)
    (GA : FnOk P w K mg base (CX P w) 4 fa fda ["tree", "path"] (spTat K CT CS IP)) (ka : PySem.W.keepIn K (.ref fa) = true) (bA : Binds K fda ["tree", "path"] []) (gA : mg "_tree_at" = some (.ref fa)) : FnOk P w K mg base (CX P w) 5 f fd ["self", "at"] (spTat K CT CS IP) := by
  refine F.okX scGi (fun vs H Q E h => ?_) (fun cv A ou s H vs Q E hr h => ?_)
  · obtain ⟨a, m, t, x, rfl, _⟩ := h
    rfl
  obtain ⟨a, m, t, x, rfl, ht, h⟩ := h
  exact ⟨_, pss_one (ps_ret (pe_call GA hr (by rfl) gA ka bA .nil (passes_call (takes_of rfl rfl rfl rfl) (fun _ _ _ _ h => h)) (pa_cons (pv 0) (pa_cons (pv 1) pa_nil)))), .ref a, rfl, x, rfl, a, m, t, x, rfl, ht, h⟩
end
end Ks
set_option Elab.async false
set_option linter.all false
set_option maxRecDepth 100000
set_option maxHeartbeats 4000000
namespace Ks
open PySem PySem.Spec PyProof.Rows L2 Gd Kx
/-! ### rows of a text, right or not -/
def fitR (ks : List Str) (o : Option Nat) (k : Str) : Bool := match o with
  | some n => decide (ks[n]? = some k)
  | none => false
def rowB (m : Md) (ks : List Str) (r : Ro) : Bool := match m.rs.find? (fun w => decide (w.1 = r.1)) with
  | some w => decide (r.2.length = w.2.2.length) && (List.zipWith (fitR ks) r.2 w.2.2).all id
  | none => false
theorem find_row {m : Md} {z : Str} (h : z ∈ m.rs.map (·.1)) : ∃ (w : Rw) (pl : Nat), m.rs.find? (fun w => decide (w.1 = z)) = some w ∧ m.rs[pl]? = some w ∧ w.1 = z := by
  obtain ⟨w0, hw0, e0⟩ := List.mem_map.mp h
  cases e : m.rs.find? (fun w => decide (w.1 = z)) with
  | none =>
    have := List.find?_eq_none.mp e w0 hw0
    exact absurd (decide_eq_true e0) this
  | some w =>
    have h1 := List.find?_some e
    obtain ⟨pl, hpl, e2⟩ := List.getElem_of_mem (List.mem_of_find?_eq_some e)
    exact ⟨w, pl, rfl, by rw [List.getElem?_eq_getElem hpl, e2], of_decide_eq_true h1⟩
theorem find_no {m : Md} {z : Str} (h : z ∉ m.rs.map (·.1)) : m.rs.find? (fun w => decide (w.1 = z)) = none := by
  refine List.find?_eq_none.mpr fun w hw e => h (List.mem_map.mpr ⟨w, hw, of_decide_eq_true e⟩)
section
variable {P : Program} {w : World} {K : PySem.W.Frag} {mg : Str → Option Value} {base : Heap} {CS : Addr}
def spIrwO (CS : Addr) : Sp := fun vs H Q _ => ∃ (s L : Addr) (x : V) (m : Md) (r : Ro) (ks : List Str), vs = [.ref s, x, .ref L] ∧ ScAt CS H s m ∧ Good m ∧ RowO H x r ∧ r.2.length ≤ 1000 ∧ H L = some (.lst (ks.map V.str)) ∧ ks.length ≤ 200 ∧ ∀ H', Same H H' → Q (.bl (rowB m ks r)) H'
set_option maxHeartbeats 8000000 in
theorem ok_irwO {f fi fcn : Addr} {fd fdi dcn : FuncData} (F : Fun K "_is_row" "_is_row" sIrw f fd) (T : TS0 mg) (N : TsN mg) (S : Sch P w K mg base CS)
    (Dcn : Dm K CS "__contains__" fcn) (Fcn : FnOk P w K mg base CX0 2 fcn dcn ["self", "value"] (spCn K CS)) (bcn : Binds K dcn ["self", "value"] [])
    (GI : FnOk P w K mg base CX0 2 fi fdi ["value", "least", "most"] spInumV) (ki : PySem.W.keepIn K (.ref fi) = true) (bI : Binds K fdi ["value", "least", "most"] []) (gI : mg "is_number" = some (.ref fi)) :
    FnOk P w K mg base CX0 4 f fd ["schema", "row", "kinds"] (spIrwO CS) := by
  refine F.ok scIrw (fun vs H Q E h => ?_) (fun cv A ou s H vs Q E hr h => ?_)
  · obtain ⟨s, L, x, m, r, ks, rfl, _⟩ := h
    rfl
  obtain ⟨sa, L, x, m, r, ks, rfl, hs, g, ⟨b, q0, rfl, eb, eq0⟩, lr, eL, lk, q⟩ := h
  obtain ⟨Z, _, _, _, ⟨fco, dco, Mco, Fco, bco⟩⟩ := S
  have hr2 : Room 2 (A.deeper (envOfC "_is_row" (defScope sIrw) s.heap.objs.size f cv)) := hr.mono (by decide)
  refine ⟨_, pss_cons (ps_if (PW.pt (pw_or (pt_not (pt_val (pe_callB call_isi (by rfl) T.isi boot_isinstance (pa_cons (pv 1) (pa_cons (pe_bltn (v := .ty "tuple") (by rfl) T.tup boot_tuple rfl) pa_nil)))))
        (pw_or1 (pt_cmpR op_ne (pe_callB call_len_seq (by rfl) T.len PySem.boot_len (pa_cons (pv 1) pa_nil)) pe_int (nomark _))))) (pss_one (ps_ret pe_bl)) pss_nil)
    (pss_cons (ps_asg (pv 1) (pg_tup (by rfl) (pgs_cons (pg_name (i := 3) scIrw.nd rfl (.inl rfl)) (pgs_cons (pg_name (i := 4) scIrw.nd rfl (.inl rfl)) pgs_nil))))
    (pss_cons (ps_if (PW.pt (pw_or (pt_cmpR (op_notInO Dcn Fcn hr2 bcn pass0) (pv 3) (pv 0) (by rfl))
        (pw_or1 (pt_not (pt_val (pe_callB call_isi (by rfl) T.isi boot_isinstance (pa_cons (pv 4) (pa_cons (pe_bltn (v := .ty "tuple") (by rfl) T.tup boot_tuple rfl) pa_nil)))))))) (pss_one (ps_ret pe_bl)) pss_nil)
    (pss_cons (ps_set (i := 5) scIrw.nd rfl (.inl rfl) (pe_ix ix_tup (pe_meth (pv 0) Z.cls Mco Fco hr bco .nil pass0 (pa_cons (pv 3) pa_nil)) pe_int (fun _ _ => rfl)))
    (pss_cons (ps_if (pt_cmpR op_ne (pe_callB call_len_seq (by rfl) T.len PySem.boot_len (pa_cons (pv 4) pa_nil)) (pe_callB call_len_seq (by rfl) T.len PySem.boot_len (pa_cons (pv 5) pa_nil)) (nomark _)) (pss_one (ps_ret pe_bl)) pss_nil)
    (pss_cons (ps_set (i := 6) scIrw.nd rfl (.inr rfl) (pe_op op_sub (pe_callB call_len_seq (by rfl) T.len PySem.boot_len (pa_cons (pv 2) pa_nil)) pe_int))
    (pss_one (ps_ret (pe_callB (cr_all rfl) (by rfl) T.all boot_all (pa_cons (pe_lc (own := [("at", 7), ("kind", 8)]) (g := gTup K 2 (gCons (gName 7) (gCons (gName 8) gNil))) (tt := tYes) (by rfl) scIrw.nd
        (RZ.pi_zipA (by rfl) N.zip (pa_cons (pv 4) (pa_cons (pv 5) pa_nil))) (blkOk_by (own := [("at", 7), ("kind", 8)]) (N := nIrw) (sc := defScope sIrw) (by decide +kernel))
        (fun _ _ _ _ _ => pg_tup (by rfl) (pgs_cons (pg_name (i := 7) scIrw.nd rfl (Or.inl rfl)) (pgs_cons (pg_name (i := 8) scIrw.nd rfl (Or.inl rfl)) pgs_nil))) (fun _ _ _ _ _ => pts_nil)
        (fun _ _ _ _ _ => asTE (te := tAndV (tCall spInumV [] E0 (tCons (tVar 7) (tCons (tC (.int 0)) (tCons (tVar 6) tNil)))) (tOp rEq (tOp (rIxL K) (tVar 2) (tVar 7)) (tVar 8))) (pe_and (pe_call GI hr2 (by rfl) gI ki bI .nil pass0 (pa_cons (pv 7) (pa_cons pe_int (pa_cons (pv 6) pa_nil)))) (pe_one (pe_cmpR op_eq (pe_ix ix_list (pv 2) (pv 7) (fun _ _ => rfl)) (pv 8) (nomark _)))) rfl)) pa_nil))))))))), ?_⟩
  obtain ⟨dS, kA, cA, nA, ⟨dp, ea, edp⟩, ak, ac, an⟩ := id hs
  obtain ⟨ys, eac, pac⟩ := id ac
  have lq : (r.2.map oN).length = r.2.length := List.length_map ..
  refine ⟨.ref b, rfl, .ref b, .ty "tuple", _, _, true, rfl, .ty "tuple", .base (.tup eb), kit_ty (by decide +kernel), _, rfl, iteF ?_⟩
  refine ⟨.ref b, rfl, b, _, rfl, .inr (SqT.of eb), rfl, _, rfl, ?_⟩
  rw [show (!decide (V.int (([V.str r.1, V.ref q0].length : Nat) : Int) = V.int 2)) = false by rw [show ([V.str r.1, V.ref q0].length : Nat) = 2 from rfl]; rfl]
  refine iteF ?_
  refine ⟨.ref b, rfl, b, _, rfl, SqT.of eb, rfl, _, _, rfl, _, _, rfl, rfl, ?_⟩
  by_cases hm : r.1 ∈ m.rs.map (·.1)
  rotate_left
  · have ef := find_no hm
    have eb0 : rowB m ks r = false := by unfold rowB; rw [ef]
    refine ⟨.str r.1, rfl, .ref sa, rfl, sa, dS, _, rfl, ea, sa, kA, cA, nA, .str r.1, _, false, rfl, ⟨dS, _, ⟨dp, ea, edp⟩, an⟩, an, .inl ⟨r.1, rfl, (decide_eq_false hm).symm⟩, false, rfl, ?_⟩
    have := q H fun _ _ e => e
    rw [eb0] at this
    exact ⟨_, rfl, iteT this⟩
  obtain ⟨rw', pl, ef, epl, en⟩ := find_row hm
  have ezn : (m.rs.map (·.1))[pl]? = some r.1 := by rw [List.getElem?_map, epl, ← en]; rfl
  obtain ⟨y, ey, vy⟩ := rows_has' pac epl
  obtain ⟨rb, fb, rfl, erb, efb⟩ := id vy
  have lf : (rw'.2.2.map V.str).length = rw'.2.2.length := List.length_map ..
  have er : rowB m ks r = (decide (r.2.length = rw'.2.2.length) && (List.zipWith (fitR ks) r.2 rw'.2.2).all id) := by unfold rowB; rw [ef]
  rw [er] at q
  refine ⟨.str r.1, rfl, .ref sa, rfl, sa, dS, _, rfl, ea, sa, kA, cA, nA, .str r.1, _, true, rfl, ⟨dS, _, ⟨dp, ea, edp⟩, an⟩, an, .inl ⟨r.1, rfl, (decide_eq_true hm).symm⟩, true, rfl, ?_⟩
  refine ⟨_, rfl, iteF ⟨.ref q0, rfl, .ref q0, .ty "tuple", _, _, true, rfl, .ty "tuple", .base (.tup eq0), kit_ty (by decide +kernel), _, rfl, iteF ?_⟩⟩
  refine ⟨.ref sa, rfl, sa, dS, _, rfl, ea, rfl, .str r.1, rfl, sa, kA, cA, nA, _, ys, r.1, pl, .ref rb, rfl, ⟨dS, _, ⟨dp, ea, edp⟩, an⟩, an, g.rd, ezn, eac, ey, ?_⟩
  refine ⟨rb, _, _, .ref fb, rfl, rfl, SqT.of erb, rfl, ?_⟩
  refine ⟨.ref q0, rfl, q0, _, rfl, .inr (SqT.of eq0), .ref fb, rfl, fb, _, rfl, .inr (SqT.of efb), rfl, _, rfl, ?_⟩
  rw [lq, lf]
  by_cases hl : r.2.length = rw'.2.2.length
  rotate_left
  · rw [show (!decide (V.int ((r.2.length : Nat) : Int) = V.int ((rw'.2.2.length : Nat) : Int))) = true by rw [decide_eq_false (fun z => hl (by injection z with z; omega))]; rfl]
    have := q H fun _ _ e => e
    rw [decide_eq_false hl] at this
    exact iteT this
  rw [show (!decide (V.int ((r.2.length : Nat) : Int) = V.int ((rw'.2.2.length : Nat) : Int))) = false by rw [hl, decide_eq_true rfl]; rfl]
  refine iteF ⟨.ref L, rfl, L, _, rfl, .inl (SqL.of eL), _, _, rfl, rfl, ?_⟩
  have lks : (ks.map V.str).length = ks.length := List.length_map ..
  rw [lks]
  refine ⟨.ref q0, rfl, .ref fb, rfl, q0, fb, r.2.map oN, rw'.2.2.map V.str, rfl, .inr ⟨SqT.of eq0, SqT.of efb, fun D nD => lc_zipT (K := K) (a := q0) (b := fb) (xs := r.2.map oN) (ys := rw'.2.2.map V.str) (by rw [lq, lf, hl]) (fun i H' => Same H H' ∧ H' D = some (.lst (((List.zipWith (fitR ks) r.2 rw'.2.2).take i).map V.bl))) ⟨same_new nD, upd_same⟩ (fun i H' p => ⟨SqT.of (p.1 _ _ eq0), SqT.of (p.1 _ _ efb)⟩) (fun i x y U H' hx hy p nU => ?_) (fun H' p => ?_)⟩⟩
  · obtain ⟨s1, eD⟩ := p
    rw [List.getElem?_map] at hx hy
    cases ho : r.2[i]? with
    | none => rw [ho] at hx; cases hx
    | some o =>
    cases hk : rw'.2.2[i]? with
    | none => rw [hk] at hy; cases hy
    | some k =>
    rw [ho] at hx
    rw [hk] at hy
    cases hx
    cases hy
    have sU := same_new (o := .tup [oN o, .str k]) nU
    have s2 := s1.trans sU
    have ezw : (List.zipWith (fitR ks) r.2 rw'.2.2)[i]? = some (fitR ks o k) := by rw [List.getElem?_zipWith, ho, hk]
    refine ⟨U, _, rfl, SqT.of upd_same, rfl, _, _, rfl, _, _, rfl, rfl, rfl, Gd.yes_if ?_⟩
    cases o with
    | none =>
      have ef2 : fitR ks none k = false := rfl
      refine ⟨.non, rfl, .int (((ks.length : Nat) : Int) - 1), rfl, .non, 0, _, rfl, .non, _, rfl, iteF ?_⟩
      refine ⟨_, sU _ _ eD, ?_, same_upd s2 nD, ?_⟩
      · rw [List.length_map, List.length_take, List.length_zipWith]
        have := sizeLine_eq
        omega
      · rw [upd_same, List.take_add_one, ezw, ef2, Option.toList_some, List.map_append]
        rfl
    | some n =>
      refine ⟨.int ((n : Nat) : Int), rfl, .int (((ks.length : Nat) : Int) - 1), rfl, .int ((n : Nat) : Int), 0, _, rfl, .int _, _, rfl, ?_⟩
      by_cases hn : n < ks.length
      rotate_left
      · have ef2 : fitR ks (some n) k = false := by
          show decide (ks[n]? = some k) = false
          rw [List.getElem?_eq_none (by omega)]
          rfl
        rw [show numB (.int ((n : Nat) : Int)) 0 (((ks.length : Nat) : Int) - 1) = false by
          show (decide ((0 : Int) ≤ ((n : Nat) : Int)) && decide (((n : Nat) : Int) ≤ ((ks.length : Nat) : Int) - 1)) = false
          rw [decide_eq_false (show ¬ ((n : Nat) : Int) ≤ ((ks.length : Nat) : Int) - 1 by omega), Bool.and_false]]
        refine iteF ?_
        refine ⟨_, sU _ _ eD, ?_, same_upd s2 nD, ?_⟩
        · rw [List.length_map, List.length_take, List.length_zipWith]
          have := sizeLine_eq
          omega
        · rw [upd_same, List.take_add_one, ezw, ef2, Option.toList_some, List.map_append]
          rfl
      rw [show numB (.int ((n : Nat) : Int)) 0 (((ks.length : Nat) : Int) - 1) = true by
        show (decide ((0 : Int) ≤ ((n : Nat) : Int)) && decide (((n : Nat) : Int) ≤ ((ks.length : Nat) : Int) - 1)) = true
        rw [decide_eq_true (show (0 : Int) ≤ ((n : Nat) : Int) by omega), decide_eq_true (show ((n : Nat) : Int) ≤ ((ks.length : Nat) : Int) - 1 by omega)]
        rfl]
      have en1 : ks[n]? = some (ks[n]) := List.getElem?_eq_getElem hn
      refine iteT ⟨.ref L, rfl, .int ((n : Nat) : Int), rfl, L, _, _, .str (ks[n]), rfl, rfl, SqL.of (s2 _ _ eL), atI_nat (by rw [List.getElem?_map, en1]; rfl), .str k, rfl, rfl, ?_⟩
      have ef2 : fitR ks (some n) k = decide (V.str (ks[n]) = V.str k) := by
        show decide (ks[n]? = some k) = _
        rw [en1, Bool.eq_iff_iff]
        simp
      refine ⟨_, sU _ _ eD, ?_, same_upd s2 nD, ?_⟩
      · rw [List.length_map, List.length_take, List.length_zipWith]
        have := sizeLine_eq
        omega
      · rw [upd_same, List.take_add_one, ezw, ef2, Option.toList_some, List.map_append]
        rfl
  · obtain ⟨s1, eD⟩ := p
    rw [List.take_of_length_le (by rw [List.length_zipWith, lq]; exact Nat.min_le_left _ _)] at eD
    refine ⟨D, List.zipWith (fitR ks) r.2 rw'.2.2, rfl, SqL.of eD, ?_⟩
    have := q H' s1
    rw [decide_eq_true hl, Bool.true_and] at this
    exact this
end
end Ks
set_option Elab.async false
set_option linter.all false
set_option maxRecDepth 100000
set_option maxHeartbeats 4000000
/-! a def that calls what it got, catches three classes, and has another def say what was caught -/
namespace Gd
open PySem PySem.Spec PyProof.Rows L2 LamX
abbrev nTold : List Str := ["_law_act", "_law_told_here", "_law_e"]
def TTold3 (K : PySem.W.Frag) (c1 c2 c3 : Value) (sp : SpE) : (XK → Hp → VK → Prop) → Hp → VK → Prop := fun tl H Q =>
  tl (fun cls d H' => ∃ b, PySem.W.exmAny K cls [c1, c2, c3] = some b ∧ (b = true → sp cls d H' Q) ∧ (b = false → False)) H
    (fun v H' => ∃ v', (some (some v) : Option (Option V)) = some (some v') ∧ ([V.str "given", v'].length ≤ sizeLine ∧ ∀ p, H' p = none → Q (.ref p) (upd H' p (.lst [.str "given", v']))))
theorem told3 {X : Cx} {x q : Str} {sg : Scope} {g fs : Addr} {c1 c2 c3 : Value} {cdg : Value} {fds : FuncData} {sp : SpE} {k j1 j2 : Nat} {p1 p2 p3 p4 p5 p6 p7 p8 p9 p10 p11 p12 p13 p14 p15 p16 p17 p18 : Pos} (S : FnScope nTold ["_law_act"] sg)
    (le : sg.names.lookup ("_law_e" : Str) = some .local) (lt : sg.names.lookup ("_law_told_here" : Str) = some .local)
    (g1 : sg.names.lookup ("TreeError" : Str) = some .globalImplicit) (m1 : X.mg "TreeError" = some c1) (g2 : sg.names.lookup ("StateError" : Str) = some .globalImplicit) (m2 : X.mg "StateError" = some c2) (g3 : sg.names.lookup ("LimitError" : Str) = some .globalImplicit) (m3 : X.mg "LimitError" = some c3)
    (gs : sg.names.lookup ("_law_sort" : Str) = some .globalImplicit) (ms : X.mg "_law_sort" = some (.ref fs)) (F : FnE X.prog X.w X.K X.mg X.base k fs fds "_law_e" sp) (ks : PySem.W.keepIn X.K (.ref fs) = true) (bs : Binds X.K fds ["_law_e"] []) (hG : X.A.guards = some []) (hR : Room (k + 1) X.A) :
    GivesTo X nTold x sg g cdg [.Try [.Assign [.Name "_law_told_here" p1] (.Call (.Name "_law_act" p2) [] [] p3) p4] [.ExceptHandler (some (.Tuple [.Name "TreeError" p5, .Name "StateError" p6, .Name "LimitError" p7] j1 p8)) (some "_law_e") [.Return (some (.Call (.Name "_law_sort" p9) [.Name "_law_e" p10] [] p11)) p12] p13] [] [] p14,
      .Return (some (.List [.Constant (.str "given") j2 p15, .Name "_law_told_here" p16] p17)) p18] "_law_act" q (TTold3 X.K c1 c2 c3 sp) := by
  intro f c' s H Q tl act hc h
  have rm : Room k (X.A.deeper (envOfC x sg s.heap.objs.size g cdg)) := hR.deeper _
  refine ⟨_, pss_cons (ps_try3 (X := (cxOf C8.CX0 X.prog X.w X.K X.mg X.base nTold x sg g cdg X.A X.stack s H C8.E0).nox) (i := 2) (n := "_law_e") (c1 := c1) (c2 := c2) (c3 := c3)
      (tb := fun W D σ H => ∃ Ech : XK, (∀ cls d σ' H', Ech cls d H' → W cls d σ' H') ∧ σ[0]? = some (some (.ref f)) ∧ H c' = some (CodeO c' q) ∧ tl Ech H fun v H' => D.nx (σ.set 1 (some v)) H')
      rfl rfl S.nd rfl le g1 m1 g2 m2 g3 m3 LamX.takes0 (fun W pn xe tk _ => ?_) (fun a oe cls d pn hz hf => pss_one (ps_ret (pe_callE (n := "_law_e") (i := 2) F hG ⟨rm.dp, rm.un⟩ hz hf gs ms ks bs rfl (.inl le))))) (pss_one (ps_ret (pe_lst (pa_cons pe_str (pa_cons (pe_var (i := 1) rfl (.inl lt)) pa_nil))))), ?_⟩
  · refine ⟨fun pins s' σ H' D I h' => ?_⟩
    obtain ⟨Ech, hW, h1, h2, h3⟩ := h'
    have hp := act W pn xe Ech p2 p3 tk hW
    have hq := pss_one (ps_set (i := 1) (pos := p4) (pos' := p1) S.nd rfl (.inl lt) hp)
    exact hq.run pins s' σ H' D I ⟨h1, h2, h3⟩
  · refine ⟨_, fun cls d σ' H' z => ?_, rfl, hc, h⟩
    obtain ⟨b, e1, e2, e3⟩ := z
    exact ⟨b, e1, fun hb a na hl => ⟨by rw [List.getElem?_set_self (by rw [hl]; exact (by decide : 2 < 3))], e2 hb⟩, fun hb => (e3 hb).elim⟩
end Gd
set_option Elab.async false
set_option linter.all false
set_option maxRecDepth 100000
set_option maxHeartbeats 4000000
/-! a def called where an exception is handled (its repr asked there); a handled exception without attributes; readings of one call -/
namespace Gd
open PySem PySem.Spec PyProof.Rows L2
structure FnP (P : Program) (w : World) (K : PySem.W.Frag) (mg : Str → Option Value) (base : Heap) (k : Nat) (f : Addr) (fd : FuncData) (ps : List Str) (sp : Sp) : Prop where
  len : ∀ vs H Q E, sp vs H Q E → vs.length = ps.length
  run : ∀ (A : Around) (ou : List Env) (s : Shared) (H : Hp) (gs : Args) (us : List Value) (vs : List V) (Q : VK) (p : Addr × Obj), L2H.RoomH k A → L2H.PinOk ou H s p → Env0 P w K mg base A ou s H → BindsTo s fd gs (ps.zip us) → Vals vs us → sp vs H Q E0 →
    codeAny (model P w) A (.call (.ref f) gs) (CR CX0 ou P w H s Q E0) s
theorem okP {P : Program} {w : World} {K : PySem.W.Frag} {mg : Str → Option Value} {base : Heap} {x qn : Str} {st : Stmt} {f : Addr} {fd : FuncData} {N ps : List Str} {k : Nat} {sp : Sp} (F : Fun K x qn st f fd) (S : FnScope N ps (defScope st)) (hl : ∀ vs H Q E, sp vs H Q E → vs.length = ps.length)
    (hb : ∀ (cv : Value) (A : Around) (ou : List Env) (s : Shared) (H : Hp) (vs : List V) (Q : VK) (p : Addr × Obj), L2H.RoomH k (A.deeper (envOfC qn (defScope st) s.heap.objs.size f cv)) → sp vs H Q E0 →
      ∃ t, PSs (L2H.cxH CX0 P w K mg base N qn (defScope st) f cv A ou s H E0 p) (defBody st) t ∧ t { nx := fun _ H' => Q .non H', rt := Q } (start N vs) H) : FnP P w K mg base (k + 1) f fd ps sp := by
  obtain ⟨oc, od, kV, dc, pm, an, cv, ct, osl, rfl, lk, hc⟩ := F.ex
  refine ⟨hl, fun A ou s H gs us vs Q p hR hP e0 hB rv0 hS => ?_⟩
  have len := hl _ _ _ _ hS
  have inK : K.In s.heap := e0.mod.kin.keeps (fun b o e => (e0.bs b o e).left)
  have noL : s.heap.NoLimit := e0.mod.nolimit.keeps (fun b o e => (e0.bs b o e).left)
  have kinds : ∀ q ∈ ps.zip us, (defScope st).names.lookup q.1 = some .local ∨ ((defScope st).names.lookup q.1 = some .cell ∧ ((cellsFrom (s.heap.objs.size + 1) (defScope st).names []).lookup q.1).isSome = true) := by
    intro q hq
    have hm := (List.of_mem_zip (a := q.1) (b := q.2) hq).1
    cases S.par q.1 hm with
    | inl q => exact .inl q
    | inr q => exact .inr ⟨q, PySem.W.cellsFrom_some _ _ _ (.inl q)⟩
  refine codeAny_call_function hR.depth (inK _ _ lk) rfl S.co S.gen rfl (PySem.W.codeRec_of inK hc) (hB _ _ _ _ ?_)
  refine wpAny_newFunctionEnv_cells S.kind kinds fun ev he s2 y2 => ?_
  subst he
  refine ⟨noL.keeps y2.toInCall.keep, codeAny_func ?_⟩
  obtain ⟨t, ht, hq⟩ := hb cv A ou s H vs Q p (hR.deeper _) hS
  have J0 : Inv (L2H.cxH CX0 P w K mg base N qn (defScope st) f cv A ou s H E0 p) [] (start N vs) H s2 := L2H.inv_startH S hP e0 len rv0 y2
  refine wpAny_mono (ht.run [] s2 (start N vs) H _ J0 hq) (fun fl s3 h3 => ?_) fun _ _ z => z
  have fin : ∀ {τ : L2.St} {H' : Hp} {v : V} {u : Value}, Inv (L2H.cxH CX0 P w K mg base N qn (defScope st) f cv A ou s H E0 p) [] τ H' s3 → RelV v u → Q v H' → CE ou P w H s Q u s3 := by
    intro τ H' v u J rv q
    exact ⟨v, H', J.os, J.bare, J.base, J.hok, rv, q⟩
  match fl, h3 with
  | .ret u, ⟨v, τ, H', J, rv, q⟩ => exact fin J rv q
  | .next, ⟨τ, H', J, q⟩ => exact fin (v := V.non) (u := Value.none) J rfl q
  | .brk, ⟨_, _, _, q⟩ => exact False.elim q
  | .cont, ⟨_, _, _, q⟩ => exact False.elim q
theorem roomH_in1 {k : Nat} {A : Around} (r : L2H.RoomH (k + 1) A) : L2H.RoomH k A.in1 :=
  ⟨by have := r.dp; show A.depth + 3 * k + 5 < _; omega, by have := r.un; show A.units + 1 + 16 * k + 200 < _; omega⟩
theorem call_reprP {X : Cx} {k : Nat} {C f : Addr} {fd : FuncData} {ps : List Str} {sp : Sp} (D : Dm X.K C "__repr__" f) (F : FnP X.prog X.w X.K X.mg X.base k f fd ps sp) (hr : L2H.RoomH (k + 1) X.A) (hb : Binds X.K fd ps []) (hp : ∃ p, p ∈ X.pn) : CallR X (.builtin "repr") (rReprO C sp E0) := by
  intro pins s σ H xs us Q I r h
  obtain ⟨a, dx, fs, rfl, ea, q⟩ := h
  have e1 := Vals.ref1 r
  subst e1
  obtain ⟨mA, J, _⟩ := ins_get I.hok ea
  obtain ⟨od, J, _⟩ := J.look
  obtain ⟨m, hF⟩ := I.fr
  obtain ⟨p, hp⟩ := hp
  have P1 := I.pin p (List.mem_append_left _ hp)
  have hpin : L2H.PinOk X.stack H s p := ⟨P1.1, P1.2.1, fun hm => (List.mem_cons.mp (I.stkSub p.1 hm)).elim P1.2.2.1 P1.2.2.2.1, P1.2.2.2.2⟩
  have r1 := roomH_in1 hr
  have hl : ([Value.ref a] ++ ([] : List Value)).length = ps.length := by rw [List.append_nil]; exact F.len _ _ _ _ q
  have hB := hb s [.ref a] I.kIn hl
  rw [List.append_nil] at hB
  have hu : X.A.in1.units < cLine := by have := r1.un; omega
  refine PySem.W.repr_K hu hF I.ok.mod.kin J D.at_ D.fn (wpAny_call (codeAny_mono (F.run X.A.in1 X.stack s H ⟨[.ref a], []⟩ [.ref a] [.ref a] _ p r1 hpin I.env0.in1 hB r q) fun r s' hq => ?_))
  cases r with
  | error er => exact (show False from hq).elim
  | ok fl =>
    cases fl with
    | ret u =>
      obtain ⟨y, H', I', ry, z, ey, q2⟩ := I.after hq
      subst ey
      obtain ⟨t, rfl⟩ := ry
      exact ⟨.str z, H', I', ⟨_, rfl⟩, q2⟩
    | next => exact False.elim hq
    | brk => exact False.elim hq
    | cont => exact False.elim hq
/-- one call with two readings -/
theorem call_or {X : Cx} {f : Value} {r1 r2 : List V → Hp → VK → Prop} (h1 : CallR X f r1) (h2 : CallR X f r2) : CallR X f (fun xs H Q => r1 xs H Q ∨ r2 xs H Q) := by
  intro pins s σ H xs us Q I r h
  rcases h with h | h
  · exact h1 pins s σ H xs us Q I r h
  · exact h2 pins s σ H xs us Q I r h
/-- a handled exception without attributes -/
def Pn0 (X : Cx) (a C : Addr) : Prop := ∃ oe : Obj, (a, oe) ∈ X.pn ∧ Zc (.ref C) none oe ∧ ∃ vs, oe.data = .fields vs
def rIsP0 (X : Cx) : List V → Hp → VK → Prop := fun xs H Q => ∃ (a C : Addr) (c : V) (u : Value) (b : Bool), xs = [.ref a, c] ∧ Pn0 X a C ∧ ClsV c u ∧ XC X.K C ∧ PySem.W.kitOne X.K (.ref C) u = some b ∧ Q (.bl b) H
theorem call_isP0 {X : Cx} : CallR X (.builtin "isinstance") (rIsP0 X) := by
  intro pins s σ H xs us Q I r h
  obtain ⟨a, C, c, u, b, rfl, ⟨oe, hm, hz, vs, hd⟩, k, T, e, q⟩ := h
  obtain ⟨u1, u2, rfl, r1, r2⟩ := vals2 r
  have e2 := k.eq r2
  subst e2
  have e1 : u1 = Value.ref a := r1
  subst e1
  have hcl : (PySem.W.clsIn X.K C).isSome = true := by
    obtain ⟨cd, hc, _⟩ := PySem.W.any_some T.hd
    rw [hc]
    rfl
  obtain ⟨ha, _⟩ := I.pin (a, oe) (List.mem_append_left _ hm)
  have J : PySem.W.InstAt s.heap a oe C none := ⟨ha, hz.1, by unfold PySem.W.notCls; rw [hd] <;> rfl, by rw [hz.2]; trivial⟩
  exact PySem.W.kia_one (PySem.W.kitx_exc hcl T.ga T.gg T.sB T.ca T.cn T.ct T.mo) I.kIn J e (fun z => nomatch z) fun tk => ⟨.bl b, H, I.tok tk, rfl, q⟩
theorem passX0 {X : Cx} : Passes (CX X.prog X.w) X E0 := by
  intro pins σ H s e s' _ c
  obtain ⟨_, _, _, _, _, _, _, _, _, _, _, _, z⟩ := c
  exact z.elim
/-- f(k = v, ..), keywords alone -/
def tCallK0 (sp : Sp) (gV : List V → List V → List V) (E : XK) (tk : TA) : TE := fun σ H Q => tk σ H fun zs H2 => sp (gV [] zs) H2 Q E
theorem pe_callK0 {X : Cx} {CX : CXT} {k : Nat} {f : Addr} {fd : FuncData} {ps ks : List Str} {sp : Sp} {E : XK} {tk : TA} {x : Str} {p pos : Pos} {kws : List Keyword} {g : List Value → List Value → List Value} {gV : List V → List V → List V} (F : FnOk X.prog X.w X.K X.mg X.base CX k f fd ps sp) (hr : Room k X.A) (hg : Gl X x) (hm : X.mg x = some (.ref f))
    (hk : PySem.W.keepIn X.K (.ref f) = true) (hb : KBinds X.K fd ps ks g gV) (hx : Passes CX X E) (hkw : PK X kws tk) (hall : (backToKw pos (keywordEach kws X.env)).all (·.1.isSome) = true := by rfl) (hks : (backToKw pos (keywordEach kws X.env)).filterMap (·.1) = ks := by rfl)
    (hpl : ((backTo pos (starEach [] X.env)).any (·.1) || (backToKw pos (keywordEach kws X.env)).any (·.1.isNone)) = false := by rfl) (hdb : (x == ("__debug__" : Str)) = false := by decide) : PE X (.Call (.Name x p) [] kws pos) (tCallK0 sp gV E tk) := by
  refine ⟨fun pins s σ H Q I h => ?_⟩
  refine wpAny_Call_Name_kw (ld_glob I hg hm ?_ hdb)
  refine PySem.W.callWith_of hpl (PySem.W.keeps_K hk) (evalArgs_kw2_nil hall (thn (hkw.run pos pins s σ H _ I h) fun us s3 ⟨zs, H2, I3, rz, q2⟩ => ⟨I3.kIn, ?_⟩))
  rw [hks]
  exact wpAny_call (run_fnkC (us := []) (vs := []) F hr hb hx I3 .nil rz q2)
/-- two keywords, turned -/
def gCO {α : Type} : List α → List α → List α
  | [], [y, x] => [x, y]
  | _, _ => []
theorem gCO_rel {vs : List V} {us : List Value} {zs : List V} {ws : List Value} (h : Vals vs us) (k : Vals zs ws) : Vals (gCO vs zs) (gCO us ws) := by
  cases h with
  | cons _ _ => exact .nil
  | nil =>
    cases k with
    | nil => exact .nil
    | cons b k =>
      cases k with
      | nil => exact .nil
      | cons c k =>
        cases k with
        | nil => exact .cons c (.cons b .nil)
        | cons _ _ => exact .nil
end Gd
set_option Elab.async false
set_option linter.all false
set_option maxRecDepth 100000
set_option maxHeartbeats 4000000
/-! own error classes of one field, their facts as Bools -/
namespace Gd
open PySem PySem.Spec PyProof.Rows L2
structure Xd where
  nm : Str
  ba : Nat
  f : Str
def xtl : Nat → List Value
  | 0 => [.type "ValueError", .type "Exception", .type "BaseException", .type "object"]
  | 1 => [.type "LookupError", .type "Exception", .type "BaseException", .type "object"]
  | _ => [.type "ArithmeticError", .type "Exception", .type "BaseException", .type "object"]
def xnid : Nat → String
  | 0 => "ValueError.__new__"
  | 1 => "LookupError.__new__"
  | _ => "ArithmeticError.__new__"
def xclB (K : PySem.W.Frag) (C : Addr) (b : Nat) : Bool :=
  PySem.W.excInitIn K C (xtl b) (xnid b) && (PySem.W.excOver K C (xtl b) && (PySem.W.hasDictIn K C && (He.eqO (PySem.W.findIn K (.ref C) "__setattr__") (some (some (.builtin "object.__setattr__"))) &&
  (He.eqO (PySem.W.findIn K (.ref C) "__getattribute__") (some (some (.builtin "BaseException.__getattribute__"))) && (He.eqO (PySem.W.findIn K (.ref C) "__getattr__") (some none) && (decide (PySem.W.subIn K (.ref C) (.type "BaseException") = some true) &&
  (He.eqO (PySem.W.findIn K (.ref C) "__class__") (some (some (.builtin "object.__class__"))) && (He.eqO (PySem.W.specialIn K (.builtin "object.__class__") "__get__") (some (some (.builtin "getset_descriptor.__get__"))) &&
  (decide (PySem.W.takesIn K (.builtin "object.__class__") = some true) && (decide (PySem.W.mroIn K C (.type "object") = some true) && PySem.W.keepIn K (.ref C)))))))))))
def xdB (K : PySem.W.Frag) (d : Xd) : Bool := (He.Fa.glo d.nm).ok K && (xclB K (He.ga K d.nm) d.ba && (He.eqO (PySem.W.takerIn K (He.ga K d.nm) d.f) (some none) && (He.eqO (PySem.W.findIn K (.ref (He.ga K d.nm)) d.f) (some none) &&
  (He.eqO (PySem.W.findIn K (.ref (He.ga K d.nm)) "__init__") (some (some (.ref (He.ma K (He.ga K d.nm) "__init__")))) && (decide (PySem.W.typeIn K (.ref (He.ma K (He.ga K d.nm) "__init__")) = some (.type "function")) && decide (PySem.W.typeIn K (.ref (He.ga K d.nm)) = some (.type "type")))))))
section
variable {P : Program} {w : World} {K : PySem.W.Frag} {mg : Str → Option Value} {base : Heap} {h : Heap}
theorem xcl_of {C : Addr} {b : Nat} (q : xclB K C b = true) : XC K C := by
  obtain ⟨q1, q⟩ := He.ba q
  obtain ⟨q2, q⟩ := He.ba q
  obtain ⟨q3, q⟩ := He.ba q
  obtain ⟨q4, q⟩ := He.ba q
  obtain ⟨q5, q⟩ := He.ba q
  obtain ⟨q6, q⟩ := He.ba q
  obtain ⟨q7, q⟩ := He.ba q
  obtain ⟨q8, q⟩ := He.ba q
  obtain ⟨q9, q⟩ := He.ba q
  obtain ⟨q10, q⟩ := He.ba q
  obtain ⟨q11, q12⟩ := He.ba q
  refine ⟨?_, q3, He.eqO_ok q4, He.eqO_ok q5, He.eqO_ok q6, of_decide_eq_true q7, He.eqO_ok q8, He.eqO_ok q9, of_decide_eq_true q10, of_decide_eq_true q11, q12⟩
  match b, q1, q2 with
  | 0, q1, q2 => exact ⟨_, _, _, _, PySem.F.excBase_ValueError, PySem.F.store_ValueError, q1, q2⟩
  | 1, q1, q2 => exact ⟨_, _, _, _, PySem.F.excBase_LookupError, PySem.F.store_LookupError, q1, q2⟩
  | n + 2, q1, q2 => exact ⟨_, _, _, _, PySem.F.excBase_ArithmeticError, PySem.F.store_ArithmeticError, q1, q2⟩
theorem xd_glo {d : Xd} (q : xdB K d = true) : (He.Fa.glo d.nm).ok K = true := (He.ba q).1
theorem xd_xc {d : Xd} (q : xdB K d = true) : XC K (He.ga K d.nm) := xcl_of (He.ba (He.ba q).2).1
theorem xd_no {d : Xd} (q : xdB K d = true) : PySem.W.findIn K (.ref (He.ga K d.nm)) d.f = some none := He.eqO_ok (He.ba (He.ba (He.ba (He.ba q).2).2).2).1
theorem xd_ty {d : Xd} (q : xdB K d = true) : PySem.W.typeIn K (.ref (He.ga K d.nm)) = some (.type "type") := of_decide_eq_true (He.ba (He.ba (He.ba (He.ba (He.ba (He.ba q).2).2).2).2).2).2
theorem xd_one {nm f qn : Str} {b : Nat} {st : Stmt} {fd : FuncData} {p1 p2 p3 p4 : Pos} (X : K.In h) (G : h.Ns mainGlobals mg) (q : xdB K ⟨nm, b, f⟩ = true) (F : Fun K "__init__" qn st (He.ma K (He.ga K nm) "__init__") fd)
    (S : FnScope ["self", f] ["self", f] (defScope st)) (hb : defBody st = [.Assign [.Attribute (.Name "self" p1) f p2] (.Name f p3) p4])
    (hd : (f == ("__debug__" : Str)) = false) (hc : (f == ("__classdict__" : Str)) = false) (hs : ∀ env : Env, swapsWith (.Name f p3) (some (.Attribute (.Name "self" p1) f p2)) p4.line env = pure false)
    (b1 : ∀ (kV doc pm : Value) (an : Option Addr) (cdv ct : Value) (us : List Value), us.length = 2 → bindArgs (PySem.W.fnOf "__init__" qn (defArgs st) (defBody st) (defScope st) .none kV doc pm an cdv ct) ⟨us, []⟩ = pure ((["self", f] : List Str).zip us))
    (b2 : ∀ (kV doc pm : Value) (an : Option Addr) (cdv ct self v : Value), bindArgs (PySem.W.fnOf "__init__" qn (defArgs st) (defBody st) (defScope st) .none kV doc pm an cdv ct) ⟨[self], [(f, v)]⟩ = pure [(("self" : Str), self), (f, v)]) : One P w K mg base nm f (He.ga K nm) := by
  have T := xd_xc q
  obtain ⟨_, q'⟩ := He.ba q
  obtain ⟨_, q'⟩ := He.ba q'
  obtain ⟨t1, q'⟩ := He.ba q'
  obtain ⟨t2, q'⟩ := He.ba q'
  obtain ⟨i1, q'⟩ := He.ba q'
  obtain ⟨i2, _⟩ := He.ba q'
  refine ⟨He.glo_ok X G (xd_glo q), ⟨_, fd, ⟨T, He.eqO_ok i1, of_decide_eq_true i2⟩, ok_i1 F S hb hd hc hs T (He.eqO_ok t1), F.binds b1, ⟨fun s self ws _ hl => ?_, fun z => z⟩⟩, He.eqO_ok t2⟩
  obtain ⟨oc, od, kV, doc, pm, an, cdv, ct, osl, rfl, lk, hcd⟩ := F.ex
  match ws, hl with
  | [v], _ => exact .of_eq (b2 kV doc pm an cdv ct self v)
end
end Gd
set_option Elab.async false
set_option linter.all false
set_option maxRecDepth 100000
set_option maxHeartbeats 4000000
/-! own errors whose context is None, raised where nothing is handled; raised from None in the suite that handles another -/
namespace Gd
open PySem PySem.Spec PyProof.Rows L2
open PySem.W (excInitIn excOver excTail)
section
variable {P : Program} {w : World} {K : PySem.W.Frag} {mg : Str → Option Value} {base : Heap}
theorem okXN {x qual : Str} {st : Stmt} {f : Addr} {fd : FuncData} {N ps : List Str} {k : Nat} {sp : Sp} (F : Fun K x qual st f fd) (S : FnScope N ps (defScope st)) (len : ∀ vs H Q E, sp vs H Q E → vs.length = ps.length)
    (hbody : ∀ (cdv : Value) (A : Around) (outer : List Env) (s : Shared) (H : Hp) (vs : List V) (Q : VK) (E : XK), Room k (A.deeper (envOfC qual (defScope st) s.heap.objs.size f cdv)) → sp vs H Q E →
      ∃ t, PSs (cxOf (L2N.CX P w) P w K mg base N qual (defScope st) f cdv A outer s H E) (defBody st) t ∧ t { nx := fun _ H' => Q .non H', rt := Q } (start N vs) H) : FnOk P w K mg base (L2N.CX P w) (k + 1) f fd ps sp := by
  obtain ⟨oc, od, kV, doc, pm, an, cdv, ct, osl, rfl, lk, hcd⟩ := F.ex
  exact fn_of lk hcd S len fun A outer s H vs Q E hr hsp => hbody cdv A outer s H vs Q E hr hsp
theorem okN_weak {k : Nat} {f : Addr} {fd : FuncData} {ps : List Str} {sp : Sp} (F : FnOk P w K mg base (L2N.CX P w) k f fd ps sp) : FnOk P w K mg base (L2.CX P w) k f fd ps sp :=
  ⟨F.len, fun A ou s H gs us vs Q E hr e0 hb r h => codeAny_mono (F.run A ou s H gs us vs Q E hr e0 hb r h) fun r s' hq => by
    match r, hq with
    | .error e, ⟨a, B, H', cls, d, e1, fl, rest⟩ => exact ⟨a, B, H', cls, d, e1, L2H.flyingZ_imp (fun o z => z.zc) fl, rest⟩
    | .ok (.ret u), hq => exact hq
    | .ok .next, hq => exact False.elim hq
    | .ok .brk, hq => exact False.elim hq
    | .ok .cont, hq => exact False.elim hq⟩
end
section
variable {X : Cx} {CX : CXT} {k : Nat} {f C : Addr} {fd : FuncData} {ps : List Str} {sp : Sp} {x : Str} {p pos : Pos} {e : Expr}
theorem run_raiN {pins : List (Addr × Obj)} {σ : L2.St} {H : Hp} {s : Shared} {Q : XK} {us ws : List Value} {kw : List (Str × Value)} {zs : List V} (N : Ini X.K C f) (ty : PySem.W.typeIn X.K (.ref C) = some (.type "type"))
    (hrun : ∀ (A : Around) (s1 : Shared) (H1 : Hp) (gs : Args) (us1 : List Value) (vs1 : List V) (Q1 : VK), A = X.A.under (.builtin "type.__call__" ⟨.ref C :: us, kw⟩) → Inv X pins σ H1 s1 → Env0 X.prog X.w X.K X.mg X.base A X.stack s1 H1 → BindsTo s1 fd gs (ps.zip us1) → Vals vs1 us1 → sp vs1 H1 Q1 E0 →
      codeAny (model X.prog X.w) A (.call (.ref f) gs) (CR CX0 X.stack X.prog X.w H1 s1 Q1 E0) s1)
    (I : Inv X pins σ H s) (hl : us.length ≤ sizeLine) (hB : ∀ (s' : Shared) (self : Value), X.K.In s'.heap → BindsTo s' fd ⟨self :: us, kw⟩ (ps.zip (self :: ws))) (hV : Vals zs ws)
    (h : ∀ a, H a = none → sp (.ref a :: zs) (upd H a (exo a C none)) (fun v H2 => v = .non ∧ ∃ d fs, H2 a = some (exo a C (some d)) ∧ H2 d = some (exd d fs) ∧ H d = none ∧ Q (.ref C) (some d) (upd (del H2 a) d (.xd fs))) E0) :
    wpAny (model X.prog X.w) X.A (call (.ref C) us kw) (fun u s' => L2N.MkP X pins σ Q u s' ∧ L2H.Six u s') X.xe s := by
  obtain ⟨B, nid, iid, tl, FB, SF, hin, hov⟩ := N.xc.base
  obtain ⟨hp, g, dr, t0, os⟩ := s
  obtain ⟨nm, N', qn, bs, bm, hdct, sn, sub, ab, col, dd, k0, k1, k2, k3, k5, hC, hT⟩ := PySem.W.excInit_of I.kIn hin
  have le1 : hp.objs.size ≤ hp.objs.size + 1 := Nat.le_succ _
  have n1 : H (hp.objs.size + 1) = none := I.hok.fresh le1
  have q1 := h (hp.objs.size + 1) n1
  have kk : ∀ b o, hp.get? b = some o → ((hp.push (PySem.W.kdv_tup us)).push (PySem.HandSPX.excO C hp.objs.size)).get? b = some o := fun b o e => Heap.get?_push_of_some _ (Heap.get?_push_of_some _ e)
  have g1 : ((hp.push (PySem.W.kdv_tup us)).push (PySem.HandSPX.excO C hp.objs.size)).get? (hp.objs.size + 1) = some (PySem.HandSPX.excO C hp.objs.size) := by heap_get
  have I2 : Inv X pins σ (upd H (hp.objs.size + 1) (exo (hp.objs.size + 1) C none)) ⟨(hp.push (PySem.W.kdv_tup us)).push (PySem.HandSPX.excO C hp.objs.size), g, dr, t0, os⟩ :=
    I.laid (t' := t0) (a := hp.objs.size + 1) (o := exo (hp.objs.size + 1) C none) (h' := (hp.push (PySem.W.kdv_tup us)).push (PySem.HandSPX.excO C hp.objs.size)) kk le1 (exo_ok g1)
  have r2 : Vals (V.ref (hp.objs.size + 1) :: zs) (Value.ref (hp.objs.size + 1) :: ws) := .cons rfl hV
  have e0 := I2.env0
  have e1 : Env0 X.prog X.w X.K X.mg X.base (X.A.under (.builtin "type.__call__" ⟨.ref C :: us, kw⟩)) X.stack ⟨(hp.push (PySem.W.kdv_tup us)).push (PySem.HandSPX.excO C hp.objs.size), g, dr, t0, os⟩ (upd H (hp.objs.size + 1) (exo (hp.objs.size + 1) C none)) :=
    ⟨by first | exact e0.frames | (simpa [Around.under, Code.envs, Code.isFrame, pushEnvs] using e0.frames), e0.mod, e0.bs, e0.bsz, e0.funs, e0.frf, e0.hok, e0.bare⟩
  refine wpAny_call (PySem.Gk.call_kw FB hT hC (PySem.W.looks_findIn I.kIn N.at_) (fun self => PySem.W.bind_fn I.kIn self N.ty) hl
    (codeAny_mono (hrun _ _ _ ⟨Value.ref (hp.objs.size + 1) :: us, kw⟩ (Value.ref (hp.objs.size + 1) :: ws) _ _ rfl I2 e1 (hB _ _ I2.kIn) r2 q1) fun r s' hq' => ?_))
  match r, hq' with
  | .error er, hq' => exact (show False from hq').elim
  | .ok (.ret u), hq' =>
    obtain ⟨v, H2, os2, bare2, un2, hok2, rv, ev, d, fs, ea, ed, hd1, q2⟩ := hq'
    subst ev
    obtain ⟨h2, g2, d2, t2, os'⟩ := s'
    obtain ⟨t0', G, J, kG, ge, hoe, na⟩ := mk_end0 (d2 := d2) (t2 := t2) I le1 kk un2 hok2 os2 bare2 ea ed hd1
    refine ⟨rv, ⟨hp.objs.size + 1, _, _, ⟨G, g2, d2, t2, os'⟩, _, .ref C, some d, rfl, J, kG, ge, hoe, ⟨rfl, rfl, fun vs hv => ?_⟩, rfl, rfl, na, rfl, bare2, raises_own N.xc.sB ty, q2⟩, fun a oe vs ea2 hg2 hd2 => ?_⟩
    · cases hv
      rfl
    · cases ea2
      have hg3 : h2.get? (hp.objs.size + 1) = some oe := hg2
      rw [hoe] at hg3
      cases hg3
      cases hd2
      show (4 : Nat) < 6
      decide
  | .ok .next, hq' => exact False.elim hq'
  | .ok .brk, hq' => exact False.elim hq'
  | .ok .cont, hq' => exact False.elim hq'
theorem under_room {k : Nat} {A : Around} {C : Addr} {us : List Value} {kw : List (Str × Value)} (hR : Room (k + 1) A) : Room k (A.under (.builtin "type.__call__" ⟨.ref C :: us, kw⟩)) := by
  have d1 : (A.under (.builtin "type.__call__" ⟨.ref C :: us, kw⟩)).depth = A.depth + 1 := by
    first | rfl | simp [Around.under, Code.weight, Code.isCreation, Code.isGuard, Code.isCaller, Code.frames, Code.isFrame, guardIds]
  have d2 : (A.under (.builtin "type.__call__" ⟨.ref C :: us, kw⟩)).units = A.units + 1 := by
    first | rfl | simp [Around.under, Code.cUnits, Code.frames, Code.isFrame]
  exact ⟨hR.hd, by have := hR.dp; rw [d1]; omega, by have := hR.un; rw [d2]; omega⟩
theorem mk_q {H1 : Hp} {C a d : Addr} {g : Str} {v : V} {Q : XK} (na : H1 a = none) (nd : upd H1 a (exo a C none) d = none) (n : d ≠ a) (h : ∀ d H', Same H1 H' → H1 d = none → H' d = some (.xd [(g, v)]) → Q (.ref C) (some d) H') :
    V.non = V.non ∧ ∃ d' fs, upd (upd (upd H1 a (exo a C none)) d (exd d [(g, v)])) a (exo a C (some d)) a = some (exo a C (some d')) ∧ upd (upd (upd H1 a (exo a C none)) d (exd d [(g, v)])) a (exo a C (some d)) d' = some (exd d' fs) ∧ H1 d' = none ∧
      Q (.ref C) (some d') (upd (del (upd (upd (upd H1 a (exo a C none)) d (exd d [(g, v)])) a (exo a C (some d))) a) d' (.xd fs)) := by
  have nd' : H1 d = none := by rw [upd_ne n] at nd; exact nd
  refine ⟨rfl, d, [(g, v)], upd_same, ?_, nd', h d _ (fun b o eb => ?_) nd' upd_same⟩
  · rw [upd_ne n, upd_same]
  · rw [upd_ne (ne_of_none eb nd'), del_ne (ne_of_none eb na), upd_ne (ne_of_none eb na), upd_ne (ne_of_none eb nd'), upd_ne (ne_of_none eb na)]
    exact eb
/-- C(e), where nothing is handled -/
theorem pmkN_one {nm g : Str} {te : TE} (O : One X.prog X.w X.K X.mg X.base nm g C) (ty : PySem.W.typeIn X.K (.ref C) = some (.type "type")) (hR : Room 2 X.A) (hg : Gl X nm) (he : PE X e te) (hdb : (nm == ("__debug__" : Str)) = false := by decide)
    (hs : starEach [e] X.env = (false, eval e X.env) :: starEach [] X.env := by rfl) (hpl : (backTo pos (starEach [] X.env)).any (·.1) = false := by rfl) :
    L2N.PMk X (.Call (.Name nm p) [e] [] pos) (tRai C g te) := by
  intro pins s σ H Q I h
  obtain ⟨fa, fd, N, F, b, sb⟩ := O.ini
  refine wpAny_Call_Name_kw (ld_glob I hg O.gl ?_ hdb)
  refine PySem.W.callWith_K (h₀ := X.base) I.ok.mod.kin N.xc.kp (thn ((pa_cons he pa_nil hs).run pos pins s σ H (fun zs H1 => match zs with | [v] => ∀ d H', Same H1 H' → H1 d = none → H' d = some (.xd [(g, v)]) → Q (.ref C) (some d) H' | _ => False) I ?_) fun us s2 z2 => ?_) hs hpl
  · exact h
  obtain ⟨zs, H2, I2, r2, q2⟩ := z2
  obtain ⟨v, rfl, q2⟩ : ∃ v, zs = [v] ∧ ∀ d H', Same H2 H' → H2 d = none → H' d = some (.xd [(g, v)]) → Q (.ref C) (some d) H' := by
    match zs, q2 with
    | [v], q2 => exact ⟨v, rfl, q2⟩
  obtain ⟨u, rfl, ru⟩ := vals1 r2
  refine ⟨I2.kIn, ?_⟩
  refine thn (run_raiN (ws := [u]) (zs := [v]) (kw := []) N ty (fun A s1 H1 gs us1 vs1 Q1 eA _ e1 hB hV hsp => by
    subst eA
    exact F.run _ X.stack s1 H1 gs us1 vs1 Q1 E0 (under_room hR) e1 hB hV hsp) I2 (by rw [sizeLine_eq]; exact (by decide : 1 ≤ 16777216)) (fun s' self ki => ?_) (.cons ru .nil) fun a na => ?_) fun _ _ x => x.1
  · have := b s' [self, u] ki rfl
    rw [List.append_nil] at this
    exact this
  · exact ⟨a, v, rfl, upd_same, fun d nd n => mk_q na nd n q2⟩
end
/-- a class of one field, for where an exception is handled -/
structure OneH (P : Program) (w : World) (K : PySem.W.Frag) (mg : Str → Option Value) (base : Heap) (nm f : Str) (C : Addr) : Prop where
  gl : mg nm = some (.ref C)
  ini : ∃ (fa : Addr) (fd : FuncData), Ini K C fa ∧ FnP P w K mg base 1 fa fd ["self", f] (spI1 C f) ∧ Binds K fd ["self", f] []
section
variable {X : Cx} {C : Addr} {p pos : Pos} {e : Expr}
theorem pmk5_one {nm g : Str} {te : TE} (O : OneH X.prog X.w X.K X.mg X.base nm g C) (ty : PySem.W.typeIn X.K (.ref C) = some (.type "type")) (hR : L2H.RoomH 2 X.A) (hp : ∃ p, p ∈ X.pn) (hg : Gl X nm) (he : PE X e te) (hdb : (nm == ("__debug__" : Str)) = false := by decide)
    (hs : starEach [e] X.env = (false, eval e X.env) :: starEach [] X.env := by rfl) (hpl : (backTo pos (starEach [] X.env)).any (·.1) = false := by rfl) :
    L2H.PMk5 X (.Call (.Name nm p) [e] [] pos) (tRai C g te) := by
  intro pins s σ H Q I h
  obtain ⟨fa, fd, N, F, b⟩ := O.ini
  refine wpAny_Call_Name_kw (ld_glob I hg O.gl ?_ hdb)
  refine PySem.W.callWith_K (h₀ := X.base) I.ok.mod.kin N.xc.kp (thn ((pa_cons he pa_nil hs).run pos pins s σ H (fun zs H1 => match zs with | [v] => ∀ d H', Same H1 H' → H1 d = none → H' d = some (.xd [(g, v)]) → Q (.ref C) (some d) H' | _ => False) I ?_) fun us s2 z2 => ?_) hs hpl
  · exact h
  obtain ⟨zs, H2, I2, r2, q2⟩ := z2
  obtain ⟨v, rfl, q2⟩ : ∃ v, zs = [v] ∧ ∀ d H', Same H2 H' → H2 d = none → H' d = some (.xd [(g, v)]) → Q (.ref C) (some d) H' := by
    match zs, q2 with
    | [v], q2 => exact ⟨v, rfl, q2⟩
  obtain ⟨u, rfl, ru⟩ := vals1 r2
  refine ⟨I2.kIn, ?_⟩
  obtain ⟨pn, hpn⟩ := hp
  refine run_raiN (ws := [u]) (zs := [v]) (kw := []) N ty (fun A s1 H1 gs us1 vs1 Q1 eA I1 e1 hB hV hsp => by
    subst eA
    have P1 := I1.pin pn (List.mem_append_left _ hpn)
    have hpin : L2H.PinOk X.stack H1 s1 pn := ⟨P1.1, P1.2.1, fun hmm => (List.mem_cons.mp (I1.stkSub pn.1 hmm)).elim P1.2.2.1 P1.2.2.2.1, P1.2.2.2.2⟩
    exact F.run _ X.stack s1 H1 gs us1 vs1 Q1 pn (hR.make C _ _) hpin e1 hB hV hsp) I2 (by rw [sizeLine_eq]; exact (by decide : 1 ≤ 16777216)) (fun s' self ki => ?_) (.cons ru .nil) fun a na => ?_
  · have := b s' [self, u] ki rfl
    rw [List.append_nil] at this
    exact this
  · exact ⟨a, v, rfl, upd_same, fun d nd n => mk_q na nd n q2⟩
end
section
variable {P : Program} {w : World} {K : PySem.W.Frag} {mg : Str → Option Value} {base : Heap}
theorem ok_i1P {qn f : Str} {st : Stmt} {fa C : Addr} {fd : FuncData} {p1 p2 p3 p4 : Pos} (F : Fun K "__init__" qn st fa fd) (S : FnScope ["self", f] ["self", f] (defScope st)) (hb : defBody st = [.Assign [.Attribute (.Name "self" p1) f p2] (.Name f p3) p4])
    (hd : (f == ("__debug__" : Str)) = false) (hc : (f == ("__classdict__" : Str)) = false) (hs : ∀ env : Env, swapsWith (.Name f p3) (some (.Attribute (.Name "self" p1) f p2)) p4.line env = pure false) (T : XC K C) (ht : PySem.W.takerIn K C f = some none) : FnP P w K mg base 1 fa fd ["self", f] (spI1 C f) := by
  refine okP F S (fun vs H Q E h => ?_) (fun cv A ou s H vs Q p hr h => ?_)
  · obtain ⟨a, v, rfl, _⟩ := h
    rfl
  obtain ⟨a, v, rfl, ea, q⟩ := h
  rw [hb]
  refine ⟨_, pss_one (ps_est (pe_var (i := 0) rfl ((S.par "self" (List.Mem.head _)).elim (fun z => .inl z) (fun z => .inr (.inl z)))) (pe_var (i := 1) rfl ((S.par f (.tail _ (List.Mem.head _))).elim (fun z => .inl z) (fun z => .inr (.inl z))) hd hc) (hs _)), ?_⟩
  exact ⟨v, rfl, .ref a, rfl, a, C, rfl, T, ht, .inl ⟨ea, q⟩⟩
theorem xd_oneH {h : Heap} {nm f qn : Str} {b : Nat} {st : Stmt} {fd : FuncData} {p1 p2 p3 p4 : Pos} (X : K.In h) (G : h.Ns mainGlobals mg) (q : xdB K ⟨nm, b, f⟩ = true) (F : Fun K "__init__" qn st (He.ma K (He.ga K nm) "__init__") fd)
    (S : FnScope ["self", f] ["self", f] (defScope st)) (hb : defBody st = [.Assign [.Attribute (.Name "self" p1) f p2] (.Name f p3) p4])
    (hd : (f == ("__debug__" : Str)) = false) (hc : (f == ("__classdict__" : Str)) = false) (hs : ∀ env : Env, swapsWith (.Name f p3) (some (.Attribute (.Name "self" p1) f p2)) p4.line env = pure false)
    (b1 : ∀ (kV doc pm : Value) (an : Option Addr) (cdv ct : Value) (us : List Value), us.length = 2 → bindArgs (PySem.W.fnOf "__init__" qn (defArgs st) (defBody st) (defScope st) .none kV doc pm an cdv ct) ⟨us, []⟩ = pure ((["self", f] : List Str).zip us)) : OneH P w K mg base nm f (He.ga K nm) := by
  have T := xd_xc q
  obtain ⟨_, q'⟩ := He.ba q
  obtain ⟨_, q'⟩ := He.ba q'
  obtain ⟨t1, q'⟩ := He.ba q'
  obtain ⟨t2, q'⟩ := He.ba q'
  obtain ⟨i1, q'⟩ := He.ba q'
  obtain ⟨i2, _⟩ := He.ba q'
  exact ⟨He.glo_ok X G (xd_glo q), ⟨_, fd, ⟨T, He.eqO_ok i1, of_decide_eq_true i2⟩, ok_i1P F S hb hd hc hs T (He.eqO_ok t1), F.binds b1⟩⟩
end
end Gd
set_option Elab.async false
set_option linter.all false
set_option maxRecDepth 100000
set_option maxHeartbeats 4000000
namespace Ks
open PySem PySem.Spec PyProof.Rows L2 Gd Kx
/-! ### check_rows of rows that a text tells -/
def kindOf (m : Md) (z : Str) : Str := ((m.rs.find? (fun w => decide (w.1 = z))).map (·.2.1)).getD ""
def ksAt (m : Md) (rs : List Ro) (i : Nat) : List Str := (rs.take i).map fun r => kindOf m r.1
def okTo (m : Md) (rs : List Ro) (i : Nat) : Prop := ∀ j r, j < i → rs[j]? = some r → rowB m (ksAt m rs j) r = true
theorem rowB_row {m : Md} {ks : List Str} {r : Ro} (h : rowB m ks r = true) : ∃ (w : Rw) (pl : Nat), m.rs[pl]? = some w ∧ w.1 = r.1 ∧ kindOf m r.1 = w.2.1 := by
  have hm : r.1 ∈ m.rs.map (·.1) := by
    by_cases hm : r.1 ∈ m.rs.map (·.1)
    · exact hm
    · unfold rowB at h
      rw [find_no hm] at h
      cases h
  obtain ⟨w, pl, e1, e2, e3⟩ := find_row hm
  refine ⟨w, pl, e2, e3, ?_⟩
  unfold kindOf
  rw [e1]
  rfl
section
variable {P : Program} {w : World} {K : PySem.W.Frag} {mg : Str → Option Value} {base : Heap} {CS IR : Addr}
def spCrwO (CS IR : Addr) : Sp := fun vs H Q E => ∃ (s R : Addr) (m : Md) (rs : List Ro), vs = [.ref s, .ref R] ∧ ScAt CS H s m ∧ Good m ∧ RwsO H R rs ∧ rs.length < sizeLine ∧ (∀ r ∈ rs, r.2.length ≤ 1000) ∧
  (¬ (1 ≤ rs.length ∧ rs.length ≤ 200) → ∀ d H', Same H H' → H' d = some (.xd [("index", .non)]) → E (.ref IR) (some d) H') ∧
  (1 ≤ rs.length → rs.length ≤ 200 → (∀ (i : Nat) (r : Ro), rs[i]? = some r → okTo m rs i → rowB m (ksAt m rs i) r = false → ∀ d H', Same H H' → H' d = some (.xd [("index", .int ((i : Nat) : Int))]) → E (.ref IR) (some d) H') ∧
    (okTo m rs rs.length → ∀ H', Same H H' → Q .non H'))
set_option maxHeartbeats 8000000 in
theorem ok_crwO {f fi : Addr} {fd fdi : FuncData} (F : Fun K "check_rows" "check_rows" sCrw f fd) (T : TS0 mg) (mM : ∃ t, mg "MOST_ROWS" = some (.int 200 t)) (S : Sch P w K mg base CS) (O : One P w K mg base "InvalidRows" "index" IR) (ty : PySem.W.typeIn K (.ref IR) = some (.type "type"))
    (GI : FnOk P w K mg base CX0 4 fi fdi ["schema", "row", "kinds"] (spIrwO CS)) (ki : PySem.W.keepIn K (.ref fi) = true) (bI : Binds K fdi ["schema", "row", "kinds"] []) (gI : mg "_is_row" = some (.ref fi)) :
    FnOk P w K mg base (L2N.CX P w) 5 f fd ["schema", "rows"] (spCrwO CS IR) := by
  refine okXN F scCrw (fun vs H Q E h => ?_) (fun cv A ou s H vs Q E hr h => ?_)
  · obtain ⟨s, R, m, rs, rfl, _⟩ := h
    rfl
  obtain ⟨sa, R, m, rs, rfl, hs, g, ⟨xs, eR, pR⟩, lz, l1000, q0, q1⟩ := h
  obtain ⟨Z, _, _, _, ⟨fco, dco, Mco, Fco, bco⟩⟩ := S
  obtain ⟨tM, mM⟩ := mM
  have hr3 : Room 3 (A.deeper (envOfC "check_rows" (defScope sCrw) s.heap.objs.size f cv)) := hr.mono (by decide)
  have hr2 : Room 2 (A.deeper (envOfC "check_rows" (defScope sCrw) s.heap.objs.size f cv)) := hr.mono (by decide)
  have lx : xs.length = rs.length := Paired.length pR
  refine ⟨_, pss_cons (ps_if (PW.pt (pw_or (pt_not (pt_val (pe_callB call_isi (by rfl) T.isi boot_isinstance (pa_cons (pv 1) (pa_cons (pe_bltn (v := .ty "tuple") (by rfl) T.tup boot_tuple rfl) pa_nil)))))
        (pw_or1 (pt_not (pt_chain op_le op_le pe_int (pe_callB call_len_seq (by rfl) T.len PySem.boot_len (pa_cons (pv 1) pa_nil)) (pe_glob (v := .int 200) (by rfl) mM ⟨_, rfl⟩)))))) (pss_one (L2N.ps_raise rfl (L2N.takes_of rfl rfl rfl rfl) (pmkN_one O ty hr2 (by rfl) pe_non))) pss_nil)
    (pss_cons (ps_set (i := 2) scCrw.nd rfl (.inl rfl) (pe_lst pa_nil))
    (pss_one (ps_for PassesOwn.leaving rfl (pi_enT (by rfl) T.enu (pa_cons (pv 1) pa_nil)) (pg_tup rfl (pgs_cons (pg_name (i := 3) scCrw.nd rfl (.inl rfl)) (pgs_cons (pg_name (i := 4) scCrw.nd rfl (.inl rfl)) pgs_nil)))
      (pss_cons (ps_if (pt_not (pt_val (pe_call GI hr (by rfl) gI ki bI .nil pass0 (pa_cons (pv 0) (pa_cons (pv 4) (pa_cons (pv 2) pa_nil)))))) (pss_one (L2N.ps_raise rfl (L2N.takes_of rfl rfl rfl rfl) (pmkN_one O ty hr2 (by rfl) (pv 3)))) pss_nil)
      (pss_one (ps_expr (pe_bm PySem.F.plainAttrs_list PySem.F.slot_list_append PySem.F.type_list_append mt_append (pv 2) (pa_cons (pe_ix ix_tup (pe_meth (pv 0) Z.cls Mco Fco hr3 bco .nil pass0 (pa_cons (pe_ix ix_tup (pv 4) pe_int (fun _ _ => rfl)) pa_nil)) pe_int (fun _ _ => rfl)) pa_nil)))))))), ?_⟩
  refine ⟨.ref R, rfl, .ref R, .ty "tuple", _, _, true, rfl, .ty "tuple", .base (.tup eR), kit_ty (by decide +kernel), _, rfl, iteF ?_⟩
  refine ⟨.ref R, rfl, R, _, rfl, .inr (SqT.of eR), _, _, rfl, rfl, _, rfl, ?_⟩
  by_cases r1 : 1 ≤ rs.length
  rotate_left
  · rw [decide_eq_false (show ¬ (1 : Int) ≤ ((xs.length : Nat) : Int) by omega)]
    exact iteF ⟨_, rfl, iteT (fun d H' s n e => q0 (fun h => r1 h.1) d H' s e)⟩
  rw [decide_eq_true (show (1 : Int) ≤ ((xs.length : Nat) : Int) by omega)]
  refine iteT ⟨_, _, rfl, rfl, _, rfl, ?_⟩
  by_cases r200 : rs.length ≤ 200
  rotate_left
  · rw [decide_eq_false (show ¬ ((xs.length : Nat) : Int) ≤ 200 by omega)]
    exact iteT (fun d H' s n e => q0 (fun h => r200 h.2) d H' s e)
  rw [decide_eq_true (show ((xs.length : Nat) : Int) ≤ 200 by omega)]
  obtain ⟨q1, q2⟩ := q1 r1 r200
  refine iteF ⟨(by show 0 ≤ sizeLine; exact Nat.zero_le _), fun L nL => ?_⟩
  refine ⟨.ref R, rfl, R, _, rfl, SqT.of (same_new nL _ _ eR), for_enT (K := K) (t := R) (xs := xs) (fun i σ H' => ∃ o3 o4 : Option V, σ = [some (.ref sa), some (.ref R), some (.ref L), o3, o4] ∧ Same H H' ∧ H' L = some (.lst ((ksAt m rs i).map V.str)) ∧ okTo m rs i) ⟨none, none, rfl, same_new nL, upd_same, fun j r hj => absurd hj (Nat.not_lt_zero _)⟩ (fun i σ H' _ p => ?_) ?_ ?_⟩
  · obtain ⟨_, _, _, s1, _⟩ := p
    exact SqT.of (s1 _ _ eR)
  · rintro i x σ H1 p hx ⟨o3, o4, rfl, s1, eL, gd⟩ np
    obtain ⟨r, er, hrow⟩ := par_at pR hx
    have hi : i < rs.length := (List.getElem?_eq_some_iff.mp er).1
    have s2 : Same H1 (upd H1 p (.tup [.int (i : Nat), x])) := same_new np
    have sA := s1.trans s2
    have lks : (ksAt m rs i).length ≤ 200 := by
      unfold ksAt
      rw [List.length_map, List.length_take]
      omega
    refine ⟨p, _, rfl, SqT.of upd_same, rfl, _, _, rfl, _, _, rfl, rfl, ?_⟩
    refine ⟨.ref sa, rfl, x, rfl, .ref L, rfl, sa, L, x, m, r, ksAt m rs i, rfl, hs.keep sA, g, RowO.keep hrow sA, l1000 r (List.mem_of_getElem? er), s2 _ _ eL, lks, fun H2 s3 => ?_⟩
    have sB := sA.trans s3
    cases hb : rowB m (ksAt m rs i) r with
    | false => exact ⟨false, rfl, iteT ⟨.int ((i : Nat) : Int), rfl, fun d H' s n e => q1 i r er gd hb d H' (sB.trans s) e⟩⟩
    | true =>
      refine ⟨true, rfl, iteF ?_⟩
      have eL2 := s3 _ _ (s2 _ _ eL)
      obtain ⟨b, q0', rfl, eb, eq0⟩ := RowO.keep hrow sB
      obtain ⟨w0, pl, epl, en, ek⟩ := rowB_row hb
      have ezn : (m.rs.map (·.1))[pl]? = some r.1 := by rw [List.getElem?_map, epl, ← en]; rfl
      obtain ⟨dS, kA, cA, nA, ⟨dp, ea, edp⟩, ak, ac, an⟩ := hs.keep sB
      obtain ⟨ys, eac, pac⟩ := id ac
      obtain ⟨y, ey, vy⟩ := rows_has' pac epl
      obtain ⟨rb, fb, rfl, erb, efb⟩ := id vy
      refine ⟨.ref L, rfl, .inl ⟨rfl, _, SqL.of eL2⟩, .ref sa, rfl, sa, dS, _, rfl, ea, rfl, .ref b, rfl, b, _, _, .str r.1, rfl, rfl, SqT.of eb, rfl, sa, kA, cA, nA, _, ys, r.1, pl, .ref rb, rfl, ⟨dS, _, ⟨dp, ea, edp⟩, an⟩, an, g.rd, ezn, eac, ey, rb, _, _, .str w0.2.1, rfl, rfl, SqT.of erb, rfl, L, _, _, rfl, rfl, eL2, ?_, _, _, rfl, same_upd sB nL, ?_, fun j r' hj er' => ?_⟩
      · rw [List.length_map]
        exact small1000 (by omega)
      · rw [upd_same]
        unfold ksAt
        rw [List.take_add_one, er, Option.toList_some, List.map_append, List.map_append]
        show some (HO.lst (_ ++ [V.str w0.2.1])) = some (HO.lst (_ ++ [V.str (kindOf m r.1)]))
        rw [ek]
      · by_cases hj2 : j < i
        · exact gd j r' hj2 er'
        · obtain rfl : j = i := by omega
          rw [er] at er'
          cases er'
          exact hb
  · rintro σ H1 ⟨o3, o4, rfl, s1, eL, gd⟩
    exact q2 (by rw [lx] at gd; exact gd) H1 s1
end
end Ks
set_option Elab.async false
set_option linter.all false
set_option maxRecDepth 100000
set_option maxHeartbeats 4000000
namespace Ks
open PySem PySem.Spec PyProof.Rows L2 Gd Kx
/-! ### rows that build trees, and rows that are let through -/
def liftR (r : Rn) : Ro := (r.1, r.2.map some)
theorem find_of {m : Md} (g : Good m) {w : Rw} (h : w ∈ m.rs) : m.rs.find? (fun x => decide (x.1 = w.1)) = some w := by
  obtain ⟨v, pl, e1, e2, e3⟩ := find_row (m := m) (z := w.1) (List.mem_map.mpr ⟨w, h, rfl⟩)
  rw [e1]
  obtain ⟨j, hj, ej⟩ := List.getElem_of_mem h
  have e4 : (m.rs.map (·.1))[j]? = (m.rs.map (·.1))[pl]? := by
    rw [List.getElem?_map, List.getElem?_map, e2, List.getElem?_eq_getElem hj, ej]
    exact congrArg some e3.symm
  have hl : j < (m.rs.map (·.1)).length := by rw [List.length_map]; exact hj
  have := (List.getElem?_inj hl g.rd).mp e4
  subst this
  rw [List.getElem?_eq_getElem hj, ej] at e2
  exact congrArg some (Option.some.inj e2).symm
theorem kind_of {m : Md} (g : Good m) {t : Tr} (ok : t.Ok m) : kindOf m t.row.1 = t.row.2.1 := by
  unfold kindOf
  rw [find_of g (Tr.ok_iff.mp ok).1]
  rfl
theorem rowB_of {m : Md} (g : Good m) {ks : List Str} {r : Ro} {w : Rw} (h : w ∈ m.rs) (e : w.1 = r.1) : rowB m ks r = (decide (r.2.length = w.2.2.length) && (List.zipWith (fitR ks) r.2 w.2.2).all id) := by
  unfold rowB
  have := find_of g h
  rw [e] at this
  rw [this]
theorem zip_all {α β : Type} {f : α → β → Bool} : ∀ {xs : List α} {ys : List β}, xs.length = ys.length → ((List.zipWith f xs ys).all id = true ↔ ∀ (j : Nat) (x : α) (y : β), xs[j]? = some x → ys[j]? = some y → f x y = true)
  | [], [], _ => by simp
  | x :: xs, y :: ys, h => by
    have ih := zip_all (f := f) (xs := xs) (ys := ys) (by simpa using h)
    rw [List.zipWith_cons_cons, List.all_cons, Bool.and_eq_true, ih]
    constructor
    · rintro ⟨h1, h2⟩ j a b ea eb
      cases j with
      | zero =>
        cases ea
        cases eb
        exact h1
      | succ j => exact h2 j a b (by simpa using ea) (by simpa using eb)
    · intro hh
      exact ⟨hh 0 x y rfl rfl, fun j a b ea eb => hh (j + 1) a b (by simpa using ea) (by simpa using eb)⟩
  | [], _ :: _, h => by simp at h
  | _ :: _, [], h => by simp at h
theorem bld_okTo {m : Md} (g : Good m) {rs : List Rn} {ts : List Tr} (b : Bld m rs ts) : okTo m (rs.map liftR) rs.length := fun j r hj er => by
  rw [List.getElem?_map] at er
  cases e0 : rs[j]? with
  | none => rw [e0] at er; cases er
  | some r0 =>
  rw [e0] at er
  cases er
  have hjt : j < ts.length := by rw [← b.len]; exact hj
  have et : ts[j]? = some ts[j] := List.getElem?_eq_getElem hjt
  obtain ⟨en, ln, kk⟩ := b.at_ j r0 _ e0 et
  have okt := b.ok _ (List.mem_of_getElem? et)
  obtain ⟨o1, o2, o3⟩ := Tr.ok_iff.mp okt
  have lw : (liftR r0).2.length = ts[j].row.2.2.length := by
    show (r0.2.map some).length = _
    rw [List.length_map, ln, o2, List.length_map]
  rw [rowB_of g o1 en, decide_eq_true lw, Bool.true_and]
  refine (zip_all lw).mpr fun i o k ei ek => ?_
  have ei' : (r0.2.map some)[i]? = some o := ei
  rw [List.getElem?_map] at ei'
  cases e1 : r0.2[i]? with
  | none => rw [e1] at ei'; cases ei'
  | some n =>
  rw [e1] at ei'
  cases ei'
  rw [o2, List.getElem?_map] at ek
  cases e2 : ts[j].kids[i]? with
  | none => rw [e2] at ek; cases ek
  | some c =>
  rw [e2] at ek
  cases ek
  obtain ⟨hn, hc⟩ := kk i n c e1 e2
  show decide ((ksAt m (rs.map liftR) j)[n]? = some c.row.2.1) = true
  refine decide_eq_true ?_
  unfold ksAt
  have hnr : n < rs.length := by have : j < rs.length := hj; omega
  have e3 : rs[n]? = some rs[n] := List.getElem?_eq_getElem hnr
  obtain ⟨en2, _, _⟩ := b.at_ n _ c e3 hc
  rw [List.getElem?_map, List.getElem?_take, if_pos hn, List.getElem?_map, e3]
  show some (kindOf m rs[n].1) = _
  rw [← en2, kind_of g (b.ok c (List.mem_of_getElem? hc))]
theorem ok_bld {m : Md} (g : Good m) {rs : List Ro} (h : okTo m rs rs.length) : ∀ n, n ≤ rs.length → ∃ (rs' : List Rn) (ts : List Tr), rs.take n = rs'.map liftR ∧ Bld m rs' ts := fun n => by
  induction n with
  | zero => exact fun _ => ⟨[], [], rfl, ⟨rfl, fun t ht => (by cases ht), fun i r t e _ => (by simp at e)⟩⟩
  | succ n ih =>
    intro hn
    obtain ⟨rs', ts, er, b⟩ := ih (by omega)
    have ln : rs'.length = n := by
      have := congrArg List.length er
      rw [List.length_take, List.length_map] at this
      omega
    have lt : ts.length = n := by rw [← b.len, ln]
    have er0 : rs[n]? = some (rs[n]'(by omega)) := List.getElem?_eq_getElem _
    generalize rs[n]'(by omega) = r at er0
    have hb := h n r (by omega) er0
    obtain ⟨w, pl, epl, en, _⟩ := rowB_row hb
    have hw := List.mem_of_getElem? epl
    rw [rowB_of g hw en] at hb
    obtain ⟨hl, ha⟩ := Bool.and_eq_true_iff.mp hb
    replace hl := of_decide_eq_true hl
    replace ha := (zip_all hl).mp ha
    have w3 : w.2.2.length ≤ 3 := g.f3 w hw
    -- each number leads to a tree of its kind
    have fit : ∀ (j : Nat) (o : Option Nat) (k : Str), r.2[j]? = some o → w.2.2[j]? = some k → ∃ (a : Nat) (c : Tr), o = some a ∧ a < n ∧ ts[a]? = some c ∧ c.row.2.1 = k := fun j o k eo ek => by
      have hf := ha j o k eo ek
      cases o with
      | none => cases hf
      | some a =>
        have hk : (ksAt m rs n)[a]? = some k := of_decide_eq_true hf
        unfold ksAt at hk
        rw [er, List.getElem?_map, List.getElem?_map] at hk
        cases ea : rs'[a]? with
        | none => rw [ea] at hk; cases hk
        | some ra =>
          rw [ea] at hk
          have hal := (List.getElem?_eq_some_iff.mp ea).1
          have et : ts[a]? = some (ts[a]'(by omega)) := List.getElem?_eq_getElem _
          obtain ⟨e1, _, _⟩ := b.at_ a ra _ ea et
          refine ⟨a, _, rfl, by omega, et, ?_⟩
          have hk' : kindOf m ra.1 = k := Option.some.inj hk
          rw [← hk', ← e1, kind_of g (b.ok _ (List.mem_of_getElem? et))]
    let ns : List Nat := r.2.map fun o => o.getD 0
    let cs : List Tr := ns.map fun a => (ts[a]?).getD (.n0 w)
    have lns : ns.length = w.2.2.length := by show (r.2.map _).length = _; rw [List.length_map, hl]
    have lcs : cs.length = w.2.2.length := by show (ns.map _).length = _; rw [List.length_map, lns]
    have each : ∀ (j a : Nat) (c : Tr), ns[j]? = some a → cs[j]? = some c → a < n ∧ ts[a]? = some c ∧ r.2[j]? = some (some a) ∧ w.2.2[j]? = some c.row.2.1 := fun j a c ea ec => by
      have ea' : (r.2.map fun o => o.getD 0)[j]? = some a := ea
      rw [List.getElem?_map] at ea'
      have ec' : (ns.map fun a => (ts[a]?).getD (.n0 w))[j]? = some c := ec
      rw [List.getElem?_map, ea] at ec'
      cases eo : r.2[j]? with
      | none => rw [eo] at ea'; cases ea'
      | some o =>
        have hj := (List.getElem?_eq_some_iff.mp eo).1
        have ek : w.2.2[j]? = some (w.2.2[j]'(by omega)) := List.getElem?_eq_getElem _
        obtain ⟨a', c', rfl, h1, h2, h3⟩ := fit j o _ eo ek
        rw [eo] at ea'
        cases ea'
        have ec2 : (ts[a']?).getD (.n0 w) = c := Option.some.inj ec'
        rw [h2] at ec2
        have ec3 : c' = c := ec2
        subst ec3
        exact ⟨h1, h2, rfl, by rw [ek, h3]⟩
    have rcs : r.2 = ns.map some := by
      refine List.ext_getElem? fun j => ?_
      rw [List.getElem?_map]
      show r.2[j]? = (r.2.map fun o => o.getD 0)[j]?.map some
      rw [List.getElem?_map]
      cases eo : r.2[j]? with
      | none => rfl
      | some o =>
        have hj := (List.getElem?_eq_some_iff.mp eo).1
        have ek : w.2.2[j]? = some (w.2.2[j]'(by omega)) := List.getElem?_eq_getElem _
        obtain ⟨a', c', rfl, _⟩ := fit j o _ eo ek
        rfl
    have kids : (Tr.mk w cs).kids = cs := Tr.mk_kids _ (by rw [lcs]; exact w3)
    have okt : (Tr.mk w cs).Ok m := by
      refine Tr.ok_iff.mpr ⟨by rw [Tr.mk_row]; exact hw, ?_, fun c hc => ?_⟩
      · rw [Tr.mk_row, kids]
        refine List.ext_getElem? fun j => ?_
        rw [List.getElem?_map]
        cases ec : cs[j]? with
        | none =>
          have := List.getElem?_eq_none_iff.mp ec
          rw [List.getElem?_eq_none (by omega)]
          rfl
        | some c =>
          have hj := (List.getElem?_eq_some_iff.mp ec).1
          have ea : ns[j]? = some (ns[j]'(by omega)) := List.getElem?_eq_getElem _
          exact (each j _ c ea ec).2.2.2
      · rw [kids] at hc
        obtain ⟨j, hj, ej⟩ := List.getElem_of_mem hc
        have ec : cs[j]? = some c := by rw [List.getElem?_eq_getElem hj, ej]
        have ea : ns[j]? = some (ns[j]'(by omega)) := List.getElem?_eq_getElem _
        exact b.ok c (List.mem_of_getElem? (each j _ c ea ec).2.1)
    refine ⟨rs' ++ [(r.1, ns)], ts ++ [Tr.mk w cs], ?_, ?_, ?_, ?_⟩
    · rw [List.take_add_one, er0, Option.toList_some, er, List.map_append]
      show _ ++ [r] = _ ++ [((r.1, ns.map some) : Ro)]
      rw [← rcs]
    · rw [List.length_append, List.length_append, b.len]
      rfl
    · intro t ht
      rcases List.mem_append.mp ht with h1 | h1
      · exact b.ok t h1
      · rw [List.mem_singleton.mp h1]
        exact okt
    · intro i r1 t1 e1 e2
      by_cases hi : i < n
      · rw [List.getElem?_append_left (by omega)] at e1 e2
        obtain ⟨a1, a2, a3⟩ := b.at_ i r1 t1 e1 e2
        refine ⟨a1, a2, fun j k c ej ec => ?_⟩
        obtain ⟨h1, h2⟩ := a3 j k c ej ec
        exact ⟨h1, by rw [List.getElem?_append_left (by omega)]; exact h2⟩
      · have hi2 : i = n := by
          have := (List.getElem?_eq_some_iff.mp e1).1
          rw [List.length_append, List.length_singleton] at this
          omega
        subst hi2
        rw [List.getElem?_append_right (by omega), ln, Nat.sub_self] at e1
        rw [List.getElem?_append_right (by omega), lt, Nat.sub_self] at e2
        cases e1
        cases e2
        refine ⟨by rw [Tr.mk_row]; exact en, by rw [kids, lcs]; exact lns, fun j k c ej ec => ?_⟩
        rw [kids] at ec
        obtain ⟨h1, h2, _, _⟩ := each j k c ej ec
        exact ⟨h1, by rw [List.getElem?_append_left (by omega)]; exact h2⟩
end Ks
set_option Elab.async false
set_option linter.all false
set_option maxRecDepth 100000
set_option maxHeartbeats 4000000
namespace Ks
open PySem PySem.Spec PyProof.Rows L2 Gd Kx
/-! ### the text of a tree, cut -/
theorem nm_all {z : Str} (h : nmS z = true) : ∀ c ∈ TL.tl z, inN c = true := by
  have h' : nmL (TL.tl z) = true := h
  cases e : TL.tl z with
  | nil => rw [e] at h'; cases h'
  | cons c r =>
    rw [e, nmL_cons, Bool.and_eq_true] at h'
    exact List.all_eq_true.mp h'.2
theorem nm_free {z : Str} (h : nmS z = true) {s : Nat} (hs : inN s = false) : s ∉ TL.tl z := fun hm => by
  have := nm_all h s hm
  rw [hs] at this
  cases this
theorem tl_nsS (n : Nat) : TL.tl (nsS n) = TL.numL n := TL.tl_num n
theorem ns_free {n s : Nat} (h : s < 48 ∨ 57 < s) : s ∉ TL.tl (nsS n) := by
  rw [tl_nsS]
  exact TL.numL_free h
theorem row_words {r : Rn} (h : nmS r.1 = true) {s : Nat} (hs : inN s = false) (h2 : s < 48 ∨ 57 < s) : ∀ p ∈ r.1 :: r.2.map nsS, s ∉ TL.tl p := fun p hp => by
  rcases List.mem_cons.mp hp with rfl | hp
  · exact nm_free h hs
  · obtain ⟨n, _, rfl⟩ := List.mem_map.mp hp
    exact ns_free h2
theorem cut_row {r : Rn} (h : nmS r.1 = true) : cutS (rowS r) " " = r.1 :: r.2.map nsS :=
  TL.split_join (s := 32) (S := []) (by decide +kernel) (by decide +kernel) (by simp) (row_words h (by decide +kernel) (by decide))
theorem mem_joinL {S : List Nat} {c : Nat} : ∀ {ps : List (List Nat)}, c ∈ TL.joinL S ps → c ∈ S ∨ ∃ p ∈ ps, c ∈ p
  | [], h => by cases h
  | [p], h => .inr ⟨p, List.mem_cons_self .., h⟩
  | p :: q :: r, h => by
    have h' : c ∈ p ++ (S ++ TL.joinL S (q :: r)) := by
      first
      | exact h
      | simpa [TL.joinL] using h
    rcases List.mem_append.mp h' with h' | h'
    · exact .inr ⟨p, List.mem_cons_self .., h'⟩
    rcases List.mem_append.mp h' with h' | h'
    · exact .inl h'
    rcases mem_joinL h' with h' | ⟨u, hu, hc⟩
    · exact .inl h'
    · exact .inr ⟨u, List.mem_cons_of_mem _ hu, hc⟩
theorem tl_rowS (r : Rn) : TL.tl (rowS r) = TL.joinL [32] ((r.1 :: r.2.map nsS).map TL.tl) := by
  unfold rowS
  rw [TL.join_eq, TL.tl_join]
  rfl
theorem row_free {r : Rn} (h : nmS r.1 = true) : 59 ∉ TL.tl (rowS r) := fun hm => by
  rw [tl_rowS] at hm
  rcases mem_joinL hm with h1 | ⟨p, hp, hc⟩
  · simp at h1
  · obtain ⟨q, hq, rfl⟩ := List.mem_map.mp hp
    exact row_words h (by decide +kernel) (by decide) q hq hc
theorem cut_rows {rs : List Rn} (hne : rs ≠ []) (h : ∀ r ∈ rs, nmS r.1 = true) : cutS (Txt.join (Str.ofString "; ") (rs.map rowS)) "; " = rs.map rowS :=
  TL.split_join (s := 59) (S := [32]) (by decide +kernel) (by decide +kernel) (by simpa using hne) fun p hp => by
    obtain ⟨r, hr, rfl⟩ := List.mem_map.mp hp
    exact row_free (h r hr)
theorem codes_ne (t : Tr) : codes (sub t) ≠ [] := fun e => by
  have h := sub_pos t
  rw [← codes_len, e] at h
  simp at h
theorem cut_stT {m : Md} (g : Good m) {t : Tr} (ok : t.Ok m) : cutS (stT t) "; " = (codes (sub t)).map rowS :=
  cut_rows (codes_ne t) (codes_nm g (sub_ok ok))
theorem numW_ns {n : Nat} (h : n < 1000) : numW (nsS n) = some n := by
  have e := tl_nsS n
  have l3 : (nsS n).length ≤ 3 := nsS_len (by decide) h
  have l0 : (nsS n).length ≠ 0 := fun z => TL.numL_ne n (by rw [← e]; exact List.eq_nil_of_length_eq_zero (by rw [← TL.len_tl]; exact z))
  have dg := TL.numL_digits n
  have ha : (nsS n).cps.toList.all dgt = true := by
    rw [List.all_eq_true]
    intro c hc
    have hc' : c ∈ TL.numL n := by rw [← e]; exact hc
    obtain ⟨h1, h2⟩ := dg c hc'
    have : c = 48 ∨ c = 49 ∨ c = 50 ∨ c = 51 ∨ c = 52 ∨ c = 53 ∨ c = 54 ∨ c = 55 ∨ c = 56 ∨ c = 57 := by omega
    rcases this with rfl | rfl | rfl | rfl | rfl | rfl | rfl | rfl | rfl | rfl <;> decide +kernel
  unfold numW
  rw [if_pos ⟨l3, l0, ha⟩]
  have f1 := TL.fold_digits (TL.numL n) 0 dg
  have f2 := TL.fold_num n
  have e2 : (nsS n).cps.toList = TL.numL n := e
  rw [e2]
  congr 1
  have f3 : ((((TL.numL n).foldl (fun acc c => acc * 10 + (c - 48)) 0 : Nat)) : Int) = (n : Int) := f1.symm.trans f2
  exact Int.ofNat.inj f3
theorem rowO_rowS {r : Rn} (h : nmS r.1 = true) (hk : ∀ k ∈ r.2, k < 1000) : rowO (rowS r) = liftR r := by
  unfold rowO
  rw [cut_row h]
  show (r.1, (r.2.map nsS).map numW) = (r.1, r.2.map some)
  rw [List.map_map]
  congr 1
  exact List.map_congr_left fun k hk' => numW_ns (hk k hk')
theorem codes_lt (t : Tr) : ∀ r ∈ codes (sub t), ∀ k ∈ r.2, k < (sub t).length := fun r hr k hk => by
  obtain ⟨u, hu, rfl⟩ := List.mem_map.mp hr
  obtain ⟨c, hc, rfl⟩ := List.mem_map.mp hk
  exact List.idxOf_lt_length_of_mem ((sub_ord t).mem hu hc)
theorem rowsO_stT {m : Md} (g : Good m) {t : Tr} (ok : t.Ok m) (l : (sub t).length ≤ 200) : rowsO (stT t) = (codes (sub t)).map liftR := by
  unfold rowsO
  rw [cut_stT g ok, List.map_map]
  refine List.map_congr_left fun r hr => rowO_rowS (codes_nm g (sub_ok ok) r hr) fun k hk => ?_
  have := codes_lt t r hr k hk
  omega
theorem liftR_inj {r s : Rn} (h : liftR r = liftR s) : r = s := by
  have h1 : r.1 = s.1 := congrArg (fun x : Ro => x.1) h
  have h2 : r.2.map some = s.2.map some := congrArg (fun x : Ro => x.2) h
  have h3 : r.2 = s.2 := List.map_inj_right (fun _ _ e => Option.some.inj e) |>.mp h2
  exact Prod.ext h1 h3
theorem liftRs_inj {rs ss : List Rn} (h : rs.map liftR = ss.map liftR) : rs = ss := (List.map_inj_right fun _ _ e => liftR_inj e).mp h
theorem bld_inj {m : Md} (g : Good m) {rs : List Rn} {ts us : List Tr} (b : Bld m rs ts) (c : Bld m rs us) : ts = us := by
  have h : ∀ i : Nat, ∀ j : Nat, j ≤ i → ts[j]? = us[j]? := by
    intro i
    induction i with
    | zero =>
      intro j hj
      have hj0 : j = 0 := by omega
      subst hj0
      cases er : rs[0]? with
      | none =>
        have : rs.length = 0 := by simpa using er
        rw [List.getElem?_eq_none (by rw [← b.len]; omega), List.getElem?_eq_none (by rw [← c.len]; omega)]
      | some r =>
        have l0 := (List.getElem?_eq_some_iff.mp er).1
        obtain ⟨t, et⟩ : ∃ t, ts[0]? = some t := ⟨_, List.getElem?_eq_getElem (by rw [← b.len]; exact l0)⟩
        obtain ⟨u, eu⟩ : ∃ u, us[0]? = some u := ⟨_, List.getElem?_eq_getElem (by rw [← c.len]; exact l0)⟩
        obtain ⟨n1, k1, q1⟩ := b.at_ 0 r t er et
        obtain ⟨n2, k2, q2⟩ := c.at_ 0 r u er eu
        have z1 : t.kids = [] := by
          cases ek : t.kids with
          | nil => rfl
          | cons x xs =>
            rw [ek, List.length_cons] at k1
            obtain ⟨n, en⟩ : ∃ n, r.2[0]? = some n := ⟨_, List.getElem?_eq_getElem (by omega)⟩
            exact absurd (q1 0 n x en (by rw [ek]; rfl)).1 (Nat.not_lt_zero _)
        have z2 : u.kids = [] := by
          rw [z1] at k1
          exact List.eq_nil_of_length_eq_zero (by rw [← k2, k1]; rfl)
        rw [et, eu]
        congr 1
        refine Tr.ext (names_inj g.rd (Tr.ok_iff.mp (b.ok t (List.mem_of_getElem? et))).1 (Tr.ok_iff.mp (c.ok u (List.mem_of_getElem? eu))).1 (n1.trans n2.symm)) (z1.trans z2.symm)
    | succ i ih =>
      intro j hj
      by_cases hji : j ≤ i
      · exact ih j hji
      have ej : j = i + 1 := by omega
      subst ej
      cases er : rs[i + 1]? with
      | none =>
        have : rs.length ≤ i + 1 := by simpa using er
        rw [List.getElem?_eq_none (by rw [← b.len]; omega), List.getElem?_eq_none (by rw [← c.len]; omega)]
      | some r =>
        have l0 := (List.getElem?_eq_some_iff.mp er).1
        obtain ⟨t, et⟩ : ∃ t, ts[i + 1]? = some t := ⟨_, List.getElem?_eq_getElem (by rw [← b.len]; exact l0)⟩
        obtain ⟨u, eu⟩ : ∃ u, us[i + 1]? = some u := ⟨_, List.getElem?_eq_getElem (by rw [← c.len]; exact l0)⟩
        obtain ⟨n1, k1, q1⟩ := b.at_ _ r t er et
        obtain ⟨n2, k2, q2⟩ := c.at_ _ r u er eu
        rw [et, eu]
        congr 1
        refine Tr.ext (names_inj g.rd (Tr.ok_iff.mp (b.ok t (List.mem_of_getElem? et))).1 (Tr.ok_iff.mp (c.ok u (List.mem_of_getElem? eu))).1 (n1.trans n2.symm)) ?_
        refine List.ext_getElem? fun q => ?_
        by_cases hq : q < r.2.length
        · obtain ⟨n, en⟩ : ∃ n, r.2[q]? = some n := ⟨_, List.getElem?_eq_getElem hq⟩
          obtain ⟨x, ex⟩ : ∃ x, t.kids[q]? = some x := ⟨_, List.getElem?_eq_getElem (by omega)⟩
          obtain ⟨y, ey⟩ : ∃ y, u.kids[q]? = some y := ⟨_, List.getElem?_eq_getElem (by omega)⟩
          obtain ⟨a1, a2⟩ := q1 q n x en ex
          obtain ⟨b1, b2⟩ := q2 q n y en ey
          rw [ex, ey, ← a2, ← b2]
          exact ih n (by omega)
        · rw [List.getElem?_eq_none (by omega), List.getElem?_eq_none (by omega)]
  exact List.ext_getElem? fun i => h i i (Nat.le_refl _)
/-- a tree's own text is read to it -/
theorem text_inj {m : Md} (g : Good m) {t u : Tr} (ok : t.Ok m) (ok' : u.Ok m) (l : (sub t).length ≤ 200) (l' : (sub u).length ≤ 200) (e : stT t = stT u) : t = u := by
  have h := rowsO_stT g ok l
  rw [e, rowsO_stT g ok' l'] at h
  exact ((tree_eq g.rd ok' ok).mp (liftRs_inj h)).symm
theorem read_bld {m : Md} (g : Good m) {t : Tr} (ok : t.Ok m) (l : (sub t).length ≤ 200) {rs : List Rn} {ts : List Tr} (e : rowsO (stT t) = rs.map liftR) (b : Bld m rs ts) : ts[rs.length - 1]? = some t := by
  rw [rowsO_stT g ok l] at e
  have e' := liftRs_inj e
  subst e'
  rw [bld_inj g b (bld_codes (sub_ord t) (sub_ok ok)), codes_len]
  exact sub_last t
theorem read_ok {m : Md} (g : Good m) {t : Tr} (ok : t.Ok m) (l : (sub t).length ≤ 200) : 1 ≤ (rowsO (stT t)).length ∧ (rowsO (stT t)).length ≤ 200 ∧ okTo m (rowsO (stT t)) (rowsO (stT t)).length := by
  rw [rowsO_stT g ok l, List.length_map, codes_len]
  refine ⟨sub_pos t, l, ?_⟩
  have := bld_okTo g (bld_codes (sub_ord t) (sub_ok ok))
  rwa [codes_len] at this
end Ks
set_option Elab.async false
set_option linter.all false
set_option maxRecDepth 100000
set_option maxHeartbeats 4000000
/-! how long data is shown -/
namespace Ks
open PySem PySem.Spec PyProof.Rows L2 Gd Kx
mutual
theorem dp_keep {K : PySem.W.Frag} {H H' : Hp} (s : Same H H') : ∀ (d : PyData) (v : V), Dp K H v d → Dp K H' v d
  | .none, _, h => by cases h; exact .non
  | .bool b, _, h => by cases h; exact .bl b
  | .int i, _, h => by cases h; exact .int i
  | .str x, _, h => by cases h; exact .str x
  | .list ds, _, h => by
    cases h with
    | lst h1 h2 => exact .lst (s.seq h1) (dp_keepAll s ds _ h2)
  | .tuple ds, _, h => by
    cases h with
    | tup h1 h2 => exact .tup (SqT.ext h1 s) (dp_keepAll s ds _ h2)
  | .dict _, _, h => by cases h
theorem dp_keepAll {K : PySem.W.Frag} {H H' : Hp} (s : Same H H') : ∀ (ds : List PyData) (vs : List V), DpAll K H vs ds → DpAll K H' vs ds
  | [], _, h => by cases h; exact .nil
  | d :: ds, _, h => by
    cases h with
    | cons h1 h2 => exact .cons (dp_keep s d _ h1) (dp_keepAll s ds _ h2)
end
structure SB (n b : Nat) (d : PyData) : Prop where
  sh : d.showable = true
  nd : d.hasDict = false
  dp : d.depth ≤ n
  ln : d.shown.length ≤ b
theorem SB.mono {n b n' b' : Nat} {d : PyData} (h : SB n b d) (hn : n ≤ n') (hb : b ≤ b') : SB n' b' d := ⟨h.sh, h.nd, Nat.le_trans h.dp hn, Nat.le_trans h.ln hb⟩
theorem sb_sh {n b : Nat} : ∀ {ds : List PyData}, (∀ d ∈ ds, SB n b d) → PyData.showableAll ds = true
  | [], _ => rfl
  | d :: r, h => by rw [PyData.showableAll, (h d (List.mem_cons_self ..)).sh, sb_sh fun x hx => h x (List.mem_cons_of_mem _ hx)]; rfl
theorem sb_nd {n b : Nat} : ∀ {ds : List PyData}, (∀ d ∈ ds, SB n b d) → PyData.hasDictAll ds = false
  | [], _ => rfl
  | d :: r, h => by rw [PyData.hasDictAll, (h d (List.mem_cons_self ..)).nd, sb_nd fun x hx => h x (List.mem_cons_of_mem _ hx)]; rfl
theorem sb_dp {n b : Nat} : ∀ {ds : List PyData}, (∀ d ∈ ds, SB n b d) → PyData.depthAll ds ≤ n + 1
  | [], _ => by show 0 ≤ _; omega
  | d :: r, h => by
    have a := (h d (List.mem_cons_self ..)).dp
    have c := sb_dp fun x hx => h x (List.mem_cons_of_mem _ hx)
    rw [PyData.depthAll]
    omega
theorem sb_list {n b c : Nat} {ds : List PyData} (h : ∀ d ∈ ds, SB n b d) (hl : ds.length ≤ c) : SB (n + 2) (2 + c * (b + 2)) (.list ds) := by
  refine ⟨?_, ?_, ?_, ?_⟩
  · rw [PyData.showable]
    exact sb_sh h
  · rw [PyData.hasDict]
    exact sb_nd h
  · have := sb_dp h
    rw [PyData.depth]
    omega
  · rw [PyData.shown]
    have := listText_le (ts := PyData.shownAll ds) (b := b) (by
      rw [shownAll_map]
      intro t ht
      obtain ⟨d, hd, rfl⟩ := List.mem_map.mp ht
      exact (h d hd).ln)
    rw [shownAll_map, List.length_map] at this
    have z : ds.length * (b + 2) ≤ c * (b + 2) := Nat.mul_le_mul_right _ hl
    rw [shownAll_map]
    omega
theorem join_le (sep : Str) (b : Nat) : ∀ ts : List Str, (∀ t ∈ ts, t.length ≤ b) → (Str.join sep ts).length ≤ ts.length * (b + sep.length)
  | [], _ => by show 0 ≤ _; omega
  | [x], h => by
    have := h x (List.mem_cons_self ..)
    show x.length ≤ 1 * (b + sep.length)
    omega
  | x :: y :: r, h => by
    have a := h x (List.mem_cons_self ..)
    have ih := join_le sep b (y :: r) fun t ht => h t (List.mem_cons_of_mem _ ht)
    show (x ++ sep ++ Str.join sep (y :: r)).length ≤ _
    rw [Str.length_append, Str.length_append, List.length_cons, Nat.add_mul, Nat.one_mul]
    omega
theorem sb_tup {n b c : Nat} {ds : List PyData} (h : ∀ d ∈ ds, SB n b d) (hl : ds.length ≤ c) : SB (n + 2) (3 + c * (b + 2)) (.tuple ds) := by
  refine ⟨?_, ?_, ?_, ?_⟩
  · rw [PyData.showable]
    exact sb_sh h
  · rw [PyData.hasDict]
    exact sb_nd h
  · have := sb_dp h
    rw [PyData.depth]
    omega
  · rw [PyData.shown]
    have := join_le (Str.ofString ", ") b (PyData.shownAll ds) (by
      rw [shownAll_map]
      intro t ht
      obtain ⟨d, hd, rfl⟩ := List.mem_map.mp ht
      exact (h d hd).ln)
    have l2 : (Str.ofString ", ").length = 2 := by decide +kernel
    have l1 : (Str.ofString "(").length = 1 := by decide +kernel
    have l3 : ((if (PyData.shownAll ds).length == 1 then ",)" else ")" : String) : Str).length ≤ 2 := by split <;> decide +kernel
    rw [l2] at this
    have e : (PyData.shownAll ds).length = ds.length := by rw [shownAll_map, List.length_map]
    rw [e] at this
    have z : ds.length * (b + 2) ≤ c * (b + 2) := Nat.mul_le_mul_right _ hl
    show (Str.ofString "(" ++ Str.join (Str.ofString ", ") (PyData.shownAll ds) ++ ((if (PyData.shownAll ds).length == 1 then ",)" else ")" : String) : Str)).length ≤ _
    rw [Str.length_append, Str.length_append]
    omega
theorem sb_str {z : Str} {l : Nat} (h : nmS z = true) (hl : z.length ≤ l) : SB 1 (10 * l + 2) (.str z) := by
  refine ⟨rfl, rfl, by rw [PyData.depth]; omega, ?_⟩
  have ok : ∀ c ∈ z.cps.toList, c < 16 ^ 8 := by
    have := nm_ok h
    unfold PyData.strOk at this
    rw [← Array.all_toList] at this
    intro c hc
    have := of_decide_eq_true (List.all_eq_true.mp this c hc)
    omega
  have := StrLaws.reprText_len z ok
  rw [PyData.shown]
  omega
theorem sb_nm {z : Str} (h : nmS z = true) : SB 1 82 (.str z) := sb_str h (nm_len h).2
theorem sb_ss {ss : List Str} {c : Nat} (h : ∀ s ∈ ss, nmS s = true) (hl : ss.length ≤ c) : SB 3 (3 + c * 84) (dSs ss) :=
  sb_tup (n := 1) (b := 82) (fun d hd => by obtain ⟨s, hs, rfl⟩ := List.mem_map.mp hd; exact sb_nm (h s hs)) (by rw [List.length_map]; exact hl)
theorem Good.sbK {m : Md} (g : Good m) : SB 3 339 (dSs m.ks) := sb_ss g.kn g.k4
theorem Good.sbR1 {m : Md} (g : Good m) {r : Rw} (hr : r ∈ m.rs) : SB 5 774 (dRw r) := by
  have rk := g.row hr
  refine (sb_tup (n := 3) (b := 255) (c := 3) (ds := [.str r.1, .str r.2.1, dSs r.2.2]) ?_ (Nat.le_refl 3)).mono (by decide) (by decide)
  intro d hd
  simp only [List.mem_cons, List.not_mem_nil, or_false] at hd
  rcases hd with rfl | rfl | rfl
  · exact (sb_nm (g.rn r hr)).mono (by decide) (by decide)
  · exact (sb_nm (g.kn _ (g.rk r hr))).mono (by decide) (by decide)
  · exact sb_ss (c := 3) (fun s hs => g.kn s (g.fk r hr s hs)) (g.f3 r hr)
theorem Good.sbR {m : Md} (g : Good m) : SB 7 4659 (dRs m.rs) :=
  sb_tup (n := 5) (b := 774) (c := 6) (fun d hd => by obtain ⟨r, hr, rfl⟩ := List.mem_map.mp hd; exact g.sbR1 hr) (by rw [List.length_map]; exact g.r6)
theorem Good.sbN {m : Md} (g : Good m) {rs : List Rw} (h : ∀ r ∈ rs, r ∈ m.rs) (hl : rs.length ≤ 6) : SB 3 507 (dSs (rs.map (·.1))) :=
  sb_ss (c := 6) (fun s hs => by obtain ⟨r, hr, rfl⟩ := List.mem_map.mp hs; exact g.rn r (h r hr)) (by rw [List.length_map]; exact hl)
/-! any text of plain signs -/
def okS (z : Str) : Prop := ∀ c ∈ z.cps.toList, c < 0x110000
theorem okS_app {a b : Str} (ha : okS a) (hb : okS b) : okS (a ++ b) := fun c hc => by
  have e : (a ++ b).cps.toList = a.cps.toList ++ b.cps.toList := TL.tl_append a b
  rw [e] at hc
  rcases List.mem_append.mp hc with z | z
  · exact ha c z
  · exact hb c z
theorem okS_nm {z : Str} (h : nmS z = true) : okS z := fun c hc => by
  have := nm_ok h
  unfold PyData.strOk at this
  rw [← Array.all_toList] at this
  exact of_decide_eq_true (List.all_eq_true.mp this c hc)
theorem okS_ns (n : Nat) : okS (nsS n) := fun c hc => by
  rw [PySem.W.KIN.signs_num] at hc
  obtain ⟨d, hd, rfl⟩ := List.mem_map.mp hc
  have := d.valid
  unfold Nat.isValidChar at this
  show d.toNat < 0x110000
  rcases this with h | h
  · exact Nat.lt_trans h (by decide)
  · exact h.2
theorem strOk_of {z : Str} (h : okS z) : PyData.strOk z = true := by
  unfold PyData.strOk
  rw [← Array.all_toList]
  exact List.all_eq_true.mpr fun c hc => decide_eq_true (h c hc)
theorem sb_any {z : Str} {l : Nat} (h : okS z) (hl : z.length ≤ l) : SB 1 (10 * l + 2) (.str z) := by
  refine ⟨rfl, rfl, by rw [PyData.depth]; omega, ?_⟩
  have := StrLaws.reprText_len z fun c hc => Nat.lt_of_lt_of_le (h c hc) (by decide)
  rw [PyData.shown]
  omega
theorem sb_nat {n : Nat} (h : n < 10 ^ 31) : SB 1 31 (.int ((n : Nat) : Int)) := by
  refine ⟨?_, rfl, by rw [PyData.depth]; omega, ?_⟩
  · rw [PyData.showable]
    exact decide_eq_true (log_ok h)
  · rw [PyData.shown]
    exact nsS_len (by decide) h
theorem sb_ns {l : List Nat} (h : ∀ k ∈ l, k < 10 ^ 31) (hl : l.length ≤ 3) : SB 3 102 (dNs l) :=
  sb_tup (n := 1) (b := 31) (c := 3) (fun d hd => by obtain ⟨k, hk, rfl⟩ := List.mem_map.mp hd; exact sb_nat (h k hk)) (by rw [List.length_map]; exact hl)
theorem sb_rn {r : Rn} (h : nmS r.1 = true) (hl : r.2.length ≤ 3) (hk : ∀ k ∈ r.2, k < 10 ^ 31) : SB 5 211 (dRn r) := by
  refine (sb_tup (n := 3) (b := 102) (c := 2) (ds := [.str r.1, dNs r.2]) ?_ (Nat.le_refl 2)).mono (by decide) (by decide)
  intro d hd
  simp only [List.mem_cons, List.not_mem_nil, or_false] at hd
  rcases hd with rfl | rfl
  · exact (sb_nm h).mono (by decide) (by decide)
  · exact sb_ns hk hl
theorem codes_sb {m : Md} (g : Good m) {D : List Tr} (o : Ord D) (ok : ∀ u ∈ D, u.Ok m) (l : D.length ≤ 200) : SB 7 42603 (dRns (codes D)) := by
  refine sb_tup (n := 5) (b := 211) (c := 200) (fun d hd => ?_) (by rw [List.length_map, codes_len]; exact l)
  obtain ⟨r, hr, rfl⟩ := List.mem_map.mp hd
  obtain ⟨u, hu, rfl⟩ := List.mem_map.mp hr
  refine sb_rn (g.rn _ (Tr.ok_iff.mp (ok u hu)).1) ?_ fun k hk => ?_
  · show (u.kids.map _).length ≤ 3
    rw [List.length_map]
    exact u.kids3
  · obtain ⟨c, hc, rfl⟩ := List.mem_map.mp hk
    exact Nat.lt_of_lt_of_le (List.idxOf_lt_length_of_mem (o.mem hu hc)) (Nat.le_trans l (by decide))
theorem okS_lit {s : String} (h : ((Str.ofString s).cps.toList.all fun c => decide (c < 0x110000)) = true) : okS (Str.ofString s) := fun c hc => of_decide_eq_true (List.all_eq_true.mp h c hc)
theorem okS_rpT {m : Md} (g : Good m) {t : Tr} (ok : t.Ok m) : okS (rpT t) :=
  okS_app (okS_app (okS_app (okS_app (okS_app (fun c hc => by cases hc) (okS_lit (by decide +kernel))) (okS_nm (g.rn _ (Tr.ok_iff.mp ok).1))) (okS_lit (by decide +kernel))) (okS_ns _)) (okS_lit (by decide +kernel))
theorem sb_rpT {m : Md} (g : Good m) {t : Tr} (ok : t.Ok m) (hz : t.size < 10 ^ 31) : SB 1 522 (.str (rpT t)) := by
  refine sb_any (l := 52) (okS_rpT g ok) ?_
  have l1 : (Str.ofString "Tree(").length = 5 := by decide +kernel
  have l2 : (Str.ofString ", size ").length = 7 := by decide +kernel
  have l3 : (Str.ofString ")").length = 1 := by decide +kernel
  have l0 : Str.empty.length = 0 := rfl
  have ln := (nm_len (g.rn _ (Tr.ok_iff.mp ok).1)).2
  have lz : (nsS t.size).length ≤ 31 := nsS_len (by decide) hz
  have lz' : (Str.ofString (toString ((t.size : Nat) : Int))).length ≤ 31 := lz
  have ap := fun x y : Str => Str.length_append x y
  unfold rpT
  rw [ap, ap, ap, ap, ap, l0, l1, l2, l3]
  omega
end Ks
set_option Elab.async false
set_option linter.all false
set_option maxRecDepth 100000
set_option maxHeartbeats 4000000
/-! what is shown is text of plain signs -/
namespace Ks
open PySem PySem.Spec PyProof.Rows L2 Gd Kx
theorem chr_lt (c : Char) : c.toNat < 0x110000 := by
  have := c.valid
  unfold UInt32.isValidChar Nat.isValidChar at this
  show c.val.toNat < _
  omega
theorem okS_of (s : String) : okS (Str.ofString s) := fun c hc => by
  rw [Str.ofString_eq_toList] at hc
  have hc' : c ∈ s.toList.map Char.toNat := hc
  obtain ⟨d, _, rfl⟩ := List.mem_map.mp hc'
  exact chr_lt d
def okL (l : List Nat) : Prop := ∀ c ∈ l, c < 0x110000
theorem okL_app {a b : List Nat} (h : okL a) (k : okL b) : okL (a ++ b) := fun c hc => (List.mem_append.mp hc).elim (h c) (k c)
theorem okL_hex (w : Nat) (c : Nat) : okL (List.replicate (w - ((Nat.toDigits 16 c).map Char.toNat).length) 48 ++ (Nat.toDigits 16 c).map Char.toNat) :=
  okL_app (fun d hd => by rw [(List.mem_replicate.mp hd).2]; decide) fun d hd => by
    obtain ⟨e, _, rfl⟩ := List.mem_map.mp hd
    exact chr_lt e
theorem okL_two {a b : Nat} (ha : a < 0x110000) (hb : b < 0x110000) : okL [a, b] := fun d hd => by
  simp only [List.mem_cons, List.not_mem_nil, or_false] at hd
  rcases hd with rfl | rfl
  · exact ha
  · exact hb
theorem okL_rc {q c : Nat} (hc : c < 0x110000) : okL (Builtin.Str.reprChar q c) := by
  unfold Builtin.Str.reprChar
  dsimp only
  split
  · exact okL_two (by decide) hc
  split
  · exact okL_two (by decide) (by decide)
  split
  · exact okL_two (by decide) (by decide)
  split
  · exact okL_two (by decide) (by decide)
  split
  · exact fun d hd => by rw [List.mem_singleton.mp hd]; exact hc
  split
  · exact okL_app (okL_two (by decide) (by decide)) (okL_hex 2 c)
  split
  · exact okL_app (okL_two (by decide) (by decide)) (okL_hex 4 c)
  · exact okL_app (okL_two (by decide) (by decide)) (okL_hex 8 c)
theorem okL_fold (q : Nat) : ∀ (l : List Nat) (acc : Array Nat), okL l → okL acc.toList → okL (l.foldl (fun out c => out ++ (Builtin.Str.reprChar q c).toArray) acc).toList
  | [], acc, _, h => h
  | c :: r, acc, hl, h => okL_fold q r _ (fun d hd => hl d (List.mem_cons_of_mem _ hd)) (by
      rw [Array.toList_append]
      exact okL_app h (okL_rc (hl c (List.mem_cons_self ..))))
theorem okS_repr {x : Str} (h : okS x) : okS (reprText x) := by
  have hq : reprQuote x < 0x110000 := by
    unfold reprQuote
    split <;> decide
  show okL ((x.cps.foldl (fun out c => out ++ (Builtin.Str.reprChar (reprQuote x) c).toArray) #[reprQuote x]).push (reprQuote x)).toList
  rw [Array.toList_push, ← Array.foldl_toList]
  exact okL_app (okL_fold _ _ _ h fun d hd => by
    have : d ∈ [reprQuote x] := hd
    rw [List.mem_singleton.mp this]; exact hq) fun d hd => by rw [List.mem_singleton.mp hd]; exact hq
theorem okS_join {sep : Str} (hs : okS sep) : ∀ {l : List Str}, (∀ z ∈ l, okS z) → okS (Str.join sep l)
  | [], _ => fun c hc => by cases hc
  | [x], h => h x (List.mem_singleton.mpr rfl)
  | x :: y :: r, h => okS_app (okS_app (h x (List.mem_cons_self ..)) hs) (okS_join hs fun z hz => h z (List.mem_cons_of_mem _ hz))
theorem okS_from : ∀ (l : List Str) (k : Nat) (acc : Str), okS acc → (∀ z ∈ l, okS z) → okS (textFrom k acc l)
  | [], _, _, h, _ => h
  | t :: r, k, acc, h, hl => okS_from r (k + 1) _ (okS_app (okS_app h (okS_of _)) (hl t (List.mem_cons_self ..))) fun z hz => hl z (List.mem_cons_of_mem _ hz)
theorem okS_list {l : List Str} (h : ∀ z ∈ l, okS z) : okS (listText l) := okS_app (okS_from l 0 _ (okS_of "[") h) (okS_of "]")
theorem okS_tup {l : List Str} (h : ∀ z ∈ l, okS z) : okS (tupleText l) := okS_app (okS_app (okS_of "(") (okS_join (okS_of ", ") h)) (okS_of _)
mutual
theorem shown_ok : ∀ d : PyData, d.canLay0 = true → d.hasDict = false → okS d.shown
  | .none, _, _ => okS_of "None"
  | .bool true, _, _ => okS_of "True"
  | .bool false, _, _ => okS_of "False"
  | .int i, _, _ => okS_of _
  | .str x, h, _ => okS_repr (fun c hc => by
      have h' : PyData.strOk x = true := h
      unfold PyData.strOk at h'
      rw [← Array.all_toList] at h'
      exact of_decide_eq_true (List.all_eq_true.mp h' c hc))
  | .list ds, h, k => okS_list (shown_okAll ds h k)
  | .tuple ds, h, k => okS_tup (shown_okAll ds h k)
  | .dict _, _, k => by cases k
theorem shown_okAll : ∀ ds : List PyData, PyData.canLayAll0 ds = true → PyData.hasDictAll ds = false → ∀ z ∈ PyData.shownAll ds, okS z
  | [], _, _ => fun z hz => by cases hz
  | d :: ds, h, k => fun z hz => by
    rw [PyData.canLayAll0] at h
    rw [PyData.hasDictAll] at k
    obtain ⟨h1, h2⟩ := Bool.and_eq_true_iff.mp h
    obtain ⟨k1, k2⟩ := Bool.or_eq_false_iff.mp k
    rcases List.mem_cons.mp hz with e | e
    · rw [e]
      exact shown_ok d h1 k1
    · exact shown_okAll ds h2 k2 z e
end
end Ks
set_option Elab.async false
set_option linter.all false
set_option maxRecDepth 100000
set_option maxHeartbeats 4000000
namespace Ks
open PySem PySem.Spec PyProof.Rows L2 Gd Kx
/-! ### a text, bent -/
def oc : List Nat → Nat
  | [] => 0
  | [_] => 0
  | a :: b :: r => (if a = 59 ∧ b = 32 then 1 else 0) + oc (b :: r)
theorem oc2 (a b : Nat) (r : List Nat) : oc (a :: b :: r) = (if a = 59 ∧ b = 32 then 1 else 0) + oc (b :: r) := rfl
theorem oc32 (r : List Nat) : oc (32 :: r) = oc r := by
  cases r with
  | nil => rfl
  | cons b r =>
    rw [oc2, if_neg (by omega)]
    omega
theorem oc_cons (a : Nat) (r : List Nat) : oc r ≤ oc (a :: r) ∧ oc (a :: r) ≤ oc r + 1 := by
  cases r with
  | nil => exact ⟨Nat.le_refl _, Nat.zero_le _⟩
  | cons b r =>
    rw [oc2]
    split <;> omega
theorem oc_app (y : List Nat) : ∀ x : List Nat, oc (x ++ y) ≤ oc x + oc y + 1
  | [] => by simp [oc]
  | [a] => by
    have := (oc_cons a y).2
    show oc (a :: y) ≤ _
    omega
  | a :: b :: r => by
    have := oc_app y (b :: r)
    show oc (a :: b :: (r ++ y)) ≤ _
    rw [oc2, oc2]
    have e : oc (b :: r ++ y) = oc (b :: (r ++ y)) := rfl
    omega
theorem oc_mid (c : Nat) (y : List Nat) : ∀ x : List Nat, oc (x ++ c :: y) ≤ oc x + oc y + 1
  | [] => by
    have := (oc_cons c y).2
    show oc (c :: y) ≤ oc [] + oc y + 1
    omega
  | [a] => by
    show oc (a :: c :: y) ≤ _
    rw [oc2]
    split
    · rename_i h
      rw [h.2, oc32]
      omega
    · have := (oc_cons c y).2
      omega
  | a :: b :: r => by
    have := oc_mid c y (b :: r)
    show oc (a :: b :: (r ++ c :: y)) ≤ _
    rw [oc2, oc2]
    have e : oc (b :: r ++ c :: y) = oc (b :: (r ++ c :: y)) := rfl
    omega
theorem oc_sep (y : List Nat) : ∀ x : List Nat, oc (x ++ 59 :: 32 :: y) ≤ oc x + oc y + 1
  | [] => by
    show oc (59 :: 32 :: y) ≤ _
    rw [oc2, oc32, if_pos ⟨rfl, rfl⟩]
    omega
  | [a] => by
    show oc (a :: 59 :: 32 :: y) ≤ _
    rw [oc2, oc2, oc32, if_neg (by omega), if_pos ⟨rfl, rfl⟩]
    omega
  | a :: b :: r => by
    have := oc_sep y (b :: r)
    show oc (a :: b :: (r ++ 59 :: 32 :: y)) ≤ _
    rw [oc2, oc2]
    have e : oc (b :: r ++ 59 :: 32 :: y) = oc (b :: (r ++ 59 :: 32 :: y)) := rfl
    omega
theorem oc_00 (y : List Nat) : ∀ x : List Nat, oc (x ++ 48 :: 48 :: y) ≤ oc x + oc y + 1
  | [] => by
    show oc (48 :: 48 :: y) ≤ _
    have := (oc_cons 48 y).2
    rw [oc2, if_neg (by omega)]
    omega
  | [a] => by
    show oc (a :: 48 :: 48 :: y) ≤ _
    have := (oc_cons 48 y).2
    rw [oc2, oc2, if_neg (by omega), if_neg (by omega)]
    omega
  | a :: b :: r => by
    have := oc_00 y (b :: r)
    show oc (a :: b :: (r ++ 48 :: 48 :: y)) ≤ _
    rw [oc2, oc2]
    have e : oc (b :: r ++ 48 :: 48 :: y) = oc (b :: (r ++ 48 :: 48 :: y)) := rfl
    omega
theorem oc_drop : ∀ (l : List Nat) (n : Nat), oc (l.drop (n + 1)) ≤ oc (l.drop n)
  | [], n => by simp
  | a :: r, 0 => (oc_cons a r).1
  | a :: r, n + 1 => oc_drop r n
theorem oc_cut : ∀ (l : List Nat) (n : Nat), oc (l.take n) + oc (l.drop n) ≤ oc l
  | l, 0 => by simp [oc]
  | [], n + 1 => by simp [oc]
  | [a], n + 1 => by simp [oc]
  | a :: b :: r, 1 => by
    show oc [a] + oc (b :: r) ≤ _
    rw [oc2]
    show 0 + _ ≤ _
    omega
  | a :: b :: r, n + 2 => by
    have := oc_cut (b :: r) (n + 1)
    show oc (a :: b :: r.take n) + oc (r.drop n) ≤ _
    rw [oc2, oc2]
    have e : (b :: r).take (n + 1) = b :: r.take n := rfl
    have e2 : (b :: r).drop (n + 1) = r.drop n := rfl
    rw [e, e2] at this
    omega
theorem pre_no {a b : Nat} {r : List Nat} (h : ¬ (a = 59 ∧ b = 32)) : TL.pre [59, 32] (a :: b :: r) = false := by
  show ([a, b] == [59, 32]) = false
  rw [beq_eq_false_iff_ne]
  intro e
  simp only [List.cons.injEq, and_true] at e
  exact h e
theorem spl_oc : ∀ (n : Nat) (l acc : List Nat), l.length ≤ n → (TL.spl [59, 32] 0 acc l).length = 1 + oc l
  | _, [], acc, _ => by rw [TL.spl_nil]; rfl
  | _, [a], acc, _ => by
    rw [TL.spl_miss (by
      show ([a] == [59, 32]) = false
      rw [beq_eq_false_iff_ne]
      simp), TL.spl_nil]
    rfl
  | 0, _ :: _ :: _, _, h => by simp at h
  | n + 1, a :: b :: r, acc, h => by
    rw [List.length_cons, List.length_cons] at h
    by_cases hh : a = 59 ∧ b = 32
    · obtain ⟨rfl, rfl⟩ := hh
      rw [TL.spl_hit (show TL.pre [59, 32] (59 :: 32 :: r) = true from TL.pre_self [59, 32] r), List.length_cons, oc2, if_pos ⟨rfl, rfl⟩, oc32]
      show (TL.spl [59, 32] 1 [] (32 :: r)).length + 1 = _
      rw [TL.spl_pass]
      show (TL.spl [59, 32] 0 [] r).length + 1 = _
      rw [spl_oc n r [] (by omega)]
      omega
    · rw [TL.spl_miss (pre_no hh), spl_oc n (b :: r) _ (by rw [List.length_cons]; omega), oc2, if_neg hh]
      omega
theorem parts_oc (z : Str) : (cutS z "; ").length = 1 + oc (TL.tl z) := by
  have h := TL.split_spl z "; " (by decide +kernel) (TL.kind_ok (by decide +kernel))
  have e : TL.tl ("; " : Str) = [59, 32] := by decide +kernel
  rw [e] at h
  have h2 := congrArg List.length h
  rw [List.length_map, spl_oc _ _ _ (Nat.le_refl _)] at h2
  exact h2
/-- what is kept of a bent text -/
structure BentOk (z : Str) : Prop where
  len : z.length ≤ 900
  par : (cutS z "; ").length ≤ 41
  ok : okS z
structure PartsOk (ps : List Str) : Prop where
  ne : ps ≠ []
  par : ∀ q ∈ ps, 59 ∉ TL.tl q ∧ 1 ≤ q.length ∧ q.length ≤ 18 ∧ okS q
def joinP (ps : List Str) : Str := Txt.join (Str.ofString "; ") ps
theorem joinP_cut {ps : List Str} (h : PartsOk ps) : cutS (joinP ps) "; " = ps :=
  TL.split_join (s := 59) (S := [32]) (by decide +kernel) (by decide +kernel) h.ne fun p hp => (h.par p hp).1
theorem joinP_ok {ps : List Str} (h : PartsOk ps) : okS (joinP ps) := fun c hc => by
  have e : (joinP ps).cps.toList = TL.joinL (TL.tl (Str.ofString "; ")) (ps.map TL.tl) := by
    unfold joinP
    rw [TL.join_eq]
    exact TL.tl_join _ _
  rw [e] at hc
  rcases mem_joinL hc with h1 | ⟨p, hp, hcp⟩
  · have e2 : TL.tl (Str.ofString "; ") = [59, 32] := by decide +kernel
    rw [e2] at h1
    simp only [List.mem_cons, List.not_mem_nil, or_false] at h1
    rcases h1 with rfl | rfl <;> decide
  · obtain ⟨q, hq, rfl⟩ := List.mem_map.mp hp
    exact (h.par q hq).2.2.2 c hcp
theorem sum18 : ∀ l : List Str, (∀ z ∈ l, z.length ≤ 18) → (l.map (·.length)).sum ≤ l.length * 18
  | [], _ => Nat.le_refl _
  | z :: r, h => by
    have a := h z (List.mem_cons_self ..)
    have b := sum18 r fun x hx => h x (List.mem_cons_of_mem _ hx)
    rw [List.map_cons, List.sum_cons, List.length_cons, Nat.add_mul, Nat.one_mul]
    omega
theorem joinP_len {ps : List Str} (h : PartsOk ps) : (joinP ps).length ≤ ps.length * 20 := by
  have a := StrLaws.join_length_le (Str.ofString "; ") ps
  have b := sum18 ps fun z hz => (h.par z hz).2.2.1
  have l2 : (Str.ofString "; ").length = 2 := by decide +kernel
  unfold joinP
  rw [TL.join_eq]
  rw [l2] at a
  omega
theorem joinP_pos {ps : List Str} (h : PartsOk ps) : 1 ≤ (joinP ps).length := by
  obtain ⟨q, r, e⟩ : ∃ q r, ps = q :: r := by
    cases hc : ps with
    | nil => exact absurd hc h.ne
    | cons a r => exact ⟨a, r, rfl⟩
  have hq := cut_len (z := joinP ps) (y := "; ") (p := q) (by decide +kernel) (by decide +kernel) (by rw [joinP_cut h, e]; exact List.mem_cons_self ..)
  have := (h.par q (by rw [e]; exact List.mem_cons_self ..)).2.1
  omega
theorem joinP_bent {ps : List Str} (h : PartsOk ps) (l : ps.length ≤ 41) : BentOk (joinP ps) :=
  ⟨by have := joinP_len h; omega, by rw [joinP_cut h]; exact l, joinP_ok h⟩
theorem okS_sub {z y : Str} (h : okS z) (k : ∀ c ∈ TL.tl y, c ∈ TL.tl z) : okS y := fun c hc => h c (k c hc)
/-- a sign more at the end -/
theorem bent_end {z s : Str} (hz : z.length ≤ 800) (hp : (cutS z "; ").length ≤ 40) (hk : okS z) (hs : s = "" ∨ ∃ c, TL.tl s = [c] ∧ c < 0x110000) : BentOk (z ++ s) := by
  have e : TL.tl (z ++ s) = TL.tl z ++ TL.tl s := TL.tl_append z s
  have el : (z ++ s).length = z.length + s.length := Str.length_append z s
  have e3 : (cutS (z ++ s) "; ").length = 1 + oc (TL.tl (z ++ s)) := parts_oc _
  rw [parts_oc] at hp
  rcases hs with rfl | ⟨c, ec, hc⟩
  · have e2 : TL.tl ("" : Str) = [] := by decide +kernel
    have l0 : ("" : Str).length = 0 := by decide +kernel
    refine ⟨by omega, by rw [e3, e, e2, List.append_nil]; omega, okS_app hk fun c hc => ?_⟩
    have : c ∈ TL.tl ("" : Str) := hc
    rw [e2] at this
    cases this
  · have l1 : s.length = 1 := by rw [TL.len_tl, ec]; rfl
    have := oc_mid c [] (TL.tl z)
    refine ⟨by omega, by rw [e3, e, ec]; have : oc [] = 0 := rfl; omega, okS_app hk fun d hd => ?_⟩
    have : d ∈ TL.tl s := hd
    rw [ec, List.mem_singleton] at this
    rw [this]
    exact hc
/-- a sign put in, left out or exchanged -/
theorem bent_mid {z y s : Str} {a k : Nat} (hz : z.length ≤ 800) (hp : (cutS z "; ").length ≤ 40) (hk : okS z) (hk2 : k ≤ 1) (e : TL.tl y = (TL.tl z).take a ++ TL.tl s ++ (TL.tl z).drop (a + k)) (hs : TL.tl s = [] ∨ (∃ c, TL.tl s = [c] ∧ c < 0x110000) ∨ TL.tl s = [59, 32] ∨ TL.tl s = [48, 48]) : BentOk y := by
  have c1 := oc_cut (TL.tl z) a
  have c2 : oc ((TL.tl z).drop (a + k)) ≤ oc ((TL.tl z).drop a) := by
    have : k = 0 ∨ k = 1 := by omega
    rcases this with rfl | rfl
    · exact Nat.le_refl _
    · exact oc_drop _ _
  rw [parts_oc] at hp
  have ls : (TL.tl s).length ≤ 2 := by
    rcases hs with h | ⟨c, h, _⟩ | h | h <;> rw [h] <;> simp
  have oy : oc (TL.tl y) ≤ oc (TL.tl z) + 1 := by
    rw [e, List.append_assoc]
    rcases hs with h | ⟨c, h, _⟩ | h | h <;> rw [h]
    · have := oc_app ((TL.tl z).drop (a + k)) ((TL.tl z).take a)
      rw [List.nil_append]
      omega
    · have := oc_mid c ((TL.tl z).drop (a + k)) ((TL.tl z).take a)
      show oc ((TL.tl z).take a ++ c :: (TL.tl z).drop (a + k)) ≤ _
      omega
    · have := oc_sep ((TL.tl z).drop (a + k)) ((TL.tl z).take a)
      show oc ((TL.tl z).take a ++ 59 :: 32 :: (TL.tl z).drop (a + k)) ≤ _
      omega
    · have := oc_00 ((TL.tl z).drop (a + k)) ((TL.tl z).take a)
      show oc ((TL.tl z).take a ++ 48 :: 48 :: (TL.tl z).drop (a + k)) ≤ _
      omega
  refine ⟨?_, by rw [parts_oc]; omega, fun c hc => ?_⟩
  · rw [TL.len_tl, e, List.length_append, List.length_append, List.length_take, List.length_drop]
    rw [TL.len_tl] at hz
    omega
  · have hc' : c ∈ TL.tl y := hc
    rw [e, List.append_assoc] at hc'
    rcases List.mem_append.mp hc' with h | h
    · exact hk c (List.mem_of_mem_take h)
    rcases List.mem_append.mp h with h | h
    · rcases hs with q | ⟨d, q, hd⟩ | q | q <;> rw [q] at h
      · cases h
      · rw [List.mem_singleton.mp h]
        exact hd
      · simp only [List.mem_cons, List.not_mem_nil, or_false] at h
        rcases h with rfl | rfl <;> decide
      · simp only [List.mem_cons, List.not_mem_nil, or_false] at h
        rcases h with rfl | rfl <;> decide
    · exact hk c (List.mem_of_mem_drop h)
theorem tlc_take (z : Str) (a : Nat) : TL.tl (L2.cutS z none (some ((a : Nat) : Int))) = (TL.tl z).take a := by
  show (z.cps.toList.drop (HT.sIx z.length 0 none)).take (HT.sIx z.length z.length (some ((a : Nat) : Int)) - HT.sIx z.length 0 none) = z.cps.toList.take a
  have l : z.cps.toList.length = z.length := by simp [Str.length]
  rw [HT.sIx_none, HT.sIx_nat, List.drop_zero, Nat.sub_zero, ← l]
  by_cases h : a ≤ z.cps.toList.length
  · rw [Nat.min_eq_left h]
  · rw [Nat.min_eq_right (by omega), List.take_of_length_le (Nat.le_refl _), List.take_of_length_le (by omega)]
theorem tlc_drop (z : Str) (a : Nat) : TL.tl (L2.cutS z (some ((a : Nat) : Int)) none) = (TL.tl z).drop a := by
  show (z.cps.toList.drop (HT.sIx z.length 0 (some ((a : Nat) : Int)))).take (HT.sIx z.length z.length none - HT.sIx z.length 0 (some ((a : Nat) : Int))) = z.cps.toList.drop a
  have l : z.cps.toList.length = z.length := by simp [Str.length]
  rw [HT.sIx_none, HT.sIx_nat, ← l]
  by_cases h : a ≤ z.cps.toList.length
  · rw [Nat.min_eq_left h, List.take_of_length_le (by rw [List.length_drop]; omega)]
  · rw [Nat.min_eq_right (by omega), List.drop_of_length_le (Nat.le_refl _), List.drop_of_length_le (l := z.cps.toList) (i := a) (by omega), List.take_nil]
theorem ixN_q {n j : Nat} (hj : j < n) : ixN n ((j : Nat) : Int) = some j := by
  unfold ixN
  rw [if_pos (by omega), if_pos (by omega)]
  simp
def sgns : List Str := [" ", ";", "; ", "0", "1", "a", "-", "00", "\n"]
def ends : List Str := ["", " ", ";", "\n"]
theorem sgn_ok : ∀ i : _root_.Fin 9, ∃ s, (sgns.map V.str)[i.1]? = some (V.str s) ∧ s.length ≤ 2 ∧ ((∃ c, TL.tl s = [c] ∧ c < 0x110000) ∨ TL.tl s = [59, 32] ∨ TL.tl s = [48, 48])
  | ⟨0, _⟩ => ⟨" ", rfl, by decide +kernel, .inl ⟨32, by decide +kernel, by decide⟩⟩
  | ⟨1, _⟩ => ⟨";", rfl, by decide +kernel, .inl ⟨59, by decide +kernel, by decide⟩⟩
  | ⟨2, _⟩ => ⟨"; ", rfl, by decide +kernel, .inr (.inl (by decide +kernel))⟩
  | ⟨3, _⟩ => ⟨"0", rfl, by decide +kernel, .inl ⟨48, by decide +kernel, by decide⟩⟩
  | ⟨4, _⟩ => ⟨"1", rfl, by decide +kernel, .inl ⟨49, by decide +kernel, by decide⟩⟩
  | ⟨5, _⟩ => ⟨"a", rfl, by decide +kernel, .inl ⟨97, by decide +kernel, by decide⟩⟩
  | ⟨6, _⟩ => ⟨"-", rfl, by decide +kernel, .inl ⟨45, by decide +kernel, by decide⟩⟩
  | ⟨7, _⟩ => ⟨"00", rfl, by decide +kernel, .inr (.inr (by decide +kernel))⟩
  | ⟨8, _⟩ => ⟨"\n", rfl, by decide +kernel, .inl ⟨10, by decide +kernel, by decide⟩⟩
theorem end_ok : ∀ i : _root_.Fin 4, ∃ s, (ends.map V.str)[i.1]? = some (V.str s) ∧ s.length ≤ 2 ∧ (s = "" ∨ ∃ c, TL.tl s = [c] ∧ c < 0x110000)
  | ⟨0, _⟩ => ⟨"", rfl, by decide +kernel, .inl rfl⟩
  | ⟨1, _⟩ => ⟨" ", rfl, by decide +kernel, .inr ⟨32, by decide +kernel, by decide⟩⟩
  | ⟨2, _⟩ => ⟨";", rfl, by decide +kernel, .inr ⟨59, by decide +kernel, by decide⟩⟩
  | ⟨3, _⟩ => ⟨"\n", rfl, by decide +kernel, .inr ⟨10, by decide +kernel, by decide⟩⟩
section
variable {P : Program} {w : World} {K : PySem.W.Frag} {mg : Str → Option Value} {base : Heap}
abbrev sBnt : Stmt := Kx.topS 64
abbrev nBnt : List Str := ["_law_deal_here", "_law_line_here", "_law_parts", "_law_way", "_law_at", "_law_sign", "_law_one", "_law_two"]
theorem scBnt : FnScope nBnt ["_law_deal_here", "_law_line_here"] (defScope sBnt) := ⟨rfl, rfl, rfl, by decide +kernel, rfl, by decide +kernel, by decide +kernel⟩
def spBnt : Sp := fun vs H Q _ => ∃ (p : Addr) (ps : List Str), vs = [.ref p, .str (joinP ps)] ∧ DealAt H p ∧ PartsOk ps ∧ ps.length ≤ 40 ∧ ∀ (y : Str) (H' : Hp), BentOk y → DealAt H' p → Sb p H H' → Q (.str y) H'
set_option maxHeartbeats 16000000 in
theorem ok_bnt {f fp : Addr} {fd fdp : FuncData} (F : Fun K "_law_bent" "_law_bent" sBnt f fd) (T : TS0 mg)
    (GP : FnOk P w K mg base CX0 1 fp fdp ["_law_deal_here", "_law_many"] spPick) (kp : PySem.W.keepIn K (.ref fp) = true) (bP : Binds K fdp ["_law_deal_here", "_law_many"] []) (gP : mg "_law_pick" = some (.ref fp)) :
    FnOk P w K mg base CX0 2 f fd ["_law_deal_here", "_law_line_here"] spBnt := by
  refine F.ok scBnt (fun vs H Q E h => ?_) (fun cv A ou s H vs Q E hr h => ?_)
  · obtain ⟨p, ps, rfl, _⟩ := h
    rfl
  obtain ⟨p, ps, rfl, hD, hp, h40, q⟩ := h
  refine ⟨_, pss_cons (ps_par3 (i := 2) (j := 3) (l := 4) (by rfl) scBnt.nd rfl rfl rfl (by decide) (by decide) (by decide) rfl rfl rfl (pa_cons (pe_split (pv 1) pe_str) (pa_cons (pe_call GP hr (by rfl) gP kp bP .nil pass0 (pa_cons (pv 0) (pa_cons pe_int pa_nil))) (pa_cons (pe_call GP hr (by rfl) gP kp bP .nil pass0 (pa_cons (pv 0) (pa_cons (pe_callB call_len_str (by rfl) T.len PySem.boot_len (pa_cons (pv 1) pa_nil)) pa_nil))) pa_nil))) (by rfl))
    (pss_cons (ps_set (i := 5) scBnt.nd rfl (.inl rfl) (pe_ix ix_list (pe_lst (pa_cons pe_str (pa_cons pe_str (pa_cons pe_str (pa_cons pe_str (pa_cons pe_str (pa_cons pe_str (pa_cons pe_str (pa_cons pe_str (pa_cons pe_str pa_nil)))))))))) (pe_call GP hr (by rfl) gP kp bP .nil pass0 (pa_cons (pv 0) (pa_cons pe_int pa_nil))) (fun _ _ => rfl)))
    (pss_cons (ps_if (pt_cmpR op_lt (pv 3) pe_int (nomark _)) (pss_one (ps_ret (pe_op op_add_str (pe_op op_add_str (pe_slice sl_str (pv 1) po_none (po_some (pv 4))) (pe_ix ix_list (pe_lst (pa_cons pe_str (pa_cons (pv 5) (pa_cons (pv 5) pa_nil)))) (pv 3) (fun _ _ => rfl)))
        (pe_slice sl_str (pv 1) (po_some (pe_op op_add (pv 4) (pe_ix ix_list (pe_lst (pa_cons pe_int (pa_cons pe_int (pa_cons pe_int pa_nil)))) (pv 3) (fun _ _ => rfl)))) po_none)))) pss_nil)
    (pss_cons (ps_par (i := 6) (j := 7) (by rfl) scBnt.nd rfl rfl (by decide) rfl rfl (pa_cons (pe_call GP hr (by rfl) gP kp bP .nil pass0 (pa_cons (pv 0) (pa_cons (pe_callB call_len_seq (by rfl) T.len PySem.boot_len (pa_cons (pv 2) pa_nil)) pa_nil))) (pa_cons (pe_call GP hr (by rfl) gP kp bP .nil pass0 (pa_cons (pv 0) (pa_cons (pe_callB call_len_seq (by rfl) T.len PySem.boot_len (pa_cons (pv 2) pa_nil)) pa_nil))) pa_nil)) (by rfl))
    (pss_cons (ps_if (pt_cmpR op_eq (pv 3) pe_int (nomark _)) (pss_one (ps_asg (pe_tup (pa_cons (pe_ix ix_list (pv 2) (pv 7) (fun _ _ => rfl)) (pa_cons (pe_ix ix_list (pv 2) (pv 6) (fun _ _ => rfl)) pa_nil))) (pg_tup rfl (pgs_cons (pg_sub (pv 2) (pv 6) set_list) (pgs_cons (pg_sub (pv 2) (pv 7) set_list) pgs_nil))))) pss_nil)
    (pss_cons (ps_if (pt_cmpR op_eq (pv 3) pe_int (nomark _)) (pss_one (ps_set (i := 2) scBnt.nd rfl (.inl rfl) (pe_op op_cat (pe_op op_cat (pe_slice sl_list (pv 2) po_none (po_some (pv 6))) (pe_lst (pa_cons (pe_ix ix_list (pv 2) (pv 7) (fun _ _ => rfl)) pa_nil))) (pe_slice sl_list (pv 2) (po_some (pv 6)) po_none)))) pss_nil)
    (pss_cons (ps_if (pt_cmpR op_eq (pv 3) pe_int (nomark _)) (pss_one (ps_set (i := 2) scBnt.nd rfl (.inl rfl) (pe_slice sl_list (pv 2) po_none (po_some (pe_op op_add (pv 6) pe_int))))) pss_nil)
    (pss_one (ps_ret (pe_ifExp (pt_cmpR op_eq (pv 3) pe_int (nomark _)) (pe_op op_add_str (pe_join pe_str (pv 2)) (pe_ix ix_list (pe_lst (pa_cons pe_str (pa_cons pe_str (pa_cons pe_str (pa_cons pe_str pa_nil))))) (pe_call GP hr (by rfl) gP kp bP .nil pass0 (pa_cons (pv 0) (pa_cons pe_int pa_nil))) (fun _ _ => rfl))) (pe_join pe_str (pv 2))))))))))), ?_⟩
  have sz := sizeLine_eq
  have zl := joinP_len hp
  have zp := joinP_pos hp
  have zc := joinP_cut hp
  have zok := joinP_ok hp
  have z40 : (cutS (joinP ps) "; ").length ≤ 40 := by rw [zc]; exact h40
  have pl : 1 ≤ ps.length := List.length_pos_iff.mpr hp.ne
  have pH : ∀ {G : Hp}, DealAt G p → ∀ {b : Addr}, G b = none → b ≠ p := fun D b n e => by
    obtain ⟨_, _, _, e2, _⟩ := D
    rw [e, e2] at n
    cases n
  refine ⟨.str (joinP ps), rfl, ⟨_, rfl⟩, joinP ps, "; ", rfl, rfl, by decide +kernel, by omega, fun PA nPA => ?_⟩
  have zc' : Txt.split (joinP ps) "; " = ps := zc
  rw [zc'] at *
  have PAp := pH hD nPA
  have sPA := same_new (o := .lst (ps.map V.str)) nPA
  refine ⟨.ref p, rfl, p, 7, rfl, hD.keep sPA, by decide, by decide, fun d1 H1 l1 u1 D1 b1 => ?_⟩
  refine ⟨.ref p, rfl, .str (joinP ps), rfl, joinP ps, rfl, by omega, p, _, rfl, D1, by omega, by omega, fun d2 H2 l2 u2 D2 b2 => ⟨_, _, _, rfl, ?_⟩⟩
  have B2 : Sb p H H2 := Sb.trans (.of sPA) (Sb.trans b1 b2)
  have ePA2 : H2 PA = some (.lst (ps.map V.str)) := b2 _ _ PAp (b1 _ _ PAp upd_same)
  refine ⟨(by show 9 ≤ sizeLine; decide), fun LL nLL => ?_⟩
  have LLp := pH D2 nLL
  have sLL := same_new (o := .lst (sgns.map V.str)) nLL
  refine ⟨.ref p, rfl, p, 9, rfl, D2.keep sLL, by decide, by decide, fun d3 H3 l3 u3 D3 b3 => ?_⟩
  obtain ⟨c3, rfl⟩ := Int.eq_ofNat_of_zero_le l3
  obtain ⟨sg, esg, lsg, hsg⟩ := sgn_ok ⟨c3, by omega⟩
  refine ⟨LL, _, _, .str sg, rfl, rfl, SqL.of (b3 _ _ LLp upd_same), atI_nat esg, ?_⟩
  have B3 : Sb p H H3 := B2.trans (Sb.trans (.of sLL) b3)
  have ePA3 : H3 PA = some (.lst (ps.map V.str)) := b3 _ _ PAp (sLL _ _ ePA2)
  obtain ⟨a, rfl⟩ := Int.eq_ofNat_of_zero_le l2
  refine ⟨.int d1, rfl, _, _, rfl, rfl, _, rfl, ?_⟩
  by_cases h3 : d1 < 3
  · rw [decide_eq_true h3]
    refine iteT ?_
    have hw : ∃ (s' : Str) (k : Nat), atI [V.str "", V.str sg, V.str sg] d1 = some (.str s') ∧ atI [V.int 1, V.int 0, V.int 1] d1 = some (.int ((k : Nat) : Int)) ∧ k ≤ 1 ∧ s'.length ≤ 2 ∧ (TL.tl s' = [] ∨ (∃ c, TL.tl s' = [c] ∧ c < 0x110000) ∨ TL.tl s' = [59, 32] ∨ TL.tl s' = [48, 48]) := by
      have : d1 = 0 ∨ d1 = 1 ∨ d1 = 2 := by omega
      rcases this with rfl | rfl | rfl
      · exact ⟨"", 1, rfl, rfl, by decide, by decide +kernel, .inl (by decide +kernel)⟩
      · exact ⟨sg, 0, rfl, rfl, by decide, lsg, .inr hsg⟩
      · exact ⟨sg, 1, rfl, rfl, by decide, lsg, .inr hsg⟩
    obtain ⟨s', k, e1, e2, hk, ls', hs'⟩ := hw
    have c1 := cutS_length (joinP ps) none (some ((a : Nat) : Int))
    have c2 := cutS_length (joinP ps) (some (((a : Nat) : Int) + ((k : Nat) : Int))) none
    refine ⟨.str (joinP ps), rfl, .int ((a : Nat) : Int), rfl, _, rfl, joinP ps, rfl, by omega, .str sg, rfl, .str sg, rfl, (by show 3 ≤ sizeLine; decide), fun L3 nL3 => ?_⟩
    have sL3 := same_new (o := .lst [V.str "", V.str sg, V.str sg]) nL3
    refine ⟨.int d1, rfl, L3, _, _, .str s', rfl, rfl, SqL.of upd_same, e1, _, _, rfl, rfl, by omega, ?_⟩
    refine ⟨.str (joinP ps), rfl, .int ((a : Nat) : Int), rfl, (by show 3 ≤ sizeLine; decide), fun L4 nL4 => ?_⟩
    have sL4 := same_new (o := .lst [V.int 1, V.int 0, V.int 1]) nL4
    refine ⟨.int d1, rfl, L4, _, _, .int ((k : Nat) : Int), rfl, rfl, SqL.of upd_same, e2, _, _, rfl, rfl, _, rfl, joinP ps, rfl, by omega, _, _, rfl, rfl, by rw [Str.length_append]; omega, ?_⟩
    refine q _ _ (bent_mid (k := k) (a := a) (s := s') (by omega) z40 zok hk ?_ hs') ((D3.keep sL3).keep sL4) (B3.trans (.of (sL3.trans sL4)))
    rw [TL.tl_append, TL.tl_append, tlc_take]
    show _ ++ TL.tl (L2.cutS (joinP ps) (some (((a : Nat) : Int) + ((k : Nat) : Int))) none) = _
    rw [show (((a : Nat) : Int) + ((k : Nat) : Int)) = ((a + k : Nat) : Int) from rfl, tlc_drop]
  rw [decide_eq_false h3]
  refine iteF ?_
  refine ⟨.ref p, rfl, .ref PA, rfl, PA, _, rfl, .inl (SqL.of ePA3), p, _, rfl, D3, by rw [List.length_map]; omega, by rw [List.length_map]; omega, fun d4 H4 l4 u4 D4 b4 => ?_⟩
  have ePA4 := b4 _ _ PAp ePA3
  refine ⟨.ref p, rfl, .ref PA, rfl, PA, _, rfl, .inl (SqL.of ePA4), p, _, rfl, D4, by rw [List.length_map]; omega, by rw [List.length_map]; omega, fun d5 H5 l5 u5 D5 b5 => ⟨_, _, rfl, ?_⟩⟩
  have ePA5 := b5 _ _ PAp ePA4
  have B5 : Sb p H H5 := B3.trans (Sb.trans b4 b5)
  rw [List.length_map] at u4 u5
  obtain ⟨i, rfl⟩ := Int.eq_ofNat_of_zero_le l4
  obtain ⟨j, rfl⟩ := Int.eq_ofNat_of_zero_le l5
  have hi : i < ps.length := by omega
  have hj : j < ps.length := by omega
  have ei : ps[i]? = some ps[i] := List.getElem?_eq_getElem hi
  have ej : ps[j]? = some ps[j] := List.getElem?_eq_getElem hj
  have ei' : (ps.map V.str)[i]? = some (.str ps[i]) := by rw [List.getElem?_map, ei]; rfl
  have ej' : (ps.map V.str)[j]? = some (.str ps[j]) := by rw [List.getElem?_map, ej]; rfl
  have mi := List.mem_of_getElem? ei
  have mj := List.mem_of_getElem? ej
  -- the end: the parts at A joined
  have l2 : (Str.ofString "; ").length = 2 := by decide +kernel
  have joined : ∀ (qs : List Str) (G : Hp), PartsOk qs → qs.length ≤ 41 → (qs.map (·.length)).sum + qs.length * (Str.ofString "; ").length ≤ 16777216 := fun qs G hq lq => by
    have b := sum18 qs fun z hz => (hq.par z hz).2.2.1
    rw [l2]
    omega
  have done : ∀ (qs : List Str) (G : Hp), PartsOk qs → qs.length ≤ 41 → DealAt G p → Sb p H G → Q (.str (Txt.join (Str.ofString "; ") qs)) G := fun qs G hq lq DG BG => q (joinP qs) G (joinP_bent hq lq) DG BG
  have hd : d1 = 3 ∨ d1 = 4 ∨ d1 = 5 ∨ d1 = 6 := by omega
  rcases hd with rfl | rfl | rfl | rfl
  · refine ⟨.int 3, rfl, rfl, _, rfl, iteT ⟨.ref PA, rfl, .int ((j : Nat) : Int), rfl, PA, _, _, .str ps[j], rfl, rfl, SqL.of ePA5, atI_nat ej', .ref PA, rfl, .int ((i : Nat) : Int), rfl, PA, _, _, .str ps[i], rfl, rfl, SqL.of ePA5, atI_nat ei', (by show 2 ≤ sizeLine; decide), fun T2 nT2 => ?_⟩⟩
    have sT2 := same_new (o := .tup [V.str ps[j], V.str ps[i]]) nT2
    have ePA6 := sT2 _ _ ePA5
    have TPA : T2 ≠ PA := fun e => by rw [e, ePA5] at nT2; cases nT2
    have D6 := D5.keep sT2
    have mvp : ∀ {G : Hp} {o : HO}, DealAt G p → DealAt (upd G PA o) p := fun D => by
      obtain ⟨x, y, c, e, l⟩ := D
      exact ⟨x, y, c, by rw [upd_ne (Ne.symm PAp)]; exact e, l⟩
    have eset : ((ps.map V.str).set i (V.str ps[j])).set j (V.str ps[i]) = ((ps.set i ps[j]).set j ps[i]).map V.str := by
      rw [List.map_set, List.map_set]
    refine ⟨T2, _, rfl, SqT.of upd_same, rfl, _, _, rfl, .ref PA, rfl, .int ((i : Nat) : Int), rfl, PA, _, _, i, rfl, rfl, ePA6, ixN_q (by rw [List.length_map]; exact hi), ?_⟩
    refine ⟨_, _, rfl, .ref PA, rfl, .int ((j : Nat) : Int), rfl, PA, _, _, j, rfl, rfl, upd_same, ixN_q (by rw [List.length_set, List.length_map]; exact hj), rfl, ?_⟩
    have hq : PartsOk ((ps.set i ps[j]).set j ps[i]) := ⟨fun e => by
      have := congrArg List.length e
      rw [List.length_set, List.length_set, List.length_nil] at this
      omega, fun x hx => by
      rcases List.mem_or_eq_of_mem_set hx with h | rfl
      · rcases List.mem_or_eq_of_mem_set h with h | rfl
        · exact hp.par x h
        · exact hp.par _ mj
      · exact hp.par _ mi⟩
    have lq : ((ps.set i ps[j]).set j ps[i]).length ≤ 41 := by
      rw [List.length_set, List.length_set]
      omega
    refine ⟨.int 3, rfl, rfl, _, rfl, iteF ⟨.int 3, rfl, rfl, _, rfl, iteF ⟨.int 3, rfl, rfl, _, rfl, iteF ⟨⟨_, rfl⟩, .ref PA, rfl, _, PA, _, rfl, rfl, .inl (SqL.of (by rw [upd_same, eset])), joined _ H5 hq lq, ?_⟩⟩⟩⟩
    refine done _ _ hq lq (mvp (mvp D6)) fun b o nb e => ?_
    have := B5 b o nb e
    have nbP : b ≠ PA := fun h => by rw [h] at e; rw [e] at nPA; cases nPA
    rw [upd_ne nbP, upd_ne nbP]
    exact sT2 _ _ this
  · refine ⟨.int 4, rfl, rfl, _, rfl, iteF ⟨.int 4, rfl, rfl, _, rfl, iteT ?_⟩⟩
    refine ⟨.ref PA, rfl, .int ((i : Nat) : Int), rfl, _, rfl, PA, _, rfl, SqL.of ePA5, fun A1 nA1 => ?_⟩
    have s1 := same_new (o := .lst (cutV (ps.map V.str) none (some ((i : Nat) : Int)))) nA1
    refine ⟨.ref PA, rfl, .int ((j : Nat) : Int), rfl, PA, _, _, .str ps[j], rfl, rfl, SqL.of (s1 _ _ ePA5), atI_nat ej', (by show 1 ≤ sizeLine; decide), fun A2 nA2 => ?_⟩
    have s2 := same_new (o := .lst [V.str ps[j]]) nA2
    have c1 := cut_take (xs := ps.map V.str) (i := i) (by rw [List.length_map]; omega)
    have c2 := cut_drop (xs := ps.map V.str) (i := i) (by rw [List.length_map]; omega)
    rw [c1] at s1 nA2 s2 ⊢
    refine ⟨A1, A2, _, _, rfl, rfl, s2 _ _ upd_same, upd_same, by rw [List.length_take, List.length_map, List.length_singleton]; omega, fun A3 nA3 => ?_⟩
    have s3 := same_new (o := .lst ((ps.map V.str).take i ++ [V.str ps[j]])) nA3
    have s03 := s1.trans (s2.trans s3)
    refine ⟨.ref PA, rfl, .int ((i : Nat) : Int), rfl, _, rfl, PA, _, rfl, SqL.of (s03 _ _ ePA5), fun A4 nA4 => ?_⟩
    rw [c2] at *
    have s4 := same_new (o := .lst ((ps.map V.str).drop i)) nA4
    refine ⟨A3, A4, _, _, rfl, rfl, s4 _ _ upd_same, upd_same, by rw [List.length_append, List.length_take, List.length_drop, List.length_map, List.length_singleton]; omega, fun A5 nA5 => ?_⟩
    have s5 := same_new (o := .lst ((ps.map V.str).take i ++ [V.str ps[j]] ++ (ps.map V.str).drop i)) nA5
    have s05 := s03.trans (s4.trans s5)
    have eq4 : (ps.map V.str).take i ++ [V.str ps[j]] ++ (ps.map V.str).drop i = (ps.take i ++ [ps[j]] ++ ps.drop i).map V.str := by
      rw [List.map_append, List.map_append, List.map_take, List.map_drop]
      rfl
    have hq : PartsOk (ps.take i ++ [ps[j]] ++ ps.drop i) := ⟨fun e => by
      have := congrArg List.length e
      rw [List.length_append, List.length_append, List.length_singleton, List.length_nil] at this
      omega, fun x hx => by
      rcases List.mem_append.mp hx with h | h
      · rcases List.mem_append.mp h with h | h
        · exact hp.par x (List.mem_of_mem_take h)
        · rw [List.mem_singleton.mp h]
          exact hp.par _ mj
      · exact hp.par x (List.mem_of_mem_drop h)⟩
    have lq : (ps.take i ++ [ps[j]] ++ ps.drop i).length ≤ 41 := by
      rw [List.length_append, List.length_append, List.length_singleton, List.length_take, List.length_drop]
      omega
    refine ⟨.int 4, rfl, rfl, _, rfl, iteF ⟨.int 4, rfl, rfl, _, rfl, iteF ⟨⟨_, rfl⟩, .ref A5, rfl, _, A5, _, rfl, rfl, .inl (SqL.of (by rw [upd_same, eq4])), joined _ H5 hq lq, ?_⟩⟩⟩
    exact done _ _ hq lq (D5.keep s05) (B5.trans (.of s05))
  · refine ⟨.int 5, rfl, rfl, _, rfl, iteF ⟨.int 5, rfl, rfl, _, rfl, iteF ⟨.int 5, rfl, rfl, _, rfl, iteT ?_⟩⟩⟩
    refine ⟨.ref PA, rfl, .int ((i : Nat) : Int), rfl, _, _, rfl, rfl, _, rfl, PA, _, rfl, SqL.of ePA5, fun A1 nA1 => ?_⟩
    have c1 : cutV (ps.map V.str) none (some (((i : Nat) : Int) + 1)) = (ps.map V.str).take (i + 1) := cut_take (xs := ps.map V.str) (i := i + 1) (by rw [List.length_map]; omega)
    rw [c1]
    have s1 := same_new (o := .lst ((ps.map V.str).take (i + 1))) nA1
    have hq : PartsOk (ps.take (i + 1)) := ⟨fun e => by
      have := congrArg List.length e
      rw [List.length_take, List.length_nil] at this
      omega, fun x hx => hp.par x (List.mem_of_mem_take hx)⟩
    have lq : (ps.take (i + 1)).length ≤ 41 := by
      rw [List.length_take]
      omega
    refine ⟨.int 5, rfl, rfl, _, rfl, iteF ⟨⟨_, rfl⟩, .ref A1, rfl, _, A1, _, rfl, rfl, .inl (SqL.of (by rw [upd_same, List.map_take])), joined _ H5 hq lq, ?_⟩⟩
    exact done _ _ hq lq (D5.keep s1) (B5.trans (.of s1))
  · refine ⟨.int 6, rfl, rfl, _, rfl, iteF ⟨.int 6, rfl, rfl, _, rfl, iteF ⟨.int 6, rfl, rfl, _, rfl, iteF ⟨.int 6, rfl, rfl, _, rfl, iteT ?_⟩⟩⟩⟩
    refine ⟨⟨_, rfl⟩, .ref PA, rfl, _, PA, ps, rfl, rfl, .inl (SqL.of ePA5), joined _ H5 hp (by omega), (by show 4 ≤ sizeLine; decide), fun L6 nL6 => ?_⟩
    have s6 := same_new (o := .lst (ends.map V.str)) nL6
    have L6p := pH D5 nL6
    refine ⟨.ref p, rfl, p, 4, rfl, D5.keep s6, by decide, by decide, fun d6 H6 l6 u6 D6 b6 => ?_⟩
    obtain ⟨c6, rfl⟩ := Int.eq_ofNat_of_zero_le l6
    obtain ⟨se, ese, lse, hse⟩ := end_ok ⟨c6, by omega⟩
    refine ⟨L6, _, _, .str se, rfl, rfl, SqL.of (b6 _ _ L6p upd_same), atI_nat ese, _, _, rfl, rfl, ?_, ?_⟩
    · show (joinP ps).length + se.length ≤ sizeLine
      omega
    · exact q _ _ (bent_end (z := joinP ps) (by omega) z40 zok hse) D6 (B5.trans (Sb.trans (.of s6) b6))
end
end Ks
set_option Elab.async false
set_option linter.all false
set_option maxRecDepth 100000
set_option maxHeartbeats 4000000
namespace Ks
open PySem PySem.Spec PyProof.Rows L2 Gd Kx
section
variable {P : Program} {w : World} {K : PySem.W.Frag} {mg : Str → Option Value} {base : Heap} {CT CS IR : Addr}
/-- the trees of a bundle of rows, right or not -/
def spOfrX (CT CS IR : Addr) : Sp := fun vs H Q E => ∃ (s R : Addr) (m : Md) (rs : List Ro), vs = [.ref CT, .ref s, .ref R] ∧ ScAt CS H s m ∧ Good m ∧ RwsO H R rs ∧ rs.length < sizeLine ∧ (∀ r ∈ rs, r.2.length ≤ 1000) ∧
  (¬ (1 ≤ rs.length ∧ rs.length ≤ 200 ∧ okTo m rs rs.length) → ∀ v d H', Same H H' → H' d = some (.xd [("index", v)]) → E (.ref IR) (some d) H') ∧
  ∀ (rs' : List Rn) (ts : List Tr) (t : Tr), rs = rs'.map liftR → 1 ≤ rs'.length → rs'.length ≤ 200 → Bld m rs' ts → ts[rs'.length - 1]? = some t → ∀ a H', Same H H' → TrAt CT CS m H' a t → Q (.ref a) H'
theorem rwsT_of {H : Hp} {R : Addr} {rs : List Rn} (h : RwsO H R (rs.map liftR)) : RwsT H R rs := by
  obtain ⟨xs, e, p⟩ := h
  refine ⟨xs, e, ?_⟩
  clear e
  induction rs generalizing xs with
  | nil =>
    cases p
    exact .nil
  | cons r rs ih =>
    cases p with
    | cons h t =>
      obtain ⟨b, q, e1, e2, e3⟩ := h
      refine .cons ⟨b, q, e1, e2, ?_⟩ (ih _ t)
      rw [e3]
      show some (HO.tup ((r.2.map some).map oN)) = some (HO.tup (r.2.map _))
      rw [List.map_map]
      rfl
set_option maxHeartbeats 8000000 in
theorem ok_ofrX {f fi fk fr : Addr} {fd fdk fdr : FuncData} (F : Fun K "of_rows" "Tree.of_rows" (cT 1) f fd) (T : TS0 mg)
    (Mt : Mk K CT fi) (FI : FnR P w K mg base CX0 5 fi (spMk CT CS))
    (GK : FnOk P w K mg base CX0 1 fk fdk ["schema"] (spChk CS)) (kk : PySem.W.keepIn K (.ref fk) = true) (bK : Binds K fdk ["schema"] []) (gK : mg "check_schema" = some (.ref fk))
    (GR : FnOk P w K mg base (L2N.CX P w) 5 fr fdr ["schema", "rows"] (spCrwO CS IR)) (kr : PySem.W.keepIn K (.ref fr) = true) (bR : Binds K fdr ["schema", "rows"] []) (gR : mg "check_rows" = some (.ref fr)) :
    FnOk P w K mg base (L2N.CX P w) 7 f fd ["cls", "schema", "rows"] (spOfrX CT CS IR) := by
  refine okXN F scOfr (fun vs H Q E h => ?_) (fun cv A ou s H vs Q E hr h => ?_)
  · obtain ⟨s, R, m, rs, rfl, _⟩ := h
    rfl
  obtain ⟨sa, R, m, ro, rfl, hs, g, hRO, lz, l1000, qE, qQ⟩ := h
  have hr1 : Room 1 (A.deeper (envOfC "Tree.of_rows" (defScope (cT 1)) s.heap.objs.size f cv)) := hr.mono (by decide)
  have hr5 : Room 5 (A.deeper (envOfC "Tree.of_rows" (defScope (cT 1)) s.heap.objs.size f cv)) := hr.mono (by decide)
  refine ⟨_, pss_cons (ps_expr (pe_call GK hr1 (by rfl) gK kk bK .nil pass0 (pa_cons (pv 1) pa_nil)))
    (pss_cons (ps_expr (pe_call GR hr5 (by rfl) gR kr bR .nil (L2N.passes_call (L2N.takes_of rfl rfl rfl rfl) (fun _ _ _ _ h => h)) (pa_cons (pv 1) (pa_cons (pv 2) pa_nil))))
    (pss_cons (ps_set (i := 3) scOfr.nd rfl (.inr rfl) (pe_lst pa_nil))
    (pss_cons (ps_for PassesOwn.leaving rfl (pi_tup (pv 2)) (pg_tup rfl (pgs_cons (pg_name (i := 4) scOfr.nd rfl (.inl rfl)) (pgs_cons (pg_name (i := 5) scOfr.nd rfl (.inl rfl)) pgs_nil)))
      (pss_cons (ps_setLc (i := 6) (own := [("number", 7)]) (g := gName 7) (tt := tYes) (by rfl) scOfr.nd rfl rfl (sw_true rfl rfl rfl (by decide +kernel)) (pi_tup (pv 5)) (blkOk_by (own := [("number", 7)]) (N := nOfr) (sc := defScope (cT 1)) (by decide +kernel))
          (fun _ _ _ _ _ => pg_name (i := 7) scOfr.nd rfl (Or.inl rfl)) (fun _ _ _ _ _ => pts_nil) (fun _ _ _ _ _ => asTE (te := tOp (rIxL K) (tVar 3) (tVar 7)) (pe_ix ix_list (pv 3) (pv 7) (fun _ _ => rfl)) rfl))
      (pss_one (ps_expr (pe_bm PySem.F.plainAttrs_list PySem.F.slot_list_append PySem.F.type_list_append mt_append (pv 3) (pa_cons (pe_makeVS (pv 0) Mt FI hr pass0 (pa_cons (pv 1) (pa_cons (pv 4) (StX.pa_star (pv 6) pa_nil)))) pa_nil))))))
    (pss_one (ps_ret (pe_ix ix_list (pv 3) (pe_un un_neg pe_int) (fun _ _ => rfl))))))), ?_⟩
  refine ⟨.ref sa, rfl, sa, m, rfl, hs, .ref sa, rfl, .ref R, rfl, sa, R, m, ro, rfl, hs, g, hRO, lz, l1000, fun hb d H' s e => qE (fun h => hb ⟨h.1, h.2.1⟩) _ d H' s e, fun r1 r200 => ⟨fun i r er gd hb d H' s e => qE (fun h => by
    have := h.2.2 i r (List.getElem?_eq_some_iff.mp er).1 er
    rw [hb] at this
    cases this) _ d H' s e, fun hok H1 s1 => ?_⟩⟩
  obtain ⟨rs, ts, e0, bd⟩ := ok_bld g hok ro.length (Nat.le_refl _)
  rw [List.take_length] at e0
  subst e0
  rw [List.length_map] at r1 r200
  have hR : RwsT H R rs := rwsT_of hRO
  obtain ⟨t, hlast⟩ : ∃ t, ts[rs.length - 1]? = some t := ⟨_, List.getElem?_eq_getElem (by rw [← bd.len]; omega)⟩
  have q := qQ rs ts t rfl r1 r200 bd hlast
  obtain ⟨xs, eR, pR⟩ := id hR
  have lx : xs.length = rs.length := Paired.length pR
  refine ⟨(by show 0 ≤ sizeLine; exact Nat.zero_le _), fun M nM => ?_⟩
  have sM := s1.trans (same_new (o := .lst []) nM)
  have nMH : H M = none := by
    cases z : H M with
    | none => rfl
    | some o => rw [s1 _ _ z] at nM; cases nM
  refine ⟨.ref R, rfl, R, rfl, ⟨_, SqT.of (sM _ _ eR)⟩, for_tup (K := K) (a := R) (xs := xs) (fun i σ H' => ∃ (o4 o5 o6 : Option V) (as : List Addr), σ = [some (.ref CT), some (.ref sa), some (.ref R), some (.ref M), o4, o5, o6, none] ∧ Same H H' ∧ H' M = some (.lst (as.map V.ref)) ∧ as.length = i ∧
      ∀ (j : Nat) (a : Addr) (u : Tr), as[j]? = some a → ts[j]? = some u → TrAt CT CS m H' a u) ⟨none, none, none, [], rfl, sM, upd_same, rfl, fun j a u e _ => by simp at e⟩ (fun i σ H' _ p => ?_) ?_ ?_⟩
  · obtain ⟨_, _, _, _, _, s2, _⟩ := p
    exact SqT.of (s2 _ _ eR)
  · rintro i x σ H2 hx ⟨o4, o5, o6, as, rfl, s2, eM, la, tt⟩
    obtain ⟨r, hr2, hrow⟩ := par_at pR hx
    have hi : i < rs.length := (List.getElem?_eq_some_iff.mp hr2).1
    have hit : i < ts.length := by rw [← bd.len]; exact hi
    obtain ⟨u, ht⟩ : ∃ u, ts[i]? = some u := ⟨_, List.getElem?_eq_getElem hit⟩
    obtain ⟨en, ln, kk⟩ := bd.at_ i r u hr2 ht
    have oku := bd.ok u (List.mem_of_getElem? ht)
    have k3 := u.kids3
    obtain ⟨b, q0, rfl, eb, eq0⟩ := RowN.keep hrow s2
    have lbs : (r.2.map fun n => as.getD n 0).length = r.2.length := List.length_map ..
    refine ⟨b, _, rfl, SqT.of eb, rfl, _, _, rfl, _, _, rfl, rfl, ?_⟩
    have get : ∀ (j n : Nat), r.2[j]? = some n → as[n]? = some (as.getD n 0) := fun j n e => by
      have hj : j < u.kids.length := by
        have := (List.getElem?_eq_some_iff.mp e).1
        omega
      obtain ⟨hn, _⟩ := kk j n _ e (List.getElem?_eq_getElem hj)
      have hl : n < as.length := by omega
      rw [List.getD_eq_getElem?_getD, List.getElem?_eq_getElem hl]
      rfl
    refine ⟨.ref q0, rfl, q0, rfl, ⟨_, SqT.of eq0⟩, fun D nD => lc_funT (K := K) (a := q0) (xs := nsV r.2) (ys := (r.2.map fun n => as.getD n 0).map V.ref) (fun _ => rfl) nD (SqT.of eq0) (by rw [nsV_len]; omega) (by rw [List.length_map, lbs, nsV_len]) (fun j y z H3 hy hz s3 pq => ?_) fun H3 s3 eD => ?_⟩
    · intro k
      unfold nsV at hy
      rw [List.getElem?_map] at hy hz
      rw [List.getElem?_map] at hz
      cases hn : r.2[j]? with
      | none => rw [hn] at hy; cases hy
      | some n =>
        rw [hn] at hy hz
        cases hy
        cases hz
        exact ⟨.ref M, rfl, .int ((n : Nat) : Int), rfl, M, _, _, _, rfl, rfl, SqL.of (s3 _ _ eM), atI_nat (by rw [List.getElem?_map, get j n hn]; rfl), k H3 fun _ _ e => e⟩
    have eM3 := s3 _ _ eM
    have s23 := s2.trans s3
    refine ⟨.ref M, rfl, .inl ⟨rfl, _, SqL.of eM3⟩, .ref CT, rfl, rfl, .ref sa, rfl, .str r.1, rfl, .ref D, rfl, D, _, rfl, .inr (SqL.of eD), fun y dy ny nd _ => ?_⟩
    have sb := mk_baseT (C := CT) ny nd
    have kid : Kids CT CS m H3 (r.2.map fun n => as.getD n 0) u.kids := ⟨by rw [lbs, ln], fun j a c ea ec => by
      rw [List.getElem?_map] at ea
      cases hn : r.2[j]? with
      | none => rw [hn] at ea; cases ea
      | some n =>
        rw [hn] at ea
        cases ea
        exact (tt n _ c (get j n hn) (kk j n c hn ec).2).keep s3⟩
    refine ⟨y, dy, sa, m, u, r.2.map fun n => as.getD n 0, by rw [List.append_nil, en], upd_same, (hs.keep s23).keep sb, g, oku, kid.keep sb, Nat.le_trans (bd.sub_len ht) (by omega), fun H4 bt ht4 => ⟨rfl, ?_⟩⟩
    have s4 := mk_sameT ny nd bt
    have eM4 := s4 _ _ eM3
    have n5 : Nl H4 (upd H4 M (.lst (as.map V.ref ++ [.ref y]))) := Nl.upd eM4
    refine ⟨M, _, _, rfl, rfl, eM4, by rw [List.length_map, la]; exact small1000 (by omega), _, _, _, as ++ [y], rfl, same_upd (s23.trans s4) nMH, by rw [upd_same, List.map_append]; rfl, by rw [List.length_append, la]; rfl, fun j a v ea ev => ?_⟩
    by_cases hj : j < i
    · rw [List.getElem?_append_left (by omega)] at ea
      exact ((tt j a v ea ev).keep (s3.trans s4)).nl n5
    · have hj2 : j = i := by
        have := (List.getElem?_eq_some_iff.mp ea).1
        rw [List.length_append, List.length_singleton] at this
        omega
      subst hj2
      rw [List.getElem?_append_right (by omega), la, Nat.sub_self] at ea
      cases ea
      rw [ht] at ev
      cases ev
      exact ht4.nl n5
  · rintro σ H2 ⟨o4, o5, o6, as, rfl, s2, eM, la, tt⟩
    have hl : rs.length - 1 < as.length := by omega
    have ea : as[rs.length - 1]? = some as[rs.length - 1] := List.getElem?_eq_getElem hl
    exact ⟨.ref M, rfl, _, rfl, M, _, _, .ref as[rs.length - 1], rfl, rfl, SqL.of eM, last_at (n := rs.length) (by rw [List.length_map, la, lx]) (by rw [List.getElem?_map, ea]; rfl), q _ H2 s2 (tt _ _ t ea hlast)⟩
end
end Ks
set_option Elab.async false
set_option linter.all false
set_option maxRecDepth 100000
set_option maxHeartbeats 4000000
/-! C.m(..), m a classmethod, what it lets out told at the slots where it is called -/
namespace Gd
open PySem PySem.Spec PyProof.Rows L2
abbrev WEN (W : WX) : L2.St → XK := fun σ cls d H => W cls d σ H
theorem passNAt {X : Cx} {W : WX} (tk : L2N.Takes X W) (σ : L2.St) : PassesAt (L2N.CX X.prog X.w) X σ (WEN W σ) := fun _ _ _ e s' I c => tk e s' (L2N.XE.of_call I (fun _ _ _ h => h) c)
def tCMethS (C : Addr) (sp : Sp) (E : L2.St → XK) (ta : TE) (t : TA) : TE := fun σ H Q => ta σ H fun x H1 => x = .ref C ∧ t σ H1 fun vs H2 => sp (.ref C :: vs) H2 Q (E σ)
section
variable {X : Cx} {CX : CXT} {k : Nat} {C p g : Addr} {mc : Value} {fd : FuncData} {ps : List Str} {sp : Sp} {E : L2.St → XK} {o e : Expr} {es : List Expr} {m : Str} {pos apos : Pos} {ta : TE} {t : TA} {pl : Sem Bool}
theorem pe_cmethS (he : PE X o ta) (r : ClX.CRead X.K C mc) (c : ClX.CMet X.K C mc m p g) (F : FnOk X.prog X.w X.K X.mg X.base CX k g fd ps sp) (hr : Room k X.A) (hb : Binds X.K fd ps []) (hx : ∀ σ, PassesAt CX X σ (E σ)) (ha : PA X (e :: es) t)
    (hst : starEach (e :: es) X.env = (false, eval e X.env) :: starEach es X.env := by rfl) (hpl : (backTo pos (starEach es X.env)).any (·.1) = false := by rfl)
    (ht : eval (.Call (.Attribute o m apos) (e :: es) [] pos) X.env = (do
      let ov ← eval o X.env
      standAt apos.atName
      let (f, first) ← holding [ov] (getMethod ov m pl)
      callWith pos f first (backTo pos (starEach (e :: es) X.env)) (backToKw pos (keywordEach [] X.env))) := by rfl) :
    PE X (.Call (.Attribute o m apos) (e :: es) [] pos) (tCMethS C sp E ta t) := by
  refine ⟨fun pins s σ H Q I h => ?_⟩
  refine PySem.W.methodCall_KW (pl := pl) (thn (he.run pins s σ H _ I h) fun u s1 ⟨x, H1, I1, rx, ex, q⟩ => ?_) ht
  subst ex
  obtain rfl : u = Value.ref C := rx
  refine ClX.getmethcm_ok I1 r c fun s2 I2 => ?_
  refine ClX.callwith_cm I2 (ClX.base_none I1 (Nat.le_refl _)) c.fi (thn (ha.run pos _ s2 σ H1 _ I2 q) fun us s3 ⟨vs, H2, I3, rv, q2⟩ => ⟨⟨ClX.pin_at I3, I3.kIn⟩, ?_⟩) hst hpl
  have r2 : Vals (V.ref C :: vs) (Value.ref C :: us) := .cons rfl rv
  have hl : (Value.ref C :: us).length = ps.length := by rw [← r2.length]; exact F.len _ _ _ _ q2
  have b := hb s3 (Value.ref C :: us) I3.kIn (by rw [List.append_nil]; exact hl)
  rw [List.append_nil] at b
  have z : wpAny (model X.prog X.w) X.A (call (.ref s1.heap.objs.size) us) (EP X ((s1.heap.objs.size, PySem.W.methodObj (.ref g) (.ref C)) :: pins) σ Q) X.xe s3 :=
    wpAny_call (PySem.W.method_call (ClX.pin_at I3) (codeAny_mono (F.run X.A X.stack s3 H2 ⟨Value.ref C :: us, []⟩ _ _ Q (E σ) hr I3.env0 b r2 q2) fun r s' hq => by
      cases r with
      | error e => exact hx σ _ H2 s3 e s' I3 hq
      | ok fl =>
        cases fl with
        | ret u => exact I3.after hq
        | next => exact False.elim hq
        | brk => exact False.elim hq
        | cont => exact False.elim hq))
  exact thn z fun _ _ y => ClX.unpinE y
end
end Gd
set_option Elab.async false
set_option linter.all false
set_option maxRecDepth 100000
set_option maxHeartbeats 4000000
namespace Ks
open PySem PySem.Spec PyProof.Rows L2 Gd Kx
/-! ### Tree.read -/
abbrev nRd : List Str := ["cls", "schema", "text", "rows", "tree"]
theorem scRd : FnScope nRd ["cls", "schema", "text"] (defScope (cT 2)) := ⟨rfl, rfl, rfl, by decide +kernel, rfl, by decide +kernel, by decide +kernel⟩
section
variable {P : Program} {w : World} {K : PySem.W.Frag} {mg : Str → Option Value} {base : Heap} {CT CS NS IR IT : Addr}
def spChkX (K : PySem.W.Frag) (CS NS : Addr) : Sp := fun vs H Q E => ∃ x, vs = [x] ∧ ((∃ (a : Addr) (m : Md), x = .ref a ∧ ScAt CS H a m ∧ Q .non H) ∨ (NotT K CS H x ∧ ∀ d H', Same H H' → H' d = some (.xd [("value", x)]) → E (.ref NS) (some d) H'))
theorem ok_chkX {f : Addr} {fd : FuncData} (F : Fun K "check_schema" "check_schema" sChk f fd) (mi : mg "isinstance" = none) (S : Sch P w K mg base CS) (O : One P w K mg base "NotASchema" "value" NS) (ty : PySem.W.typeIn K (.ref NS) = some (.type "type")) :
    FnOk P w K mg base (CX P w) 3 f fd ["schema"] (spChkX K CS NS) := by
  refine F.okX scChk (fun vs H Q E h => ?_) (fun cv A ou s H vs Q E hr h => ?_)
  · obtain ⟨x, rfl, _⟩ := h
    rfl
  obtain ⟨x, rfl, h⟩ := h
  refine ⟨_, pss_one (ps_if (pt_not (pt_val (pe_callB call_isi (by rfl) mi boot_isinstance (pa_cons (pv 0) (pa_cons (pe_glob (v := .ref CS) (by rfl) S.gl rfl) pa_nil))))) (pss_one (ps_raise rfl (takes_of rfl rfl rfl rfl) (pmk_one O ty hr (by rfl) (pv 0)))) pss_nil), ?_⟩
  rcases h with ⟨a, m, rfl, hs, q⟩ | ⟨⟨ty', tx, ek⟩, q⟩
  · refine ⟨.ref a, rfl, .ref a, .ref CS, _, .ref CS, true, rfl, .own CS, .base (hs.ty S.cl S.ci), ?_, _, rfl, iteF q⟩
    unfold PySem.W.kitOne
    rw [if_pos (beq_self_eq_true _)]
  · exact ⟨x, rfl, x, .ref CS, ty', .ref CS, false, rfl, .own CS, tx, ek, _, rfl, iteT ⟨x, rfl, fun d H' s n e => q d H' s e⟩⟩
/-- no text -/
def NoS (K : PySem.W.Frag) (H : Hp) (x : V) : Prop := ∃ ty, TyX K H x ty ∧ PySem.W.kitOne K ty (.type "str") = some false
def spRd (K : PySem.W.Frag) (CT CS NS IT : Addr) : Sp := fun vs H Q E => ∃ x y, vs = [.ref CT, x, y] ∧ ((NotT K CS H x ∧ ∀ d H', Same H H' → H' d = some (.xd [("value", x)]) → E (.ref NS) (some d) H') ∨
  (∃ (s : Addr) (m : Md), x = .ref s ∧ ScAt CS H s m ∧ Good m ∧ ((NoS K H y ∧ ∀ d H', Same H H' → H' d = some (.xd [("value", y)]) → E (.ref IT) (some d) H') ∨
    ∃ z : Str, y = .str z ∧ z.length ≤ 100000 ∧ (∀ p ∈ cutS z "; ", p.length ≤ 900) ∧ ((∀ t : Tr, t.Ok m → (sub t).length ≤ 200 → stT t ≠ z) → ∀ d H', Same H H' → H' d = some (.xd [("value", y)]) → E (.ref IT) (some d) H') ∧
      ∀ t : Tr, t.Ok m → (sub t).length ≤ 200 → stT t = z → ∀ a H', Same H H' → TrAt CT CS m H' a t → Q (.ref a) H')))
set_option maxHeartbeats 8000000 in
theorem ok_rd {f fk fr fo pO fst : Addr} {mc : Value} {fd fdk fdr fdo dst : FuncData} (F : Fun K "read" "Tree.read" (cT 2) f fd) (T : TS0 mg)
    (O : One P w K mg base "InvalidText" "value" IT) (OH : OneH P w K mg base "InvalidText" "value" IT) (ty : PySem.W.typeIn K (.ref IT) = some (.type "type")) (gI : mg "InvalidRows" = some (.ref IR)) (xI : PySem.W.exmOne K (.ref IR) (.ref IR) = some true)
    (GK : FnOk P w K mg base (CX P w) 3 fk fdk ["schema"] (spChkX K CS NS)) (kk : PySem.W.keepIn K (.ref fk) = true) (bK : Binds K fdk ["schema"] []) (gK : mg "check_schema" = some (.ref fk))
    (GR : FnOk P w K mg base CX0 2 fr fdr ["text"] spRot) (kr : PySem.W.keepIn K (.ref fr) = true) (bR : Binds K fdr ["text"] []) (gR : mg "_rows_of_text" = some (.ref fr))
    (rd : ClX.CRead K CT mc) (cm : ClX.CMet K CT mc "of_rows" pO fo) (GO : FnOk P w K mg base (L2N.CX P w) 7 fo fdo ["cls", "schema", "rows"] (spOfrX CT CS IR)) (bO : Binds K fdo ["cls", "schema", "rows"] [])
    (Dst : Dm K CT "__str__" fst) (Gst : FnOk P w K mg base CX0 1 fst dst ["self"] (spStT CT CS)) (bst : Binds K dst ["self"] []) :
    FnOk P w K mg base (CX P w) 9 f fd ["cls", "schema", "text"] (spRd K CT CS NS IT) := by
  refine F.okX scRd (fun vs H Q E h => ?_) (fun cv A ou s H vs Q E hr h => ?_)
  · obtain ⟨x, y, rfl, _⟩ := h
    rfl
  obtain ⟨x, y, rfl, h⟩ := h
  have hrr : ∀ n, n ≤ 8 → Room n (A.deeper (envOfC "Tree.read" (defScope (cT 2)) s.heap.objs.size f cv)) := fun n h => hr.mono h
  have hr2 := hrr 2 (by decide)
  have hr3 := hrr 3 (by decide)
  have hr7 := hrr 7 (by decide)
  have hr1 := hrr 1 (by decide)
  refine ⟨_, pss_cons (ps_expr (pe_call GK hr3 (by rfl) gK kk bK .nil (passes_call (takes_of rfl rfl rfl rfl) (fun _ _ _ _ h => h)) (pa_cons (pv 1) pa_nil)))
    (pss_cons (ps_if (pt_not (pt_val (pe_callB call_isi (by rfl) T.isi boot_isinstance (pa_cons (pv 2) (pa_cons (pe_bltn (v := .ty "str") (by rfl) T.str boot_str rfl) pa_nil))))) (pss_one (ps_raise rfl (takes_of rfl rfl rfl rfl) (pmk_one O ty hr2 (by rfl) (pv 2)))) pss_nil)
    (pss_cons (ps_set (i := 3) scRd.nd rfl (.inl rfl) (pe_call GR hr2 (by rfl) gR kr bR .nil pass0 (pa_cons (pv 2) pa_nil)))
    (pss_cons (L2H.ps_try_onlyX (c := .ref IR) (Wout := fun cls d _ H => E cls d H) rfl rfl ⟨by rfl, by decide, .inl gI⟩ (fun hd => L2H.passesAt_of rfl hd) (takes_of rfl rfl rfl rfl)
      (fun W pn xe tkN tkP pas => pss_one (ps_set (i := 4) scRd.nd rfl (.inl rfl) (pe_cmethS (pv 0) rd cm GO hr7 bO (passNAt tkN) (pa_cons (pv 1) (pa_cons (pv 3) pa_nil)))))
      (fun a oe cls d pn hz hf tk hot => pss_one (L2H.ps_raiseHN hot tk (pmk5_one OH ty (L2H.roomH_mark hr2 _) ⟨_, List.mem_cons_self ..⟩ (by rfl) (pv 2)))))
    (pss_cons (ps_if (pt_cmpR op_ne (pe_callTy (call_strO Dst Gst hr3 bst pass0) (by rfl) T.str boot_str (pa_cons (pv 4) pa_nil)) (pv 2) (nomark _)) (pss_one (ps_raise rfl (takes_of rfl rfl rfl rfl) (pmk_one O ty hr2 (by rfl) (pv 2)))) pss_nil)
    (pss_one (ps_ret (pv 4))))))), ?_⟩
  rcases h with ⟨nS, qE⟩ | ⟨sa, m, rfl, hs, g, h⟩
  · exact ⟨x, rfl, x, rfl, .inr ⟨nS, fun d H' s e => qE d H' s e⟩⟩
  refine ⟨.ref sa, rfl, .ref sa, rfl, .inl ⟨sa, m, rfl, hs, ?_⟩⟩
  rcases h with ⟨⟨ty', tx, ek⟩, qE⟩ | ⟨z, rfl, hz, hp9, qE, qQ⟩
  · exact ⟨y, rfl, y, .ty "str", ty', _, false, rfl, .ty "str", tx, ek, _, rfl, iteT ⟨y, rfl, fun d H' s n e => qE d H' s e⟩⟩
  refine ⟨.str z, rfl, .str z, .ty "str", _, _, true, rfl, .ty "str", .base (.str z), kit_ty (by decide +kernel), _, rfl, iteF ?_⟩
  refine ⟨.str z, rfl, z, rfl, hz, hp9, fun R H1 s1 hR => ?_⟩
  have lnR : (rowsO z).length = (cutS z "; ").length := List.length_map ..
  have ln2 := PyProof.Rows.split_le z "; "
  have ln : (rowsO z).length ≤ 100002 := by
    rw [lnR]
    show (Txt.split z "; ").length ≤ _
    omega
  have l1000 : ∀ r ∈ rowsO z, r.2.length ≤ 1000 := fun r hr => by
    obtain ⟨p, hp, rfl⟩ := List.mem_map.mp hr
    have h9 := hp9 p hp
    have lw := PyProof.Rows.split_le p " "
    show (((cutS p " ").drop 1).map numW).length ≤ 1000
    rw [List.length_map, List.length_drop]
    have : (cutS p " ").length ≤ p.length + 2 := lw
    omega
  refine ⟨.ref CT, rfl, rfl, .ref sa, rfl, .ref R, rfl, sa, R, m, rowsO z, rfl, hs.keep s1, g, hR, by rw [sizeLine_eq]; omega, l1000, fun hno v d H2 s2 ed => ?_, fun rs ts t er r1 r200 b et a H2 s2 ha => ?_⟩
  · refine ⟨true, xI, fun _ a0 na0 => ⟨.str z, rfl, fun d' H3 s3 n3 e3 => ?_⟩, fun e => by cases e⟩
    refine qE (fun t ok lt et => ?_) d' H3 (s1.trans (s2.trans s3)) e3
    rw [← et] at hno
    exact hno (read_ok g ok lt)
  · have lt : (sub t).length ≤ 200 := by
      have := b.sub_len et
      omega
    have okt := b.ok t (List.mem_of_getElem? et)
    obtain ⟨dx, fs, e0⟩ := ha.ins
    refine ⟨.ref a, rfl, a, dx, fs, rfl, e0, a, m, t, rfl, ha, g, okt, lt, fun H3 s3 => ⟨_, rfl, .str z, rfl, rfl, _, rfl, ?_⟩⟩
    have s13 := s1.trans (s2.trans s3)
    by_cases ez : stT t = z
    · rw [show (!decide (V.str (stT t) = V.str z)) = false by rw [ez]; simp]
      exact iteF ⟨.ref a, rfl, qQ t okt lt ez a H3 s13 (ha.keep s3)⟩
    · rw [show (!decide (V.str (stT t) = V.str z)) = true by simp [ez]]
      refine iteT ⟨.str z, rfl, fun d H4 s4 n4 e4 => qE (fun u oku lu eu => ez ?_) d H4 (s13.trans s4) e4⟩
      rw [← eu] at er
      have := read_bld g oku lu er b
      rw [et] at this
      cases this
      exact eu
end
end Ks
set_option Elab.async false
set_option linter.all false
set_option maxRecDepth 100000
set_option maxHeartbeats 4000000
/-! repr of a list of one instance of a class of one's own -/
namespace Gd
open PySem PySem.Spec PyProof.Rows L2
section
open PySem.W
variable {prog : Program} {w : World} {K : PySem.W.Frag} {A : Around} {s : Shared} {x C f : Addr} {ox : Obj} {od : Option Obj} {E : Value → Shared → Prop}
theorem ifBoundBy_K {M : Model} {last : Value → List Value → Sem Value} {Q : Option Value → Shared → Prop} {name : Str} (X : K.In s.heap) (I : PySem.W.InstAt s.heap x ox C od) (hs : findIn K (.ref C) name = some (some (.ref f))) (hf : isFn K (.ref f) = true)
    (h : wpAny M A (last (.ref f) [.ref x]) (fun v => Q (some v)) E s) : wpAny M A (callSpecialIfBoundBy? last (.ref x) name) Q E s := by
  simp only [callSpecialIfBoundBy?, bindSpecialIfBound?]
  refine wpAny_holding (wpAny_bind (wpAny_bind (wpAny_bind (I.type.here ((looks_findIn X hs).here ?_)))))
  refine wpAny_bind (wpAny_askSetting (wpAny_ite ?_))
  have fin : wpAny M A (last (.ref f) [.ref x] >>= fun v => pure (some v)) Q E s := wpAny_bind (wpAny_mono h (fun v s' h' => wpAny_pure h') fun _ _ h' => h')
  split
  · exact wpAny_bind ((bind_fn X _ (beq_iff_eq.mp hf)).here (wpAny_pure (by exact fin)))
  · exact wpAny_tryCatch (wpAny_bind ((bind_fn X _ (beq_iff_eq.mp hf)).here (wpAny_pure (by exact fin))))
theorem reprUnder_K {base : Nat} {Q : Str → Shared → Prop} (hb : base ≤ sizeLine) (hu : A.units < cLine) (X : K.In s.heap) (I : PySem.W.InstAt s.heap x ox C od) (hs : findIn K (.ref C) "__repr__" = some (some (.ref f))) (hf : isFn K (.ref f) = true)
    (h : wpAny (model prog w) A (call (.ref f) [.ref x]) (fun v s' => ∃ z u, v = .str z u ∧ Q z s') E s) : wpAny (model prog w) A (pyReprUnder base (.ref x)) Q E s := by
  refine wpAny_pyReprUnder_ref hb ?_
  unfold pyReprObjUnder pyReprObjBy
  refine wpAny_bind (wpAny_cRoomFor hu ?_)
  refine wpAny_bind (wpAny_bind (I.type.here ((looks_findIn X hs).here ?_)))
  show wpAny _ _ (if (some (Value.ref f)).isNone = true then _ else _) _ _ _
  rw [if_neg (by simp)]
  refine wpAny_bind (ifBoundBy_K X I hs hf ?_)
  refine wpAny_mono h (fun v s' hr => ?_) fun _ _ y => y
  obtain ⟨z, u, rfl, q⟩ := hr
  refine wpAny_bind (wpAny_isInstance (typeIs_str _ _ _) isSubtype_str_str ?_)
  first
    | exact wpAny_pure ⟨_, _, rfl, q⟩
    | (rw [if_pos rfl]; exact wpAny_pure ⟨_, _, rfl, q⟩)
    | (simp only [if_true]; exact wpAny_pure ⟨_, _, rfl, q⟩)
end
section
variable {P : Program} {w : World} {K : PySem.W.Frag} {mg : Str → Option Value} {base : Heap} {A : Around} {ou : List Env} {s : Shared} {H : Hp}
theorem env0_loop (e : Env0 P w K mg base A ou s H) (args : Args) : Env0 P w K mg base (A.under (.builtin "list.__repr__.loop" args)) ou s H :=
  ⟨by first | exact e.frames | (simpa [Around.under, Code.envs, Code.isFrame, pushEnvs] using e.frames), e.mod, e.bs, e.bsz, e.funs, e.frf, e.hok, e.bare⟩
theorem depth_loop (args : Args) : (A.under (.builtin "list.__repr__.loop" args)).depth = A.depth + 1 := by
  first | rfl | simp [Around.under, Code.weight, Code.isCreation, Code.isGuard, Code.isCaller, Code.frames, Code.isFrame, guardIds]
theorem room_loop {k : Nat} (r : Room (k + 1) A) (args : Args) : Room k (A.under (.builtin "list.__repr__.loop" args)) :=
  ⟨by first | exact r.hd | (simpa [Around.under] using r.hd), by rw [depth_loop]; have := r.dp; omega, by rw [units_under_list_loop]; have := r.un; omega⟩
end
section
variable {X : Cx} {CX : CXT} {k : Nat} {C f : Addr} {fd : FuncData} {ps : List Str} {sp : Sp} {E : XK}
/-- repr([x]), x an instance of a class of one's own -/
def rReprL1 (C : Addr) (sp : Sp) (E : XK) : List V → Hp → VK → Prop := fun xs H Q => ∃ l a dx fs, xs = [.ref l] ∧ H l = some (.lst [.ref a]) ∧ H a = some (.ins C dx fs) ∧ sp [.ref a] H (fun v H' => ∃ z : Str, v = .str z ∧ H' l = some (.lst [.ref a]) ∧ z.length + 10 ≤ sizeLine ∧ Q (.str (listText [z])) H') E
theorem call_reprL1_gen (hG : X.A.guards = some []) (D : Dm X.K C "__repr__" f) (hu : X.A.in1.units < cLine) (hu1 : ∀ args : Args, (X.A.in1.under (.builtin "list.__repr__.loop" args)).units < cLine)
    (hrun : ∀ (args : Args) (pins : List (Addr × Obj)) (σ : L2.St) (H : Hp) (s : Shared) (a : Addr) (Q : VK) (E' : Value → Shared → Prop), Inv X pins σ H s → sp [.ref a] H Q E → wpAny (model X.prog X.w) (X.A.in1.under (.builtin "list.__repr__.loop" args)) (call (.ref f) [.ref a]) (EP X pins σ Q) E' s) : CallR X (.builtin "repr") (rReprL1 C sp E) := by
  intro pins s σ H xs us Q I r h
  obtain ⟨l, a, dx, fs, rfl, el, ea, q⟩ := h
  have e1 := Vals.ref1 r
  subst e1
  obtain ⟨its, n, rv, hl, _⟩ := I.lst el
  obtain ⟨u, rfl, ru⟩ := vals1 rv
  obtain rfl : u = Value.ref a := ru
  have hG1 : X.A.in1.guards = some [] := hG
  refine Calls.call_function_entry PySem.F.kind_repr PySem.F.plain_repr PySem.F.entry_repr (PySem.F.args_repr1 _) ?_
  unfold Builtin.«repr»
  refine wpAny_bind (m := oneArg "repr" _) (wpAny_pure ?_)
  have hTy : s.TypeIs (.ref l) "list" := ⟨_, hl, rfl⟩
  refine wpAny_bind (wpAny_cRoomFor hu ?_)
  refine wpAny_bind (wpAny_specialOf (name := Str.ofString "__repr__") hTy PySem.F.slot_list_repr.lookup ?_)
  show wpAny _ _ (if (some (Value.builtin "list.__repr__")).isNone = true then _ else _) _ _ _
  rw [if_neg (by simp)]
  refine wpAny_bind (m := callSpecialIfBound? (.ref l) (Str.ofString "__repr__")) (wpAny_callSpecialIfBound?_slot (name := Str.ofString "__repr__") hTy PySem.F.slot_list_repr ?_)
  refine wpAny_call (codeAny_call_builtin PySem.F.slot_list_repr.plain PySem.F.entry_list_repr (PySem.F.slot_list_repr.check _ _ _ _ _ _ _ _ hTy (PySem.F.args_list_repr_1 _) ?_))
  show wpAny _ X.A.in1.in1 (Builtin.listReprAt 0 ⟨[.ref l], []⟩) _ _ _
  refine wpAny_list_repr_head (A := X.A.in1.in1) (g := []) hG (fun v rest kw hm => by cases hm) hl rfl ?_
  refine wpAny_bind (m := newList []) (wpAny_newObj_type ?_)
  refine wpAny_pure ⟨PySem.F.quiet_list_repr_loop _, ?_⟩
  have fp : FpOk X pins H s.heap.objs.size := I.fpOk (Nat.le_refl _) (I.hok.fresh (Nat.le_refl _))
  have lP : l ≠ s.heap.objs.size := Nat.ne_of_lt (Heap.lt_size hl)
  have I1 : Inv X ((s.heap.objs.size, { cls := .type "list", dict := none, data := .seq #[] }) :: pins) σ H { s with heap := s.heap.push { cls := .type "list", dict := none, data := .seq #[] } } :=
    ClX.pin_new (t' := s.toks) I (fun _ _ z => Heap.get?_push_of_some _ z) (Nat.le_refl _) (Heap.get?_push_size s.heap rfl) (fun v z => nomatch z)
  have hl1 := Heap.get?_push_of_some { cls := .type "list", dict := none, data := .seq #[] } hl
  refine codeAny_builtin PySem.F.entry_list_repr_loop ?_
  show wpAny _ _ (Builtin.«list.__repr__.loop» ⟨[.ref l, .int 0 0, .ref s.heap.objs.size, .int 0 0], []⟩) _ _ _
  rw [repr_loop_tree]
  refine wpAny_bind (wpAny_listItems hl1 rfl ?_)
  obtain ⟨mA, J, _⟩ := ins_get I1.hok ea
  obtain ⟨od, J, _⟩ := J.look
  refine wpAny_bind (m := holding [Value.ref a] (pyReprUnder 1 (.ref a))) (wpAny_holding (reprUnder_K (by decide) (hu1 _) I1.kIn J D.at_ D.fn (wpAny_mono (hrun _ _ _ _ _ _ _ _ I1 q) (fun v s2 z => ?_) fun _ _ e => e)))
  obtain ⟨y, H', I', ry, zz, ey, el', hz, q2⟩ := z
  subst ey
  obtain ⟨tk, rfl⟩ := ry
  refine ⟨zz, tk, rfl, ?_⟩
  refine wpAny_bind (wpAny_mkStr ?_ (by omega))
  refine wpAny_bind ?_
  show wpAny _ _ (updateSeq s.heap.objs.size _) _ _ _
  have hPo := ClX.pin_at I'
  have hPn := ClX.pin_un I'
  refine wpAny_updateSeq hPo rfl (wpAny_pure ⟨PySem.F.quiet_list_repr_loop _, ?_⟩) (Nat.zero_le _)
  obtain ⟨its2, n2, rv2, hl2, _⟩ := I'.lst el'
  obtain ⟨u2, rfl, ru2⟩ := vals1 rv2
  obtain rfl : u2 = Value.ref a := ru2
  refine codeAny_builtin PySem.F.entry_list_repr_loop ?_
  show wpAny _ _ (Builtin.«list.__repr__.loop» ⟨[.ref l, .int 1 0, .ref s.heap.objs.size, .int _ 0], []⟩) _ _ _
  rw [repr_loop_tree]
  refine wpAny_bind (wpAny_listItems ((Heap.get?_update_other _ _ (Ne.symm lP)).trans hl2) rfl ?_)
  show wpAny _ _ (reprEnd (.ref s.heap.objs.size)) _ _ _
  unfold reprEnd
  refine wpAny_bind (wpAny_listItems (Heap.get?_update_self _ hPo rfl) rfl ?_)
  show wpAny _ _ (forIn ((strValues [(zz, s2.toks)]).zipIdx 0) ("[" : Str) reprBody >>= _) _ _ _
  rw [repr_fold]
  refine wpAny_bind (wpAny_pure ?_)
  have hsz : (listText [zz]).length ≤ sizeLine := by
    show ((("[" : Str) ++ (("" : String) : Str) ++ zz) ++ ("]" : Str)).length ≤ _
    have l1 : (Str.ofString "[").length = 1 := by decide +kernel
    have l2 : (Str.ofString "").length = 0 := by decide +kernel
    have l3 : (Str.ofString "]").length = 1 := by decide +kernel
    rw [Str.length_append, Str.length_append, Str.length_append, l1, l2, l3]
    omega
  refine wpAny_bind (wpAny_mkStr (wpAny_pure ?_) hsz)
  obtain ⟨_, f1, f2, f3, f4, f5⟩ := fp
  have IE := (ClX.unpin I').turned (it := s.heap.objs.size) (h' := s2.heap.update s.heap.objs.size (Obj.mapSeq fun xs => xs.push (.str zz s2.toks))) (t' := s2.toks + 1 + 1) (fun b o hb e => (Heap.get?_update_other _ _ (Ne.symm hb)).trans e) hPn f1 f3 f4 f5
  refine wpAny_bind (wpAny_isInstance (typeIs_str _ _ _) isSubtype_str_str ?_)
  first
    | exact wpAny_pure ⟨_, rfl, .str (listText [zz]), H', IE, ⟨_, rfl⟩, q2⟩
    | (rw [if_pos rfl]; exact wpAny_pure ⟨_, rfl, .str (listText [zz]), H', IE, ⟨_, rfl⟩, q2⟩)
    | (simp only [if_true]; exact wpAny_pure ⟨_, rfl, .str (listText [zz]), H', IE, ⟨_, rfl⟩, q2⟩)
theorem call_reprL1 (hG : X.A.guards = some []) (D : Dm X.K C "__repr__" f) (F : FnOk X.prog X.w X.K X.mg X.base CX k f fd ps sp) (hr : Room (k + 3) X.A) (hb : Binds X.K fd ps []) (hx : Passes CX X.nox E) : CallR X (.builtin "repr") (rReprL1 C sp E) :=
  call_reprL1_gen hG D hr.in1.units0 (fun args => (room_loop hr.in1 args).units0) fun args pins σ H s a Q E' I h => run_at F ((room_loop hr.in1 args).mono (Nat.le_succ _)) (env0_loop I.env0.in1 _) hb hx I (.cons (show RelV (V.ref a) (Value.ref a) from rfl) .nil) h
/-- the same, while an exception is handled -/
theorem roomH_loop {A : Around} (r : L2H.RoomH (k + 1) A) (args : Args) : L2H.RoomH k (A.under (.builtin "list.__repr__.loop" args)) :=
  ⟨by rw [depth_loop]; have := r.dp; omega, by rw [units_under_list_loop]; have := r.un; omega⟩
theorem call_reprL1P (hG : X.A.guards = some []) (D : Dm X.K C "__repr__" f) (F : FnP X.prog X.w X.K X.mg X.base k f fd ps sp) (hr : L2H.RoomH (k + 3) X.A) (hb : Binds X.K fd ps []) (hp : ∃ p, p ∈ X.pn) : CallR X (.builtin "repr") (rReprL1 C sp E0) := by
  have hr1 := roomH_in1 hr
  refine call_reprL1_gen hG D (by have := hr1.un; omega) (fun args => by have := (roomH_loop hr1 args).un; omega) fun args pins σ H s a Q E' I q => ?_
  obtain ⟨p, hp⟩ := hp
  have P1 := I.pin p (List.mem_append_left _ hp)
  have hpin : L2H.PinOk X.stack H s p := ⟨P1.1, P1.2.1, fun hm => (List.mem_cons.mp (I.stkSub p.1 hm)).elim P1.2.2.1 P1.2.2.2.1, P1.2.2.2.2⟩
  have hl : ([Value.ref a] ++ ([] : List Value)).length = ps.length := by rw [List.append_nil]; exact F.len _ _ _ _ q
  have hB := hb s [.ref a] I.kIn hl
  rw [List.append_nil] at hB
  refine wpAny_call (codeAny_mono (F.run (X.A.in1.under (.builtin "list.__repr__.loop" args)) X.stack s H ⟨[.ref a], []⟩ [.ref a] [.ref a] _ p ((roomH_loop hr1 args).mono (Nat.le_succ _)) hpin (env0_loop I.env0.in1 _) hB (.cons rfl .nil) q) fun r s' hq => ?_)
  cases r with
  | error er => exact (show False from hq).elim
  | ok fl =>
    cases fl with
    | ret u => exact I.after hq
    | next => exact False.elim hq
    | brk => exact False.elim hq
    | cont => exact False.elim hq
end
end Gd
set_option Elab.async false
set_option linter.all false
set_option maxRecDepth 100000
set_option maxHeartbeats 4000000
/-! repr({}) -/
namespace Gd
open PySem PySem.Spec PyProof.Rows L2
def rReprD0 : List V → Hp → VK → Prop := fun xs H Q => ∃ a, xs = [.ref a] ∧ H a = some (.dT []) ∧ Q (.str (PyData.dict []).shown) H
theorem call_reprD0 {X : Cx} (hG : X.A.guards = some []) (hu : X.A.units + 64 < cLine) : CallR X (.builtin "repr") rReprD0 := by
  intro pins s σ H xs us Q I r h
  obtain ⟨a, rfl, ea, q⟩ := h
  have e1 := Vals.ref1 r
  subst e1
  obtain ⟨_, hsys, xs, hp, o, es, ep, ho, hx, hd, hes, _⟩ := (show ObjOk X.prog X.w H s.heap a (.dT []) from I.hok a _ ea)
  cases hp
  have he : es.toList = [] := hes
  have rd : Reads s.heap (.ref a) (.dict []) (a :: [] ++ []) := .dict ho hx.1 hd (by rw [he]; exact .nil) (by rw [he]; exact .nil)
  have dp : (PyData.dict []).depth ≤ 5 := by decide +kernel
  refine repr_of_reads' rd (by decide +kernel) (fun _ hm => ?_) hG (by omega) (fun _ _ e => e) (fun h' u tk hk => ⟨.str (PyData.dict []).shown, H, I.kept hk, ⟨_, rfl⟩, q⟩) (Nat.le_trans (show (PyData.dict []).shown.length ≤ 5 by decide +kernel) (by decide))
  have : sysModules = a := by simpa using hm
  rw [← this] at hsys
  simp at hsys
end Gd
set_option Elab.async false
set_option linter.all false
set_option maxRecDepth 100000
set_option maxHeartbeats 4000000
namespace Ks
open PySem PySem.Spec PyProof.Rows L2 Gd Kx LamX
/-! ### tables of code change, all else stays -/
def SbN (p : Addr) (H H' : Hp) : Prop := ∀ b o, b ≠ p → (∀ ps : Array Value, o ≠ .tbl ps) → H b = some o → H' b = some o
theorem SbN.refl {p : Addr} {H : Hp} : SbN p H H := fun _ _ _ _ e => e
theorem SbN.trans {p : Addr} {H H1 H2 : Hp} (h : SbN p H H1) (h2 : SbN p H1 H2) : SbN p H H2 := fun b o n t e => h2 b o n t (h b o n t e)
theorem SbN.sb {p : Addr} {H H1 : Hp} (h : Sb p H H1) : SbN p H H1 := fun b o n _ e => h b o n e
theorem SbN.same {p : Addr} {H H1 : Hp} (h : Same H H1) : SbN p H H1 := fun b o _ _ e => h b o e
theorem SbN.ext {p : Addr} {H H1 : Hp} (h : ExtN H H1) : SbN p H H1 := fun b o _ t e => h b o e t
theorem tabs_sb {T : List (Addr × Str)} {p : Addr} {H H' : Hp} (t : Tabs T H) (D : DealAt H p) (s : Sb p H H') : Tabs T H' := by
  intro x hx
  obtain ⟨ps, e1, e2, e3⟩ := t x hx
  obtain ⟨_, _, _, ep, _⟩ := D
  refine ⟨ps, s _ _ (fun z => by rw [z, ep] at e1; cases e1) e1, e2, fun pos cv h => ?_⟩
  obtain ⟨c, ec, e4⟩ := e3 pos cv h
  exact ⟨c, ec, s _ _ (fun z => by rw [z, ep] at e4; cases e4) e4⟩
theorem tabs_upd {T : List (Addr × Str)} {H : Hp} {D : Addr} {xs : List V} {o : HO} (t : Tabs T H) (e : H D = some (.lst xs)) : Tabs T (upd H D o) := by
  intro x hx
  obtain ⟨ps, e1, e2, e3⟩ := t x hx
  refine ⟨ps, ?_, e2, fun pos cv h => ?_⟩
  · rw [upd_ne (fun z => by rw [z, e] at e1; cases e1)]
    exact e1
  · obtain ⟨c, ec, e4⟩ := e3 pos cv h
    refine ⟨c, ec, ?_⟩
    rw [upd_ne (fun z => by rw [z, e] at e4; cases e4)]
    exact e4
theorem deal_ext {p : Addr} {H H' : Hp} (D : DealAt H p) (e : ExtN H H') : DealAt H' p := by
  obtain ⟨x, y, c, ep, l⟩ := D
  exact ⟨x, y, c, e _ _ ep (fun _ z => by cases z), l⟩
theorem seq_ext {K : PySem.W.Frag} {a : Addr} {H H' : Hp} {xs : List V} (h : SqL K H a xs) (e : ExtN H H') : SqL K H' a xs := by
  rcases h with (h | ⟨o, h⟩) | h
  · exact .inl (.inl (e _ _ h fun _ z => by cases z))
  · exact .inl (.inr ⟨o, e _ _ h fun _ z => by cases z⟩)
  · exact .inr h
/-- nothing stands there but a table -/
def Fr (G : Hp) (a : Addr) : Prop := ∀ o, G a = some o → ∃ ps, o = .tbl ps
theorem fr_of {G H : Hp} {a : Addr} (x : ExtN G H) (n : H a = none) : Fr G a := fun o e => by
  cases o with
  | tbl ps => exact ⟨ps, rfl⟩
  | _ =>
    have := x _ _ e (fun _ z => by cases z)
    rw [n] at this
    cases this
theorem ext_updT {G H : Hp} {a : Addr} {o : HO} (x : ExtN G H) (f : Fr G a) : ExtN G (upd H a o) := fun b o' e t => by
  by_cases h : b = a
  · subst h
    obtain ⟨ps, rfl⟩ := f o' e
    exact absurd rfl (t ps)
  · rw [upd_ne h]
    exact x _ _ e t
theorem ext_same {H H1 H2 : Hp} (e : ExtN H H1) (s : Same H1 H2) : ExtN H H2 := e.trans (.of s)
/-- all but lists and tables stands -/
def Nt (H H' : Hp) : Prop := ∀ b o, (∀ zs, o ≠ HO.lst zs) → (∀ ps, o ≠ HO.tbl ps) → H b = some o → H' b = some o
section
variable {H H' H'' : Hp} {a : Addr} {m : Md} {rs : List Rw}
theorem Nt.of (s : Same H H') : Nt H H' := fun b o _ _ e => s b o e
theorem Nt.nl (s : Nl H H') : Nt H H' := fun b o n _ e => s b o n e
theorem Nt.ext (s : ExtN H H') : Nt H H' := fun b o _ t e => s b o e t
theorem Nt.trans (s : Nt H H') (t : Nt H' H'') : Nt H H'' := fun b o n k e => t b o n k (s b o n k e)
theorem Nt.tk (s : Nt H H') : Tk H H' := fun b ys e => s _ _ (fun _ z => by cases z) (fun _ z => by cases z) e
theorem TupA.nt {xs : List V} (h : TupA H a xs) (s : Nt H H') : TupA H' a xs := by
  rcases h with h | ⟨o, h, q⟩
  · exact .inl (s.tk _ _ h)
  · exact .inr ⟨o, s _ _ (fun _ z => by cases z) (fun _ z => by cases z) h, q⟩
theorem RowsT.nt (h : RowsT H a rs) (s : Nt H H') : RowsT H' a rs := by
  obtain ⟨xs, e, p⟩ := h
  exact ⟨xs, e.nt s, Paired.mapP p fun _ _ z => RowV.tk z s.tk⟩
theorem MdAt.nt (h : MdAt H a m) (s : Nt H H') : MdAt H' a m := by
  obtain ⟨k, r, e, h1, h2⟩ := h
  exact ⟨k, r, s.tk _ _ e, h1.tk s.tk, h2.nt s⟩
theorem ScAt.nt {C : Addr} (h : ScAt C H a m) (s : Nt H H') : ScAt C H' a m := by
  obtain ⟨dx, k, c, n, ⟨dp, e, edp⟩, h1, h2, o, h3, h4⟩ := h
  exact ⟨dx, k, c, n, ⟨dp, s _ _ (fun _ z => by cases z) (fun _ z => by cases z) e, s _ _ (fun _ z => by cases z) (fun _ z => by cases z) edp⟩, h1.tk s.tk, h2.nt s, o, s _ _ (fun _ z => by cases z) (fun _ z => by cases z) h3, h4⟩
theorem TrAt.nt {CT CS : Addr} {t : Tr} (h : TrAt CT CS m H a t) (s : Nt H H') : TrAt CT CS m H' a t := by
  induction h with
  | mk g1 g2 g3 g4 g5 _ ih =>
    obtain ⟨ys, e5, p5⟩ := g3
    exact .mk (s _ _ (fun _ z => by cases z) (fun _ z => by cases z) g1) (g2.nt s) ⟨ys, s.tk _ _ e5, Paired.mapP p5 fun _ _ z => RowN.tk z s.tk⟩ (s.tk _ _ g4) g5 ih
theorem NoTr.nt {CS : Addr} {x : V} (h : NoTr CS H x) (s : Nt H H') : NoTr CS H' x := by
  cases h with
  | non => exact .non
  | bl b => exact .bl b
  | int i => exact .int i
  | str z => exact .str z
  | tup h => exact .tup (s.tk _ _ h)
  | sch h g => exact .sch (h.nt s) g
end
end Ks
set_option Elab.async false
set_option linter.all false
set_option maxRecDepth 100000
set_option maxHeartbeats 4000000
/-! a law's end with tables of code objects, over promises that hold while no repr is under way -/
namespace Gd
open PySem PySem.Spec PyProof.Rows L2 LamX
theorem law_goT {P : Program} {w : World} {K : PySem.W.Frag} {mg mb : Str → Option Value} {k : Nat} {fa a : Addr} {cs : List (Addr × Addr)} {fd : FuncData} {x : Str} {sp : Sp} {s1 : Shared} {vs : List Value} {ns : List Int}
    (KX : K.In s1.heap) (hm : s1.heap.Ns mainGlobals mg) (hb : s1.heap.Ns builtinsNs mb) (hbb : ∀ x : Str, x ≠ "__name__" → mb x = bootBuiltins x) (hlim : s1.heap.NoLimit) (hg : s1.gens = #[])
    (ct : ∀ p ∈ cs, s1.heap.get? p.2 = some { cls := .none, data := .fields #[] }) (cK : ∀ p ∈ cs, K.lookup p.2 = none) (cd : ∀ p ∈ cs, PySem.W.CodeHd s1.heap p.1 p.2)
    (bi : ∃ bm ob, mg "__builtins__" = some (.ref bm) ∧ bm ≠ builtinsNs ∧ s1.heap.get? bm = some ob ∧ ob.cls = .type "module" ∧ ob.dict = some builtinsNs ∧ ob.data = .plain)
    (ha : s1.heap.get? a = some { cls := .type "list", data := .seq vs.toArray }) (hi : IntsAre vs ns) (hl : ns.length ≤ sizeLine) (hR : Room k callerA)
    (F : ∀ base : Heap, K.In base → base.Ns mainGlobals mg → (∀ p ∈ cs, TabB base mg p.1 p.2) → Pr P w K mg base CX0 k fa fd [x] sp) (hbind : ∀ (s : Shared) (u : Value), BindsTo s fd ⟨[u], []⟩ [(x, u)])
    (hsp : ∀ H : Hp, (∀ p ∈ cs, H p.2 = some (.tbl #[])) → SqL K H a (ns.map V.int) → sp [.ref a] H (fun v _ => v = .bl true) fun _ _ _ => False) :
    codeAny (model P w) callerA (.call (.ref fa) ⟨[.ref a], []⟩) (fun r s' => r = .ok (.ret (.bool true)) ∧ OldK s1.heap s'.heap ∧ s'.os = s1.os ∧ AllBare s'.gens) s1 := by
  have rv := vals_ints hi
  have main : ∀ H : Hp, (∀ b, H b = none ∨ (b = a ∧ ∃ ob xs, H b = some (.frz ob (.lst xs))) ∨ ((∃ p ∈ cs, b = p.2) ∧ H b = some (.tbl #[]))) → (∀ p ∈ cs, H p.2 = some (.tbl #[])) → SqL K H a (ns.map V.int) → HOk P w H s1.heap → (H a ≠ none → K.lookup a = none) →
      codeAny (model P w) callerA (.call (.ref fa) ⟨[.ref a], []⟩) (fun r s' => r = .ok (.ret (.bool true)) ∧ OldK s1.heap s'.heap ∧ s'.os = s1.os ∧ AllBare s'.gens) s1 := by
    intro H hO hT hS hok ok
    have none_of : ∀ {b : Addr} {o : Obj}, s1.heap.get? b = some o → o.data ≠ .seq vs.toArray 0 → o.data ≠ .fields #[] → H b = none := by
      intro b o e n1 n2
      rcases hO b with z | ⟨rfl, _⟩ | ⟨⟨p, hp, rfl⟩, _⟩
      · exact z
      · rw [ha] at e
        cases e
        exact absurd rfl n1
      · rw [ct p hp] at e
        cases e
        exact absurd rfl n2
    have stay : ∀ {b : Addr} {o : Obj}, s1.heap.get? b = some o → H b = none → (hidT s1.heap H).get? b = some o := fun e n => hidT_get e n
    have ns_of : ∀ {b : Addr} {m : Str → Option Value}, s1.heap.Ns b m → (hidT s1.heap H).Ns b m := by
      rintro b m ⟨o, es, ep, e, d, r⟩
      exact ⟨o, es, ep, stay e (none_of e (by rw [d]; intro z; cases z) (by rw [d]; intro z; cases z)), d, r⟩
    have inK : K.In (hidT s1.heap H) := by
      intro b o e
      refine stay (KX b o e) ?_
      rcases hO b with z | ⟨rfl, z⟩ | ⟨⟨p, hp, rfl⟩, _⟩
      · exact z
      · obtain ⟨ob, xs, z⟩ := z
        rw [ok (by rw [z]; simp)] at e
        cases e
      · rw [cK p hp] at e
        cases e
    have tb : ∀ p ∈ cs, TabB (hidT s1.heap H) mg p.1 p.2 := by
      intro p hp
      obtain ⟨o, xs, file, tf, flags, tg, inF, text, tt, e1, e2, e3, e4, r⟩ := cd p hp
      have n2 : xs ≠ #[] := fun z => by rw [z] at e4; cases e4
      have gne : mainGlobals ≠ p.2 := fun z => by
        obtain ⟨o', es, ep, e, d, _⟩ := hm
        rw [z, ct p hp] at e
        cases e
        cases d
      refine ⟨⟨o, xs, file, tf, flags, tg, inF, text, tt, stay e1 (none_of e1 (by rw [e3]; intro z; cases z) (by rw [e3]; intro z; injection z with z; exact n2 z)), e2, e3, e4, r⟩, ?_, gne⟩
      obtain ⟨bm, ob, b1, b2, b3, b4, b5, b6⟩ := bi
      refine ⟨bm, ob, b1, b2, ?_, ?_, stay b3 (none_of b3 (by rw [b6]; intro z; cases z) (by rw [b6]; intro z; cases z)), b4, b5, b6⟩
      · rintro rfl
        obtain ⟨o', es, ep, e, d, _⟩ := hm
        rw [b3] at e
        cases e
        rw [b6] at d
        cases d
      · rintro rfl
        rw [ct p hp] at b3
        cases b3
        cases b6
    obtain ⟨mc, l1, l2⟩ := hlim
    have hM : Mod K mg (hidT s1.heap H) := ⟨inK, ns_of hm, ⟨mb, ns_of hb, hbb⟩, ⟨mc, ns_of l1, l2⟩⟩
    have e0 : Env0 P w K mg (hidT s1.heap H) callerA [] s1 H :=
      ⟨rfl, hM, fun b o e => of_hidT e, Nat.le_of_eq (hidT_size _ _), trivial, fun b z => by simp [frs] at z, hok, .of_eq hg⟩
    refine codeAny_mono ((F _ inK (ns_of hm) tb).go callerA [] s1 H ⟨[.ref a], []⟩ [.ref a] [.ref a] _ _ rfl hR e0 (hbind s1 (.ref a)) (.cons rfl .nil) (hsp H hT hS)) fun r s2 h => ?_
    match r, h with
    | .error e, h => exact False.elim h
    | .ok .next, h => exact False.elim h
    | .ok .brk, h => exact False.elim h
    | .ok .cont, h => exact False.elim h
    | .ok (.ret u), ⟨v, H', os, bare, un, hok', r', q⟩ =>
      have q' : v = .bl true := q
      subst q'
      have r2 : u = Value.bool true := r'
      subst r2
      refine ⟨rfl, ⟨fun b o e => ?_, fun b o e => ?_⟩, os, bare⟩
      · rcases hO b with z | ⟨rfl, ob, xs, z⟩ | ⟨⟨p, hp, rfl⟩, z⟩
        · exact .inl (un.keep b o e z (by simp [frs]) (by simp))
        · have z2 := un.frzs b ob _ z
          have g1 := (hok b _ z).1
          have g2 := (hok' b _ z2).1
          rw [e] at g1
          cases g1
          exact .inl g2
        · obtain ⟨more, z2⟩ := un.tbls _ _ z
          obtain ⟨oc, xs, _, _, _, _, _, _, _, e1, e2, e3, e4, _⟩ := cd p hp
          rw [ct p hp] at e
          cases e
          refine .inr (.inl ⟨⟨p.1, oc, xs, e1, e2, e3, e4⟩, rfl, #[], more, rfl, ?_⟩)
          have := hok' p.2 _ z2
          exact this
      · exact un.there b o e (by simp)
  have cta : ∀ p ∈ cs, p.2 ≠ a := fun p hp z => by
    have := ct p hp
    rw [z, ha] at this
    cases this
  cases hk : K.lookup a with
  | some o =>
    have e := KX a o hk
    rw [ha] at e
    cases e
    refine main (fun b => if b ∈ cs.map (·.2) then some (.tbl #[]) else none) (fun b => ?_) (fun p hp => if_pos (List.mem_map.mpr ⟨p, hp, rfl⟩)) (.inr ⟨_, vs.toArray, _, hk, rfl, rfl, rfl, by rw [List.size_toArray, hi.length]; exact hl, by simpa using rv⟩) (fun b u z => ?_) (fun z => absurd (if_neg fun h => by obtain ⟨p, hp, e⟩ := List.mem_map.mp h; exact cta p hp e) z)
    · by_cases hb : b ∈ cs.map (·.2)
      · obtain ⟨p, hp, e⟩ := List.mem_map.mp hb
        exact .inr (.inr ⟨⟨p, hp, e.symm⟩, if_pos hb⟩)
      · exact .inl (if_neg hb)
    · by_cases hb : b ∈ cs.map (·.2)
      · cases (if_pos hb).symm.trans z
        obtain ⟨p, hp, rfl⟩ := List.mem_map.mp hb
        exact ct p hp
      · cases (if_neg hb).symm.trans z
  | none =>
    have nta : ∀ {b}, b = a → ¬ b ∈ cs.map (·.2) := fun e h => by
      obtain ⟨p, hp, z⟩ := List.mem_map.mp h
      exact cta p hp (z.trans e)
    have at_ : (fun b => if b = a then some (HO.frz { cls := .type "list", data := .seq vs.toArray } (.lst (ns.map V.int))) else if b ∈ cs.map (·.2) then some (.tbl #[]) else none) a = some (HO.frz { cls := .type "list", data := .seq vs.toArray } (.lst (ns.map V.int))) := if_pos rfl
    refine main (fun b => if b = a then some (HO.frz { cls := .type "list", data := .seq vs.toArray } (.lst (ns.map V.int))) else if b ∈ cs.map (·.2) then some (.tbl #[]) else none) (fun b => ?_) (fun p hp => ?_) (.inl (.inr ⟨_, at_⟩)) (fun b u z => ?_) fun _ => hk
    · by_cases hb : b = a
      · exact .inr (.inl ⟨hb, _, _, if_pos hb⟩)
      · by_cases hc : b ∈ cs.map (·.2)
        · obtain ⟨p, hp, e⟩ := List.mem_map.mp hc
          exact .inr (.inr ⟨⟨p, hp, e.symm⟩, (if_neg hb).trans (if_pos hc)⟩)
        · exact .inl ((if_neg hb).trans (if_neg hc))
    · exact (if_neg (cta p hp)).trans (if_pos (List.mem_map.mpr ⟨p, hp, rfl⟩))
    · by_cases hb : b = a
      · subst hb
        cases at_.symm.trans z
        exact ⟨ha, by rw [List.length_map]; exact hl, vs, _, rv, ha⟩
      · by_cases hc : b ∈ cs.map (·.2)
        · cases ((if_neg hb).trans (if_pos hc)).symm.trans z
          obtain ⟨p, hp, rfl⟩ := List.mem_map.mp hc
          exact ct p hp
        · cases ((if_neg hb).trans (if_neg hc)).symm.trans z
/-- what is to be known of the law's def -/
def LawT (l : PySem.W.OpenLaw) (w : World) (K : PySem.W.Frag) (k n : Nat) (x : Str) (mg : Str → Option Value) (fa : Addr) (h : Heap) : Prop :=
  ∃ (fd : FuncData) (cs : List (Addr × Addr)) (sp : Sp), (∀ p ∈ cs, h.get? p.2 = some { cls := .none, data := .fields #[] }) ∧ (∀ p ∈ cs, K.lookup p.2 = none) ∧ (∀ p ∈ cs, PySem.W.CodeHd h p.1 p.2) ∧
    (∀ (s : Shared) (u : Value), BindsTo s fd ⟨[u], []⟩ [(x, u)]) ∧
    (∀ (H : Hp) (a : Addr) (ns : List Int), ns.length ≤ n → (∀ p ∈ cs, H p.2 = some (.tbl #[])) → SqL K H a (ns.map V.int) → sp [.ref a] H (fun v _ => v = .bl true) fun _ _ _ => False) ∧
    ∀ base : Heap, K.In base → base.Ns mainGlobals mg → (∀ p ∈ cs, TabB base mg p.1 p.2) → Pr l.prog w K mg base CX0 k fa fd [x] sp
theorem walk_goT {l : PySem.W.OpenLaw} {n k : Nat} {q : Program} {loose : List Str} {XP : (Str → Option Value) → Heap → Prop} {YP : World → Heap → Prop} {d : DefRec} {x : Str}
    (hn : l.most = some n) (hn2 : n ≤ sizeLine) (hdf : d.params.defaults = []) (hR : Room k callerA)
    (F : ∀ (w : World) (mg : Str → Option Value) (fa : Addr) (h : Heap), YP w h → h.Ns mainGlobals mg → mg d.name = some (.ref fa) → ∃ K : PySem.W.Frag, K.In h ∧ LawT l w K k n x mg fa h) :
    PySem.W.WalkO q loose XP YP l.row.toRowW d [] (fun f vs => PySem.call f vs) := by
  refine Att.attach_call hn hdf fun w s0 s1 mg mb fa o pm cd doc a vs ns G Y ho hd hcd hmg hobj hints hlen hg => ?_
  obtain ⟨K, KX, fd, cs, sp, h1, h2, h3, hb, hsp, hF⟩ := F w mg fa _ Y G.T.g hmg
  have bi : ∃ bm ob, mg "__builtins__" = some (.ref bm) ∧ bm ≠ builtinsNs ∧ s1.heap.get? bm = some ob ∧ ob.cls = .type "module" ∧ ob.dict = some builtinsNs ∧ ob.data = .plain := by
    obtain ⟨_, _, _, _, _, _, _, _, _, _, z, _⟩ := G.T
    exact z
  exact law_goT KX G.T.g G.T.b G.T.builtins G.T.nolimit hg h1 h2 h3 bi hobj hints (Nat.le_trans hlen hn2) hR hF hb fun H hT hS => hsp H a ns hlen hT hS
end Gd
set_option Elab.async false
set_option linter.all false
set_option maxRecDepth 100000
set_option maxHeartbeats 4000000
namespace Ks
open PySem PySem.Spec PyProof.Rows L2 Gd Kx LamX
abbrev sSrt : Stmt := Kx.topS 61
theorem scSrt : FnScope ["_law_e"] ["_law_e"] (defScope sSrt) := ⟨rfl, rfl, rfl, by decide +kernel, rfl, by decide +kernel, by decide +kernel⟩
/-- a value that errors tell of, and its repr -/
inductive Shw (CT CS : Addr) (m : Md) (H : Hp) : V → Str → Prop
  | non : Shw CT CS m H .non PyData.none.shown
  | int0 : Shw CT CS m H (.int 0) (PyData.int 0).shown
  | bl : Shw CT CS m H (.bl true) (PyData.bool true).shown
  | txt {z : Str} : okS z → z.length ≤ 5000 → Shw CT CS m H (.str z) (PyData.str z).shown
  | tup {a : Addr} {z : Str} : H a = some (.tup [.str z]) → okS z → z.length ≤ 5000 → Shw CT CS m H (.ref a) (PyData.tuple [.str z]).shown
  | d0 {a : Addr} : H a = some (.dT []) → Shw CT CS m H (.ref a) (PyData.dict []).shown
  | rows {a : Addr} {t : Tr} : RwsT H a (codes (sub t)) → t.Ok m → t.dep ≤ 4 → Shw CT CS m H (.ref a) (dRns (codes (sub t))).shown
  | tr {a : Addr} {t : Tr} : TrAt CT CS m H a t → t.Ok m → t.dep ≤ 4 → Shw CT CS m H (.ref a) (rpT t)
theorem sub40 {t : Tr} (h : t.dep ≤ 4) : (sub t).length ≤ 40 := Nat.le_trans (sub_size t) (size40 h)
theorem len_rpT {m : Md} (g : Good m) {t : Tr} (ok : t.Ok m) (hz : t.size < 10 ^ 31) : (rpT t).length ≤ 52 := by
  have l1 : (Str.ofString "Tree(").length = 5 := by decide +kernel
  have l2 : (Str.ofString ", size ").length = 7 := by decide +kernel
  have l3 : (Str.ofString ")").length = 1 := by decide +kernel
  have l0 : Str.empty.length = 0 := rfl
  have ln := (nm_len (g.rn _ (Tr.ok_iff.mp ok).1)).2
  have lz : (nsS t.size).length ≤ 31 := nsS_len (by decide) hz
  have lz' : (Str.ofString (toString ((t.size : Nat) : Int))).length ≤ 31 := lz
  have ap := fun x y : Str => Str.length_append x y
  unfold rpT
  rw [ap, ap, ap, ap, ap, l0, l1, l2, l3]
  omega
theorem sb_fix : ∀ d ∈ [PyData.none, .int 0, .bool true], d.showable = true ∧ d.hasDict = false ∧ d.depth ≤ 60 ∧ d.shown.length ≤ 100 ∧ d.canLay0 = true := by decide +kernel
theorem Shw.show {K : PySem.W.Frag} {CT CS : Addr} {m : Md} {H : Hp} {v : V} {z : Str} {Q : VK} (g : Good m) (h : Shw CT CS m H v z) (q : Q (.str z) H) :
    rShowV K [v] H Q ∨ rReprO CT (spRpT CT CS) E0 [v] H Q ∨ rReprD0 [v] H Q := by
  have lz : (100 : Nat) ≤ sizeLine := by decide
  have fix : ∀ d ∈ [PyData.none, .int 0, .bool true], Dp K H v d → z = d.shown → rShowV K [v] H Q := fun d hd hp e => by
    obtain ⟨a, b, c, l, _⟩ := sb_fix d hd
    exact ⟨_, d, rfl, hp, a, b, c, Nat.le_trans l lz, e ▸ q⟩
  cases h with
  | non => exact .inl (fix .none (by simp) .non rfl)
  | int0 => exact .inl (fix (.int 0) (by simp) (.int 0) rfl)
  | bl => exact .inl (fix (.bool true) (by simp) (.bl _) rfl)
  | @txt z ok l =>
    have s := sb_any ok l
    exact .inl ⟨_, _, rfl, .str _, s.sh, s.nd, Nat.le_trans s.dp (by decide), Nat.le_trans s.ln (by decide), q⟩
  | @tup a z e ok l =>
    have s := sb_tup (n := 1) (b := 10 * 5000 + 2) (c := 1) (ds := [PyData.str z]) (fun d hd => by rw [List.mem_singleton.mp hd]; exact sb_any ok l) (Nat.le_refl 1)
    exact .inl ⟨_, _, rfl, .tup (SqT.of e) (.cons (.str _) .nil), s.sh, s.nd, Nat.le_trans s.dp (by decide), Nat.le_trans s.ln (by decide), q⟩
  | d0 e => exact .inr (.inr ⟨_, rfl, e, q⟩)
  | @rows a t e ok d =>
    have s := codes_sb g (sub_ord t) (sub_ok ok) (Nat.le_trans (sub40 d) (by decide))
    exact .inl ⟨_, _, rfl, dp_rns e, s.sh, s.nd, Nat.le_trans s.dp (by decide), Nat.le_trans s.ln (by decide), q⟩
  | @tr a t ht ok d =>
    obtain ⟨dx, fs, e⟩ := ht.ins
    exact .inr (.inl ⟨_, dx, fs, rfl, e, _, _, _, rfl, ht, g, ok, Nat.lt_of_le_of_lt (size40 d) (by decide), _, rfl, q⟩)
theorem Shw.ok {CT CS : Addr} {m : Md} {H : Hp} {v : V} {z : Str} (g : Good m) (h : Shw CT CS m H v z) : PyData.strOk z = true := by
  refine strOk_of ?_
  have fix : ∀ d ∈ [PyData.none, .int 0, .bool true], okS d.shown := fun d hd => by
    obtain ⟨_, b, _, _, l⟩ := sb_fix d hd
    exact shown_ok d l b
  cases h with
  | non => exact fix .none (by simp)
  | int0 => exact fix (.int 0) (by simp)
  | bl => exact fix (.bool true) (by simp)
  | @txt z ok l => exact shown_ok (.str _) (strOk_of ok) rfl
  | @tup a z e ok l => exact shown_ok (.tuple [.str z]) (by rw [PyData.canLay0, PyData.canLayAll0, PyData.canLay0, strOk_of ok]; rfl) rfl
  | d0 e => exact okS_of "{}"
  | @rows a t e ok d =>
    have s := codes_sb g (sub_ord t) (sub_ok ok) (Nat.le_trans (sub40 d) (by decide))
    have l := lay_rns (codes_nm g (sub_ok ok))
    exact shown_ok _ (Bool.and_eq_true_iff.mp l).1 s.nd
  | @tr a t ht ok d => exact okS_rpT g ok
theorem Shw.nt {CT CS : Addr} {m : Md} {H H' : Hp} {v : V} {z : Str} (h : Shw CT CS m H v z) (n : Nt H H') : Shw CT CS m H' v z := by
  cases h with
  | non => exact .non
  | int0 => exact .int0
  | bl => exact .bl
  | txt ok l => exact .txt ok l
  | tup e ok l => exact .tup (n.tk _ _ e) ok l
  | d0 e => exact .d0 (n _ _ (fun _ z => by cases z) (fun _ z => by cases z) e)
  | rows e ok d =>
    obtain ⟨ys, e5, p5⟩ := e
    exact .rows ⟨ys, n.tk _ _ e5, Paired.mapP p5 fun _ _ z => RowN.tk z n.tk⟩ ok d
  | tr ht ok d => exact .tr (ht.nt n) ok d
theorem Shw.same {CT CS : Addr} {m : Md} {H H' : Hp} {v : V} {z : Str} (h : Shw CT CS m H v z) (s : Same H H') : Shw CT CS m H' v z := h.nt (.of s)
/-- what of these is no text -/
theorem Shw.noS {K : PySem.W.Frag} {CT CS : Addr} {m : Md} {H : Hp} {v : V} {z : Str} (h : Shw CT CS m H v z) (Z : TCl K CT) (I : SCi K CT) (kt : PySem.W.kitOne K (.ref CT) (.type "str") = some false) (n : ∀ w, v ≠ .str w) : NoS K H v := by
  cases h with
  | non => exact ⟨_, .base .non, kit_ty (by decide +kernel)⟩
  | int0 => exact ⟨_, .base (.int 0), kit_ty (by decide +kernel)⟩
  | bl => exact ⟨_, .base (.bl true), kit_ty (by decide +kernel)⟩
  | @txt z ok l => exact absurd rfl (n z)
  | tup e ok l => exact ⟨_, .base (.tup e), kit_ty (by decide +kernel)⟩
  | d0 e => exact ⟨_, .base (.dT e), kit_ty (by decide +kernel)⟩
  | rows e ok d =>
    obtain ⟨ys, e5, p5⟩ := e
    exact ⟨_, .base (.tup e5), kit_ty (by decide +kernel)⟩
  | tr ht ok d => exact ⟨_, .base (ht.ty Z I), kt⟩
/-- the word of an error -/
def spSrt (CT CS IT NS : Addr) : SpE := fun cls d H Q => ∃ (x : Addr) (v : V) (z : Str) (m : Md), d = some x ∧ H x = some (.xd [("value", v)]) ∧ Good m ∧ Shw CT CS m H v z ∧
  ((cls = .ref IT ∧ ∀ p H', Same H H' → H' p = some (.lst [.str "InvalidText", .str z]) → Q (.ref p) H') ∨ (cls = .ref NS ∧ ∀ p H', Same H H' → H' p = some (.lst [.str "NotASchema", .str z]) → Q (.ref p) H'))
section
variable {P : Program} {w : World} {K : PySem.W.Frag} {mg : Str → Option Value} {base : Heap} {CT CS IT NS : Addr}
theorem ok_rpTP {f : Addr} {fd : FuncData} (F : Fun K "__repr__" "Tree.__repr__" (cT 13) f fd) (T : TS0 mg) (Z : TCl K CT) : FnP P w K mg base 1 f fd ["self"] (spRpT CT CS) := by
  refine okP F scRpT (fun vs H Q E h => ?_) (fun cv A ou s H vs Q p hr h => ?_)
  · obtain ⟨a, m, t, rfl, _⟩ := h
    rfl
  obtain ⟨a, m, t, rfl, ht, g, ok, hz, q⟩ := h
  refine ⟨_, pss_one (ps_ret (pe_joined (.cons pe_str (.cons (pe_fmt (pe_fld (pv 0) rfl)) (.cons pe_str (.cons (pe_fmt (pe_fld (pv 0) rfl)) (.cons pe_str .nil))))))), ?_⟩
  cases ht with
  | @mk _ dx R s1 F1 _ bs e _ _ _ _ _ =>
  have l1 : (Str.ofString "Tree(").length = 5 := by decide +kernel
  have l2 : (Str.ofString ", size ").length = 7 := by decide +kernel
  have l3 : (Str.ofString ")").length = 1 := by decide +kernel
  have l0 : Str.empty.length = 0 := rfl
  have sz := sizeLine_eq
  have ln := (nm_len (g.rn _ (Tr.ok_iff.mp ok).1)).2
  have lz : (nsS t.size).length ≤ 31 := nsS_len (by decide) hz
  have lz' : (Str.ofString (toString ((t.size : Nat) : Int))).length ≤ 31 := lz
  have ap := fun x y : Str => Str.length_append x y
  refine ⟨_, rfl, ?_, .ref a, rfl, a, CT, dx, _, _, rfl, e, Z.cls, Z.nn, trF_n, .inl ⟨_, rfl, by omega, _, rfl, ?_, _, rfl, ?_, .ref a, rfl, a, CT, dx, _, _, rfl, e, Z.cls, Z.nz, trF_z, .inr ⟨_, rfl, log_ok hz, _, rfl, ?_, _, rfl, ?_, q⟩⟩⟩
  · rw [ap, l0, l1]; omega
  · rw [ap, ap, l0, l1]; omega
  · rw [ap, ap, ap, l0, l1, l2]; omega
  · rw [ap, ap, ap, ap, l0, l1, l2]; omega
  · rw [ap, ap, ap, ap, ap, l0, l1, l2, l3]; omega
theorem ok_srt {f fr : Addr} {fd fdr : FuncData} (F : Fun K "_law_sort" "_law_sort" sSrt f fd) (mi : mg "isinstance" = none) (mr : mg "repr" = none) (gP : mg "InvalidText" = some (.ref IT)) (gT : mg "NotASchema" = some (.ref NS)) (XP : XC K IT) (XT : XC K NS)
    (nP : PySem.W.findIn K (.ref IT) "value" = some none) (nT : PySem.W.findIn K (.ref NS) "value" = some none) (kP : PySem.W.kitOne K (.ref IT) (.ref IT) = some true) (kTP : PySem.W.kitOne K (.ref NS) (.ref IT) = some false) (kT : PySem.W.kitOne K (.ref NS) (.ref NS) = some true)
    (Drp : Dm K CT "__repr__" fr) (Frp : FnP P w K mg base 1 fr fdr ["self"] (spRpT CT CS)) (brp : Binds K fdr ["self"] []) : FnE P w K mg base 6 f fd "_law_e" (spSrt CT CS IT NS) := by
  refine okE F scSrt fun cv A ou s H p cls d Q hG hR hz hf h => ?_
  have hu : (A.deeper (envOfC "_law_sort" (defScope sSrt) s.heap.objs.size f cv)).units + 64 < cLine := by
    have := hR.un
    omega
  have hG2 : (A.deeper (envOfC "_law_sort" (defScope sSrt) s.heap.objs.size f cv)).guards = some [] := hG
  have hR2 : L2H.RoomH 2 (A.deeper (envOfC "_law_sort" (defScope sSrt) s.heap.objs.size f cv)) := hR.mono (by decide)
  have hR4 : L2H.RoomH 4 (A.deeper (envOfC "_law_sort" (defScope sSrt) s.heap.objs.size f cv)) := hR.mono (by decide)
  refine ⟨_, pss_cons (ps_if (pt_val (pe_callB call_isP (by rfl) mi boot_isinstance (pa_cons (pv 0) (pa_cons (pe_glob (v := .ref IT) (by rfl) gP rfl) pa_nil))))
      (pss_one (ps_ret (pe_lst (pa_cons pe_str (pa_cons (pe_callB (call_or (call_showV hG2 hu) (call_or (call_reprP Drp Frp hR2 brp ⟨p, List.mem_singleton.mpr rfl⟩) (call_reprD0 hG2 hu))) (by rfl) mr boot_repr (pa_cons (pe_fp (f := "value") (pv 0)) pa_nil)) pa_nil))))) pss_nil)
    (pss_cons (ps_if (pt_val (pe_callB call_isP (by rfl) mi boot_isinstance (pa_cons (pv 0) (pa_cons (pe_glob (v := .ref NS) (by rfl) gT rfl) pa_nil))))
      (pss_one (ps_ret (pe_lst (pa_cons pe_str (pa_cons (pe_callB (call_or (call_showV hG2 hu) (call_or (call_reprP Drp Frp hR2 brp ⟨p, List.mem_singleton.mpr rfl⟩) (call_reprD0 hG2 hu))) (by rfl) mr boot_repr (pa_cons (pe_fp (f := "value") (pv 0)) pa_nil)) pa_nil))))) pss_nil)
    (pss_one (ps_ret (pe_lst (pa_cons pe_str pa_nil))))), ?_⟩
  obtain ⟨x, v, z, m, rfl, ex, g, sv, h⟩ := h
  rcases h with ⟨rfl, q⟩ | ⟨rfl, q⟩
  · have pn : Pnd (L2H.cxH CX0 P w K mg base ["_law_e"] "_law_sort" (defScope sSrt) f cv A ou s H E0 p) p.1 IT x := ⟨p.2, List.mem_singleton.mpr rfl, hz, hf⟩
    refine ⟨.ref p.1, rfl, p.1, IT, x, _, .ref IT, .ref IT, true, rfl, pn, ex, .own _, XP, kP, _, rfl, iteT ?_⟩
    exact ⟨.ref p.1, rfl, p.1, IT, x, _, v, rfl, pn, XP, nP, ex, rfl, sv.show g ⟨(by show 2 ≤ sizeLine; decide), fun L nL => q L _ (same_new nL) upd_same⟩⟩
  · have pn : Pnd (L2H.cxH CX0 P w K mg base ["_law_e"] "_law_sort" (defScope sSrt) f cv A ou s H E0 p) p.1 NS x := ⟨p.2, List.mem_singleton.mpr rfl, hz, hf⟩
    refine ⟨.ref p.1, rfl, p.1, NS, x, _, .ref IT, .ref IT, false, rfl, pn, ex, .own _, XT, kTP, _, rfl, iteF ?_⟩
    refine ⟨.ref p.1, rfl, p.1, NS, x, _, .ref NS, .ref NS, true, rfl, pn, ex, .own _, XT, kT, _, rfl, iteT ?_⟩
    exact ⟨.ref p.1, rfl, p.1, NS, x, _, v, rfl, pn, XT, nT, ex, rfl, sv.show g ⟨(by show 2 ≤ sizeLine; decide), fun L nL => q L _ (same_new nL) upd_same⟩⟩
end
end Ks
set_option Elab.async false
set_option linter.all false
set_option maxRecDepth 100000
set_option maxHeartbeats 4000000
/-! t[::-1], t a tuple; o.m(k = v) -/
namespace Gd
open PySem PySem.Spec PyProof.Rows L2 HT
section
variable {prog : Program} {w : World} {A : Around} {E : Value → Shared → Prop} {s : Shared}
theorem sliceApplied_rev {sl : Addr} {vs : Value} {n : Nat} {Q : Int × Int × Nat → Shared → Prop} (hs : s.heap.IsSliceOf sl .none .none vs) (ps : IsPart vs (some (-1)))
    (h : Q ((n : Int) - 1, -1, n) s) : wpAny (model prog w) A (Builtin.Slice.sliceApplied (.ref sl) (pure (n : Int))) Q E s := by
  obtain ⟨os, hos, hcs, hds⟩ := id hs
  unfold Builtin.Slice.sliceApplied Builtin.Slice.sliceFields
  refine wpAny_bind (wpAny_bind (wpAny_field hos hds (x := .none) rfl (wpAny_bind (wpAny_field hos hds (x := .none) rfl (wpAny_bind (wpAny_field hos hds (x := vs) rfl (wpAny_pure ?_)))))))
  refine wpAny_bind (slicePart_ ps ?_)
  show wpAny _ _ (if ((-1 : Int) == 0) = true then _ else _) _ _ s
  rw [if_neg (by decide)]
  refine wpAny_bind (slicePart_ .none (wpAny_bind (slicePart_ .none (wpAny_bind (wpAny_pure ?_)))))
  have e2 : Builtin.Slice.slicePlaces ((n : Int) - 1) (-1) (-1) = n := by
    unfold Builtin.Slice.slicePlaces
    have h1 : ¬ ((-1 : Int) > 0) := by decide
    simp only [h1, if_false]
    by_cases h : (n : Int) - 1 > -1
    · simp only [h, if_true]
      rw [show (-(-1) : Int) = 1 by decide, Int.ediv_one]
      omega
    · simp only [h, if_false]
      omega
  show wpAny _ _ (pure ((n : Int) - 1, (-1 : Int), Builtin.Slice.slicePlaces ((n : Int) - 1) (-1) (-1))) _ _ s
  rw [e2]
  exact wpAny_pure h
theorem pick_rev (xs : Array Value) : ((List.range xs.size).filterMap fun (m : Nat) => xs[((xs.size : Int) - 1 + (m : Int) * (-1)).toNat]?).toArray = xs.toList.reverse.toArray := by
  have k := PySem.W.krv_pick xs
  unfold slicePick at k
  rw [PySem.W.krv_bounds] at k
  have k2 : ((sliceRange ((xs.size : Int) - 1) (-1) (-1)).filterMap (xs[·]?)).toArray = xs.toList.reverse.toArray := k
  rw [PySem.W.krv_sliceRange, List.filterMap_map] at k2
  rw [← k2]
  have e : (fun (m : Nat) => xs[((xs.size : Int) - 1 + (m : Int) * (-1)).toNat]?) = ((fun x => xs[x]?) ∘ fun k => xs.size - 1 - k) := by
    funext m
    have : ((xs.size : Int) - 1 + (m : Int) * (-1)).toNat = xs.size - 1 - m := by omega
    show xs[((xs.size : Int) - 1 + (m : Int) * (-1)).toNat]? = xs[xs.size - 1 - m]?
    rw [this]
  rw [e]
theorem getItem_tuple_rev {t sl : Addr} {items : Array Value} {vs : Value} {Q : Value → Shared → Prop} (ht : IsTup s.heap t items) (hs : s.heap.IsSliceOf sl .none .none vs) (ps : IsPart vs (some (-1)))
    (h : Q (.ref s.heap.objs.size) { s with heap := s.heap.push { cls := .type "tuple", data := .seq items.toList.reverse.toArray } })
    (hsz : items.size ≤ sizeLine) : wpAny (model prog w) A (getItem (.ref t) (.ref sl)) Q E s := by
  have htake : sizeOk (.seq items.toList.reverse.toArray) := by
    show items.toList.reverse.toArray.size ≤ sizeLine
    rw [List.size_toArray, List.length_reverse, Array.length_toList]
    exact hsz
  obtain ⟨os, hos, hcs, hds⟩ := id hs
  have hTs : s.TypeIs (.ref sl) "slice" := ⟨os, hos, hcs⟩
  unfold getItem
  try with_reducible refine wpAny_holding ?_
  first | refine wpAny_bind (wpAny_pure ?_) | skip
  refine wpAny_bind (wpAny_sequenceKey ht.typeIs (by decide) ?_)
  refine wpAny_bind (wpAny_callSpecial?_slot (name := Str.ofString "__getitem__") ht.typeIs PyProof.Rows.slot_tuple_getitem
    (wpAny_call_entry PyProof.Rows.slot_tuple_getitem ht.typeIs entry_tuple_getitem ?_ (args_tuple_getitem _ _)))
  show wpAny _ _ (Builtin.Tuple.tupleItemsOf (.ref t) >>= _) _ _ s
  refine wpAny_bind (tupleItemsOf_ ht ?_)
  refine wpAny_bind (wpAny_typeOf hTs ?_)
  rw [if_pos (by decide)]
  refine wpAny_bind (sliceApplied_rev hs ps ?_)
  have hno : ¬ ((((items.size : Int) - 1) == 0 && (-1 : Int) == 1 && items.size == items.size) = true) := by
    intro q
    rw [Bool.and_eq_true, Bool.and_eq_true] at q
    exact absurd q.1.2 (by decide)
  show wpAny _ _ (if (((items.size : Int) - 1) == 0 && (-1 : Int) == 1 && items.size == items.size) = true then _ else _) _ _ s
  rw [if_neg hno, pick_rev]
  first
    | exact wpAny_bind (m := Builtin.Tuple.tupleExact _) (wpAny_newObj_type (wpAny_pure ⟨_, rfl, wpAny_pure h⟩) htake)
    | exact wpAny_bind (m := Builtin.Tuple.tupleExact _) (wpAny_newObj_type (wpAny_bind (wpAny_pure (wpAny_pure ⟨_, rfl, wpAny_pure h⟩))) htake)
    | exact wpAny_bind (wpAny_bind (m := Builtin.Tuple.tupleExact _) (wpAny_newObj_type (wpAny_pure (wpAny_pure ⟨_, rfl, wpAny_pure h⟩)) htake))
    | exact wpAny_bind (wpAny_bind (m := Builtin.Tuple.tupleExact _) (wpAny_newObj_type (wpAny_pure ⟨_, rfl, wpAny_pure h⟩) htake))
end
def tRevT (K : PySem.W.Frag) (te : TE) : TE := fun σ H Q => te σ H fun x H1 => ∃ a xs, x = .ref a ∧ SqT K H1 a xs ∧ ∀ p, H1 p = none → Q (.ref p) (upd H1 p (.tup xs.reverse))
theorem pe_revT {X : Cx} {e : Expr} {te : TE} {k : Nat} {p1 p2 p3 pos : Pos} (he : PE X e te) : PE X (.Subscript e (.Slice none none (some (.UnaryOp .USub (.Constant (.int 1) k p1) p2)) p3) pos) (tRevT X.K te) := by
  refine ⟨fun pins s σ H Q I h => ?_⟩
  refine Subscript_ (thn (he.run pins s σ H _ I h) fun v s1 ⟨x, H1, I1, r1, q1⟩ => ?_)
  obtain ⟨a, xs, ex, hx, q⟩ := q1
  subst ex
  cases r1
  have hst : PO X (some (.UnaryOp .USub (.Constant (.int 1) k p1) p2)) (tPart (tUn (rU fun i => .int (-i)) (tC (.int 1)))) := po_some (pe_un un_neg pe_int)
  refine wpAny_Slice (thn (po_none.run pins s1 σ H1 (fun o H2 => o = none ∧ H2 = H1) I1 ⟨rfl, rfl⟩) fun vl s2 ⟨l, H2, I2, pl, el, e2⟩ => ?_)
  subst el e2
  refine thn (po_none.run pins s2 σ H2 (fun o H3 => o = none ∧ H3 = H2) I2 ⟨rfl, rfl⟩) fun vu s3 ⟨u, H3, I3, pu, eu, e3⟩ => ?_
  subst eu e3
  refine thn (hst.run pins s3 σ H3 (fun o H4 => o = some (-1) ∧ H4 = H3) I3 ⟨1, rfl, -1, rfl, rfl, rfl⟩) fun vs s4 ⟨o, H4, I4, ps, eo, e4⟩ => ?_
  subst eo e4
  cases pl
  cases pu
  have I5 : Inv X pins σ H4 { s4 with heap := s4.heap.push { cls := .type "slice", data := .fields #[.none, .none, vs] } } := I4.kept (t' := s4.toks) fun b ob q => Heap.get?_push_of_some _ q
  obtain ⟨its, r, ht, hz⟩ := I5.tuple hx
  have hlen := r.length
  show wpAny (model X.prog X.w) X.A (subscriptTail e (.Slice none none (some (.UnaryOp .USub (.Constant (.int 1) k p1) p2)) p3) (.ref a) (.ref s4.heap.objs.size)) (EP X pins σ Q) X.xe { s4 with heap := s4.heap.push { cls := .type "slice", data := .fields #[.none, .none, vs] } }
  refine tail_any (ops := [.ref a, .ref s4.heap.objs.size]) ht.typeIs (PyProof.Rows.slot_tuple_getitem.lookup) ?_ (by with_unfolding_all rfl)
  refine getItem_tuple_rev ht (Heap.IsSliceOf.new _ .none .none vs) ps ?_ (by rw [List.size_toArray]; omega)
  refine ⟨.ref _, _, I5.laid (t' := s4.toks) (o := .tup xs.reverse) (fun b ob q => Heap.get?_push_of_some _ q) (Nat.le_refl _) ?_, rfl, q _ (I5.hok.fresh (Nat.le_refl _))⟩
  exact ⟨by rw [List.length_reverse]; exact hz, _, r.reverse, IsTup.new _ _⟩
/-! ### o.m(k = v, ..): keywords alone -/
section
variable {X : Cx} {CX : CXT} {k : Nat} {C f : Addr} {fd : FuncData} {ps ks : List Str} {sp : Sp} {E : XK} {ta : TE} {tk : TA} {o : Expr} {m : Str} {apos pos : Pos} {kws : List Keyword} {g : List Value → List Value → List Value} {gV : List V → List V → List V}
def tMethK (C : Addr) (m : Str) (sp : Sp) (gV : List V → List V → List V) (E : XK) (ta : TE) (tk : TA) : TE := fun σ H Q => ta σ H fun x H1 => ∃ a dx fs, x = .ref a ∧ H1 a = some (.ins C dx fs) ∧ fs.lookup m = none ∧ tk σ H1 fun zs H2 => sp (gV [x] zs) H2 Q E
theorem pe_methK0 {pl : Sem Bool} (he : PE X o ta) (c : Cls X.K C) (hm : Meth X.K C m f) (F : FnOk X.prog X.w X.K X.mg X.base CX k f fd ps sp) (hr : Room k X.A) (hb : KBinds X.K fd ps ks g gV) (hx : Passes CX X E)
    (hkw : PK X kws tk) (hall : (backToKw pos (keywordEach kws X.env)).all (·.1.isSome) = true := by rfl) (hks : (backToKw pos (keywordEach kws X.env)).filterMap (·.1) = ks := by rfl)
    (hpl : ((backTo pos (starEach [] X.env)).any (·.1) || (backToKw pos (keywordEach kws X.env)).any (·.1.isNone)) = false := by rfl)
    (ht : eval (.Call (.Attribute o m apos) [] kws pos) X.env = (do
      let ov ← eval o X.env
      standAt apos.atName
      let (f, first) ← holding [ov] (getMethod ov m pl)
      callWith pos f first (backTo pos (starEach [] X.env)) (backToKw pos (keywordEach kws X.env))) := by rfl) :
    PE X (.Call (.Attribute o m apos) [] kws pos) (tMethK C m sp gV E ta tk) := by
  refine ⟨fun pins s σ H Q I h => ?_⟩
  refine PySem.W.methodCall_KW (pl := pl) (thn (he.run pins s σ H _ I h) fun u s1 ⟨x, H1, I1, rx, a, dx, fs, ex, ea, l, q⟩ => ?_) ht
  subst ex
  obtain rfl : u = Value.ref a := rx
  refine getmeth_ok I1 ea c hm l ?_
  refine PySem.W.callWith_KW0 (first := [.ref a]) (h₀ := X.base) I1.ok.mod.kin hm.kp hall (thn (hkw.run pos pins s1 σ H1 _ I1 q) fun us s2 ⟨zs, H2, I2, r, q2⟩ => ⟨I2.kIn, ?_⟩) hpl
  rw [hks]
  exact run_fnk (us := [.ref a]) (vs := [.ref a]) F hr hb hx I2 (.cons rfl .nil) r q2
end
end Gd
set_option Elab.async false
set_option linter.all false
set_option maxRecDepth 100000
set_option maxHeartbeats 4000000
namespace Ks
open PySem PySem.Spec PyProof.Rows L2 Gd Kx
/-! ### a number told by a word, the text of rows -/
abbrev sNof : Stmt := Kx.topS 62
abbrev sLin : Stmt := Kx.topS 59
theorem scNof : FnScope ["_law_word_here", "_law_sign"] ["_law_word_here"] (defScope sNof) := ⟨rfl, rfl, rfl, by decide +kernel, rfl, by decide +kernel, by decide +kernel⟩
abbrev nLin : List Str := ["_law_rows_here", "_law_row", "_law_number_here"]
theorem scLin : FnScope nLin ["_law_rows_here"] (defScope sLin) := ⟨rfl, rfl, rfl, by decide +kernel, rfl, by decide +kernel, by decide +kernel⟩
def nofW (z : Str) : Int := if 0 < z.length ∧ z.length < 9 ∧ z.cps.toList.all dgt = true then (if z.cps.toList.head? = some 48 ∧ z ≠ "0" then -1 else ((NumText.digitsVal z.cps.toList : Nat) : Int)) else -1
theorem nof_ns : ∀ n : _root_.Fin 60, nofW (nsS n.1) = ((n.1 : Nat) : Int) := by decide +kernel
def lineS (rs : List Rn) : Str := Txt.join (Str.ofString "; ") (rs.map rowS)
theorem stT_line (t : Tr) : stT t = lineS (codes (sub t)) := rfl
section
variable {P : Program} {w : World} {K : PySem.W.Frag} {mg : Str → Option Value} {base : Heap}
def spNof : Sp := fun vs H Q _ => ∃ z : Str, vs = [.str z] ∧ z.length ≤ 100000 ∧ ∀ H', Same H H' → Q (.int (nofW z)) H'
theorem ok_nof {f : Addr} {fd : FuncData} (F : Fun K "_law_number_of" "_law_number_of" sNof f fd) (T : TS0 mg) (mi : mg "int" = none) : FnOk P w K mg base CX0 1 f fd ["_law_word_here"] spNof := by
  refine F.ok scNof (fun vs H Q E h => ?_) (fun cv A ou s H vs Q E hr h => ?_)
  · obtain ⟨z, rfl, _⟩ := h
    rfl
  obtain ⟨z, rfl, hz, q⟩ := h
  have sz := sizeLine_eq
  refine ⟨_, pss_cons (ps_if (PW.pt (pw_or (pt_not (pt_chain op_lt op_lt pe_int (pe_callB call_len_str (by rfl) T.len PySem.boot_len (pa_cons (pv 0) pa_nil)) pe_int))
        (pw_or1 (pt_not (pt_val (pe_callB (cr_all rfl) (by rfl) T.all boot_all (pa_cons (pe_lc (own := [("_law_sign", 1)]) (g := gName 1) (tt := tYes) rfl scNof.nd (pi_str (pv 0)) (blkOk_by (own := [("_law_sign", 1)]) (N := ["_law_word_here", "_law_sign"]) (sc := defScope sNof) (by decide +kernel))
          (fun _ _ _ _ _ => pg_name (i := 1) scNof.nd rfl (Or.inl rfl)) (fun _ _ _ _ _ => pts_nil) (fun _ _ _ _ _ => pe_cmpR op_in_sign (pv 1) pe_str rfl)) pa_nil)))))))
      (pss_one (ps_ret (pe_un un_neg pe_int))) pss_nil)
    (pss_one (ps_ret (pe_ifExp (PW.pt (pw_and (pt_cmpR op_eq (pe_ix ix_str (pv 0) pe_int (fun _ _ => rfl)) pe_str (nomark _)) (pw_and1 (pt_cmpR op_ne (pv 0) pe_str (nomark _)))))
      (pe_un un_neg pe_int) (pe_callTy call_int_str (by rfl) mi boot_int (pa_cons (pv 0) pa_nil))))), ?_⟩
  have ez := len_list z
  have neg : ∀ H', Same H H' → nofW z = -1 → Q (.int (-1)) H' := fun H' s' e => by
    have := q _ s'
    rw [e] at this
    exact this
  refine ⟨.str z, rfl, z, rfl, by omega, _, _, rfl, rfl, _, rfl, ?_⟩
  by_cases h0 : 0 < z.length
  rotate_left
  · rw [decide_eq_false (show ¬ (0 : Int) < ((z.length : Nat) : Int) by omega)]
    exact iteF ⟨_, rfl, iteT ⟨_, rfl, neg _ (fun _ _ e => e) (if_neg fun h => h0 h.1)⟩⟩
  rw [decide_eq_true (show (0 : Int) < ((z.length : Nat) : Int) by omega)]
  refine iteT ⟨_, _, rfl, rfl, _, rfl, ?_⟩
  by_cases h9 : z.length < 9
  rotate_left
  · rw [decide_eq_false (show ¬ ((z.length : Nat) : Int) < (9 : Int) by omega)]
    exact iteT ⟨_, rfl, neg _ (fun _ _ e => e) (if_neg fun h => h9 h.2.1)⟩
  rw [decide_eq_true (show ((z.length : Nat) : Int) < (9 : Int) by omega)]
  refine iteF ⟨.str z, rfl, z, rfl, fun D nD => lc_strY (x := z) (fun i H2 => Same H H2 ∧ H2 D = some (.lst ((z.cps.toList.take i).map fun c => V.bl (dgt c)))) (fun _ => rfl) ⟨same_new nD, upd_same⟩ ?_ ?_⟩
  · rintro i y H2 hi ⟨s2, eD⟩
    refine ⟨_, rfl, y, digS, rfl, rfl, _, eD, ?_, ?_, ?_⟩
    · rw [List.length_map, List.length_take]
      exact small1000 (by omega)
    · intro b o e
      rw [upd_ne (ne_of_none e nD)]
      exact s2 b o e
    · rw [upd_same, List.take_add_one, hi]
      simp [dgt]
  · rintro H2 ⟨s2, eD⟩
    rw [List.take_length] at eD
    refine ⟨D, z.cps.toList.map dgt, rfl, SqL.of (by rw [eD, List.map_map]; rfl), ?_⟩
    have e : (z.cps.toList.map dgt).all id = z.cps.toList.all dgt := by
      rw [List.all_map]
      rfl
    rw [e]
    cases ha : z.cps.toList.all dgt with
    | false => exact ⟨_, rfl, iteT ⟨_, rfl, neg _ s2 (if_neg fun h => by rw [ha] at h; cases h.2.2)⟩⟩
    | true =>
      have ad : NumText.AllDigits z.cps.toList := fun c hc => by
        obtain ⟨i, rfl⟩ := dgt_fin (List.all_eq_true.mp ha c hc)
        omega
      have hne : z.cps.toList ≠ [] := fun e => by
        rw [e] at ez
        simp at ez
        omega
      obtain ⟨c, r, ec⟩ : ∃ c r, z.cps.toList = c :: r := by
        cases e : z.cps.toList with
        | nil => exact absurd e hne
        | cons c r => exact ⟨c, r, rfl⟩
      have fin : ¬ (z.cps.toList.head? = some 48 ∧ z ≠ "0") → nofW z = ((NumText.digitsVal z.cps.toList : Nat) : Int) := fun hn => by
        unfold nofW
        rw [if_pos ⟨h0, h9, ha⟩, if_neg hn]
      have num : nofW z = ((NumText.digitsVal z.cps.toList : Nat) : Int) → ∃ n, PySem.intText? z = some n ∧ z.length ≤ 640 ∧ Q (.int n) H2 := fun e => ⟨_, intText_digits ad hne (by omega), by omega, by rw [← e]; exact q _ s2⟩
      refine ⟨_, rfl, iteF ⟨.str z, rfl, z, 0, c, rfl, rfl, by omega, ?_, rfl, _, rfl, ?_⟩⟩
      · rw [ec]
        exact atI_nat (j := 0) rfl
      have sg : (V.str ⟨#[c]⟩ = V.str "0") ↔ c = 48 := by
        constructor
        · intro h
          have h1 : (⟨#[c]⟩ : Str) = "0" := by injection h
          have h2 : TL.tl (⟨#[c]⟩ : Str) = TL.tl "0" := by rw [h1]
          have h3 : TL.tl ("0" : Str) = [48] := by decide +kernel
          rw [h3] at h2
          have : [c] = [48] := h2
          simpa using this
        · intro h
          subst h
          have : (⟨#[48]⟩ : Str) = "0" := TL.ext_tl (by decide +kernel)
          rw [this]
      by_cases h48 : c = 48
      rotate_left
      · rw [show decide (V.str ⟨#[c]⟩ = V.str "0") = false from decide_eq_false (fun z => h48 (sg.mp z))]
        obtain ⟨n, e1, e2, e3⟩ := num (fin fun h => by rw [ec] at h; exact h48 (Option.some.inj h.1))
        exact iteF ⟨.str z, rfl, z, n, rfl, e1, e2, e3⟩
      rw [show decide (V.str ⟨#[c]⟩ = V.str "0") = true from decide_eq_true (sg.mpr h48)]
      refine iteT ⟨.str z, rfl, rfl, _, rfl, ?_⟩
      by_cases hz0 : z = "0"
      · rw [show (!decide (V.str z = V.str "0")) = false by rw [hz0]; rfl]
        obtain ⟨n, e1, e2, e3⟩ := num (fin fun h => h.2 hz0)
        exact iteF ⟨.str z, rfl, z, n, rfl, e1, e2, e3⟩
      · rw [show (!decide (V.str z = V.str "0")) = true by simp [hz0]]
        refine iteT ⟨_, rfl, neg _ s2 ?_⟩
        unfold nofW
        rw [if_pos ⟨h0, h9, ha⟩, if_pos ⟨by rw [ec, h48]; rfl, hz0⟩]
def spLin : Sp := fun vs H Q _ => ∃ (R : Addr) (rs : List Rn), vs = [.ref R] ∧ RwsT H R rs ∧ rs.length ≤ 200 ∧ (∀ r ∈ rs, r.1.length ≤ 8 ∧ r.2.length ≤ 3 ∧ ∀ k ∈ r.2, k < 1000) ∧ ∀ H', Same H H' → Q (.str (lineS rs)) H'
theorem ok_lin {f : Addr} {fd : FuncData} (F : Fun K "_law_line" "_law_line" sLin f fd) (T : TS0 mg) : FnOk P w K mg base CX0 1 f fd ["_law_rows_here"] spLin := by
  refine F.ok scLin (fun vs H Q E h => ?_) (fun cv A ou s H vs Q E hr h => ?_)
  · obtain ⟨R, rs, rfl, _⟩ := h
    rfl
  obtain ⟨R, rs, rfl, ⟨xs, eR, pR⟩, l2, wd, q⟩ := h
  refine ⟨_, pss_one (ps_ret (pe_join pe_str (pe_lc (own := [("_law_row", 1)]) (g := gName 1) (tt := tYes) (by rfl) scLin.nd (pi_tup (pv 0)) (blkOk_by (own := [("_law_row", 1)]) (N := nLin) (sc := defScope sLin) (by decide +kernel))
      (fun _ _ _ _ _ => pg_name (i := 1) scLin.nd rfl (Or.inl rfl)) (fun _ _ _ _ _ => pts_nil)
      (fun _ _ _ _ _ => asTE (te := tM1 (fun x xs H Q => ∃ a p, ∃ ys : List Str, x = .str a ∧ xs = [.ref p] ∧ (SqL K H p (ys.map V.str) ∨ SqT K H p (ys.map V.str)) ∧ (ys.map (·.length)).sum + ys.length * a.length ≤ 16777216 ∧ Q (.str (Txt.join a ys)) H) (tC (.str " ")) (tOp (rCat) (tLst (tCons (tOp (rIxT K) (tVar 1) (tC (.int 0))) tNil)) (tLc (iTup K (tOp (rIxT K) (tVar 1) (tC (.int 1)))) (gName 2) tYes (tCB (fun xs H Q => ∃ i, xs = [V.int i] ∧ i.natAbs.log2 < 1920 ∧ Q (.str (toString i)) H) (tCons (tVar 2) tNil)) [2])))
        (pe_join pe_str (pe_op op_cat (pe_lst (pa_cons (pe_ix ix_tup (pv 1) pe_int (fun _ _ => rfl)) pa_nil)) (pe_lc (own := [("_law_number_here", 2)]) (g := gName 2) (tt := tYes) (by rfl) scLin.nd (pi_tup (pe_ix ix_tup (pv 1) pe_int (fun _ _ => rfl))) (blkOk_by (own := [("_law_number_here", 2)]) (N := nLin) (sc := { kind := .function, names := [(".0", .local), ("_law_row", .local)], isGenerator := false, isCoroutine := false }) (by decide +kernel)) (fun _ _ _ _ _ => pg_name (i := 2) scLin.nd rfl (Or.inl rfl)) (fun _ _ _ _ _ => pts_nil) (fun _ _ _ _ _ => pe_callTy call_str_int (by rfl) T.str boot_str (pa_cons (pv 2) pa_nil))))) rfl)))), ?_⟩
  have lx : xs.length = rs.length := Paired.length pR
  have l1 : (Str.ofString " ").length = 1 := by decide +kernel
  have l1' : (Str.ofString "; ").length = 2 := by decide +kernel
  have n3 : ∀ k : Nat, k < 1000 → (nsS k).length ≤ 3 := fun k h => nsS_len (by decide) h
  have ws : ∀ r ∈ rs, ((r.1 :: r.2.map nsS).map (·.length)).sum ≤ 17 := fun r hr => by
    obtain ⟨h1, h2, h3⟩ := wd r hr
    rw [List.map_cons, List.sum_cons]
    have : ∀ l : List Nat, (∀ k ∈ l, k < 1000) → ((l.map nsS).map (·.length)).sum ≤ l.length * 3 := by
      intro l
      induction l with
      | nil => intro _; exact Nat.le_refl _
      | cons k r ih =>
        intro h
        have a := n3 k (h k (List.mem_cons_self ..))
        have b := ih fun x hx => h x (List.mem_cons_of_mem _ hx)
        rw [List.map_cons, List.map_cons, List.sum_cons, List.length_cons, Nat.add_mul, Nat.one_mul]
        omega
    have := this r.2 h3
    omega
  refine ⟨⟨_, rfl⟩, .ref R, rfl, R, rfl, ⟨_, SqT.of eR⟩, fun D nD => lc_tup (K := K) (a := R) (xs := xs) (fun i H' => i ≤ xs.length ∧ Same H H' ∧ H' D = some (.lst (((rs.take i).map rowS).map V.str))) ⟨Nat.zero_le _, same_new nD, upd_same⟩ (fun i H' _ p => SqT.of (p.2.1 _ _ eR)) (fun i x H' hx p => ?_) fun H' p => ?_⟩
  · obtain ⟨hi, s4, eD⟩ := p
    obtain ⟨r, hr2, b, fa, rfl, hb, hf⟩ := par_at pR hx
    have hlt : i < xs.length := (List.getElem?_eq_some_iff.mp hx).1
    have hrm := List.mem_of_getElem? hr2
    obtain ⟨w1, w2, w3⟩ := wd r hrm
    refine ⟨rfl, Gd.yes_if ⟨⟨_, rfl⟩, .ref b, rfl, b, _, _, .str r.1, rfl, rfl, SqT.of (s4 _ _ hb), atI_nat (j := 0) rfl, (by show 1 ≤ sizeLine; decide), fun L1 nL1 => ?_⟩⟩
    have sL1 := same_new (o := .lst [.str r.1]) nL1
    refine ⟨.ref b, rfl, b, _, _, .ref fa, rfl, rfl, SqT.of (sL1 _ _ (s4 _ _ hb)), atI_nat (j := 1) rfl, fa, rfl, ⟨_, SqT.of (sL1 _ _ (s4 _ _ hf))⟩, fun D2 nD2 => lc_funT (K := K) (te := tCB (fun xs H Q => ∃ i, xs = [V.int i] ∧ i.natAbs.log2 < 1920 ∧ Q (.str (toString i)) H) (tCons (tVar 2) tNil)) (j := 2) (vs := [2]) (a := fa) (xs := nsV r.2) (ys := (r.2.map nsS).map V.str) (fun _ => rfl) nD2 (SqT.of (sL1 _ _ (s4 _ _ hf))) (by rw [nsV_len]; omega) (by rw [List.length_map, List.length_map, nsV_len]) (fun p x y H5 hx hy s5 k => ?_) fun H5 s5 eC => ?_⟩
    · intro kk
      unfold nsV at hx
      rw [List.getElem?_map] at hx hy
      rw [List.getElem?_map] at hy
      cases ek : r.2[p]? with
      | none => rw [ek] at hx; cases hx
      | some n =>
        rw [ek] at hx hy
        cases hx
        cases hy
        exact ⟨.int _, rfl, _, rfl, log_ok (Nat.lt_of_lt_of_le (w3 n (List.mem_of_getElem? ek)) (by decide)), kk H5 fun _ _ e => e⟩
    · refine ⟨L1, D2, _, _, rfl, rfl, s5 _ _ upd_same, eC, ?_, fun L nL => ?_⟩
      · rw [List.length_singleton, List.length_map, List.length_map]
        exact Nat.le_of_lt (small1000 (by omega))
      · have sL := same_new (o := .lst ([V.str r.1] ++ (r.2.map nsS).map V.str)) nL
        have s7 := s4.trans (sL1.trans (s5.trans sL))
        refine ⟨_, L, r.1 :: r.2.map nsS, rfl, rfl, .inl (SqL.of (by rw [upd_same]; rfl)), ?_, _, (sL1.trans (s5.trans sL)) _ _ eD, ?_, hlt, ?_, ?_⟩
        · have := ws r hrm
          rw [List.length_cons, List.length_map, l1]
          omega
        · rw [List.length_map, List.length_map, List.length_take]
          exact small1000 (by omega)
        · intro x o e
          rw [upd_ne (ne_of_none e nD)]
          exact s7 _ _ e
        · rw [upd_same, List.take_add_one, hr2, Option.toList_some, List.map_append, List.map_append]
          rfl
  · obtain ⟨_, s4, eD⟩ := p
    rw [lx, List.take_length] at eD
    have rl : ∀ z ∈ rs.map rowS, z.length ≤ 21 := fun z hz => by
      obtain ⟨r, hr, rfl⟩ := List.mem_map.mp hz
      show (Txt.join (Str.ofString " ") (r.1 :: r.2.map nsS)).length ≤ 21
      rw [TL.join_eq]
      have a := StrLaws.join_length_le (Str.ofString " ") (r.1 :: r.2.map nsS)
      have b := ws r hr
      have c := (wd r hr).2.1
      rw [l1, List.length_cons, List.length_map] at a
      omega
    have sm : ∀ l : List Str, (∀ z ∈ l, z.length ≤ 21) → (l.map (·.length)).sum ≤ l.length * 21 := by
      intro l
      induction l with
      | nil => intro _; exact Nat.le_refl _
      | cons z r ih =>
        intro h
        have a := h z (List.mem_cons_self ..)
        have b := ih fun x hx => h x (List.mem_cons_of_mem _ hx)
        rw [List.map_cons, List.sum_cons, List.length_cons, Nat.add_mul, Nat.one_mul]
        omega
    have b := sm _ rl
    rw [List.length_map] at b
    refine ⟨_, D, rs.map rowS, rfl, rfl, .inl (SqL.of eD), ?_, q _ s4⟩
    rw [List.length_map, l1']
    omega
end
end Ks
set_option Elab.async false
set_option linter.all false
set_option maxRecDepth 100000
set_option maxHeartbeats 4000000
namespace Ks
open PySem PySem.Spec PyProof.Rows L2 Gd Kx
/-! ### parts of a law's tree; tuples joined -/
section
variable {K : PySem.W.Frag}
theorem same_rfl {H : Hp} : Same H H := fun _ _ e => e
theorem catA_all {a b : Addr} {xs ys : List V} {H : Hp} {Q : VK} (ha : H a = some (.tup xs)) (hb : H b = some (.tup ys)) (hz : xs.length + ys.length ≤ sizeLine) (q : ∀ p H', Same H H' → H' p = some (.tup (xs ++ ys)) → Q (.ref p) H') : rCatA K (.ref a) (.ref b) H Q :=
  ⟨a, b, xs, ys, rfl, rfl, SqT.of ha, SqT.of hb, hz, fun e => q b H same_rfl (by rw [e]; exact hb), fun _ e => q a H same_rfl (by rw [e, List.append_nil]; exact ha), fun _ _ p np => q p _ (same_new np) upd_same⟩
theorem lay_kids {m : Md} (g : Good m) {t : Tr} (ok : t.Ok m) (d : t.dep ≤ 5) : SeqAt.shaped (.tuple (t.kids.map dLt)) = true := by
  have ly : PyData.canLayAll0 (t.kids.map dLt) = true := lay_all fun d hd => by
    obtain ⟨c, hc, rfl⟩ := List.mem_map.mp hd
    exact (lay_lt g ((Tr.ok_iff.mp ok).2.2 c hc)).1
  have dk := dep_all (n := 28) (ds := t.kids.map dLt) fun d hd => by
    obtain ⟨c, hc, rfl⟩ := List.mem_map.mp hd
    have := dep_kid hc
    exact (lay_lt g ((Tr.ok_iff.mp ok).2.2 c hc)).2 5 (by omega)
  unfold SeqAt.shaped
  have e2 : (PyData.tuple (t.kids.map dLt)).depth ≤ 64 := by
    rw [PyData.depth]
    omega
  rw [show (PyData.tuple (t.kids.map dLt)).canLay0 = true by rw [PyData.canLay0]; exact ly, decide_eq_true e2]
  rfl
theorem eqv_kids0 (t : Tr) : PyData.eqv (.tuple (t.kids.map dLt)) (.tuple []) = decide (t.kids = []) := by
  cases t <;> rfl
theorem dp_kids {H : Hp} {q0 : Addr} {xs : List V} {t : Tr} (e : H q0 = some (.tup xs)) (l : xs.length = t.kids.length) (k : ∀ (i : Nat) (x : V) (c : Tr), xs[i]? = some x → t.kids[i]? = some c → LtAt H x c) : Dp K H (.ref q0) (.tuple (t.kids.map dLt)) :=
  .tup (SqT.of e) (dpAll_of l fun i x c hx hc => dp_lt (k i x c hx hc))
end
end Ks
set_option Elab.async false
set_option linter.all false
set_option maxRecDepth 100000
namespace Ks
open PySem PySem.Spec PyProof.Rows L2 Gd Kx
section
variable {K : PySem.W.Frag} {a : Addr} {xs : List V} {j : Nat} {te : TE} {vs : List Nat} {σ : L2.St} {H1 : Hp} {D : Addr} {Qd : Hp → Prop} {α : Type} {cs : List α} {G : Hp → V → α → Prop}
theorem rel_step (kp : ∀ H H' v c, G H v c → Tk H H' → G H' v c) (hw : ∀ v, wipe ((wipe σ vs).set j (some v)) vs = wipe σ vs) (nD : H1 D = none) (hz : xs.length ≤ 1000) (hl : cs.length = xs.length)
    (he : ∀ (i : Nat) (x : V) (c : α) (H : Hp), xs[i]? = some x → cs[i]? = some c → Same H1 H → ∀ q : VK, (∀ z H4, Same H H4 → G H4 z c → q z H4) → te ((wipe σ vs).set j (some x)) H q)
    (i : Nat) (x : V) (H : Hp) (hx : xs[i]? = some x) (p : i ≤ xs.length ∧ Same H1 H ∧ ∃ zs, H D = some (.lst zs) ∧ Paired (G H) zs (cs.take i)) :
    wipe ((wipe σ vs).set j (some x)) vs = wipe σ vs ∧ tYes ((wipe σ vs).set j (some x)) H fun b H3 =>
        if b = true then te ((wipe σ vs).set j (some x)) H3 fun y H4 => ∃ acc, H4 D = some (.lst acc) ∧ acc.length < sizeLine ∧ (i + 1 ≤ xs.length ∧ Same H1 (upd H4 D (.lst (acc ++ [y]))) ∧ ∃ zs, (upd H4 D (.lst (acc ++ [y]))) D = some (.lst zs) ∧ Paired (G (upd H4 D (.lst (acc ++ [y])))) zs (cs.take (i + 1)))
        else (i + 1 ≤ xs.length ∧ Same H1 H3 ∧ ∃ zs, H3 D = some (.lst zs) ∧ Paired (G H3) zs (cs.take (i + 1))) := by
  obtain ⟨hi, s, zs, eD, pz⟩ := p
  have hi2 : i < xs.length := (List.getElem?_eq_some_iff.mp hx).1
  have ec : cs[i]? = some (cs[i]'(by omega)) := List.getElem?_eq_getElem _
  refine ⟨hw x, Gd.yes_if (he i x _ H hx ec s _ fun z H4 s4 g => ?_)⟩
  have lz : zs.length = i := by rw [Paired.length pz, List.length_take]; omega
  have t0 : Tk H4 (upd H4 D (.lst (zs ++ [z]))) := fun y ys e => by
    rw [upd_ne (fun q => by rw [q, s4 _ _ eD] at e; cases e)]
    exact e
  refine ⟨zs, s4 _ _ eD, by rw [lz]; exact small1000 (by omega), hi2, same_upd (s.trans s4) nD, zs ++ [z], upd_same, ?_⟩
  rw [List.take_succ, ec]
  exact Paired.snoc (Paired.mapP pz fun v c g0 => kp _ _ _ _ (kp _ _ _ _ g0 (.of s4)) t0) (kp _ _ _ _ g t0)
theorem lc_relT (kp : ∀ H H' v c, G H v c → Tk H H' → G H' v c) (hw : ∀ v, wipe ((wipe σ vs).set j (some v)) vs = wipe σ vs) (nD : H1 D = none) (hx : SqT K H1 a xs) (hz : xs.length ≤ 1000) (hl : cs.length = xs.length)
    (he : ∀ (i : Nat) (x : V) (c : α) (H : Hp), xs[i]? = some x → cs[i]? = some c → Same H1 H → ∀ q : VK, (∀ z H4, Same H H4 → G H4 z c → q z H4) → te ((wipe σ vs).set j (some x)) H q)
    (hd : ∀ H zs, Same H1 H → H D = some (.lst zs) → Paired (G H) zs cs → Qd H) : ∃ W : Nat → Nat → Hp → Prop, (∃ m, W 0 m (upd H1 D (.lst []))) ∧ ∀ i m H, W i m H →
      ((Itt K a).stop i H ∧ Qd H) ∨ ((Itt K a).go i H ∧ ∃ Nx : Hp → Prop, (∀ H', Nx H' → ∃ m', m' < m ∧ W (i + 1) m' H') ∧ ∀ v H', (Itt K a).yld i H v H' → gName j v (wipe σ vs) H' fun τ H2 => wipe τ vs = wipe σ vs ∧ tYes τ H2 fun b H3 =>
        if b = true then te τ H3 fun y H4 => ∃ acc, H4 D = some (.lst acc) ∧ acc.length < sizeLine ∧ Nx (upd H4 D (.lst (acc ++ [y]))) else Nx H3) :=
  lc_tup (fun i H => i ≤ xs.length ∧ Same H1 H ∧ ∃ zs, H D = some (.lst zs) ∧ Paired (G H) zs (cs.take i)) ⟨Nat.zero_le _, same_new nD, [], upd_same, .nil⟩ (fun i H _ p => SqT.ext hx p.2.1)
    (fun i x H hx p => rel_step kp hw nD hz hl he i x H hx p) fun H p => by
      obtain ⟨_, s, zs, eD, pz⟩ := p
      rw [← hl, List.take_length] at pz
      exact hd H zs s eD pz
theorem lc_relL (kp : ∀ H H' v c, G H v c → Tk H H' → G H' v c) (hw : ∀ v, wipe ((wipe σ vs).set j (some v)) vs = wipe σ vs) (nD : H1 D = none) (hx : SqL K H1 a xs) (hz : xs.length ≤ 1000) (hl : cs.length = xs.length)
    (he : ∀ (i : Nat) (x : V) (c : α) (H : Hp), xs[i]? = some x → cs[i]? = some c → Same H1 H → ∀ q : VK, (∀ z H4, Same H H4 → G H4 z c → q z H4) → te ((wipe σ vs).set j (some x)) H q)
    (hd : ∀ H zs, Same H1 H → H D = some (.lst zs) → Paired (G H) zs cs → Qd H) : ∃ W : Nat → Nat → Hp → Prop, (∃ m, W 0 m (upd H1 D (.lst []))) ∧ ∀ i m H, W i m H →
      ((Itl K a).stop i H ∧ Qd H) ∨ ((Itl K a).go i H ∧ ∃ Nx : Hp → Prop, (∀ H', Nx H' → ∃ m', m' < m ∧ W (i + 1) m' H') ∧ ∀ v H', (Itl K a).yld i H v H' → gName j v (wipe σ vs) H' fun τ H2 => wipe τ vs = wipe σ vs ∧ tYes τ H2 fun b H3 =>
        if b = true then te τ H3 fun y H4 => ∃ acc, H4 D = some (.lst acc) ∧ acc.length < sizeLine ∧ Nx (upd H4 D (.lst (acc ++ [y]))) else Nx H3) :=
  lc_list (fun i H => i ≤ xs.length ∧ Same H1 H ∧ ∃ zs, H D = some (.lst zs) ∧ Paired (G H) zs (cs.take i)) ⟨Nat.zero_le _, same_new nD, [], upd_same, .nil⟩ (fun i H _ p => SqL.ext hx p.2.1)
    (fun i x H hx p => rel_step kp hw nD hz hl he i x H hx p) fun H p => by
      obtain ⟨_, s, zs, eD, pz⟩ := p
      rw [← hl, List.take_length] at pz
      exact hd H zs s eD pz
end
/-! ### lists of rows of trees -/
theorem dep_rns (rs : List Rn) : (dRns rs).depth ≤ 10 := by
  have d0 : ∀ r : Rn, (dRn r).depth ≤ 6 := fun r => by
    have e := lay_ns r.2
    have := dep_all (n := 3) (ds := [PyData.str r.1, dNs r.2]) fun d hd => by
      simp only [List.mem_cons, List.not_mem_nil, or_false] at hd
      rcases hd with rfl | rfl
      · rw [PyData.depth]; omega
      · exact e.2
    unfold dRn
    rw [PyData.depth]
    omega
  have d := dep_all (n := 6) (ds := rs.map dRn) fun d hd => by
    obtain ⟨r, _, rfl⟩ := List.mem_map.mp hd
    exact d0 r
  unfold dRns
  rw [PyData.depth]
  omega
def dRnL (l : List (List Rn)) : PyData := .list (l.map dRns)
theorem eqv_rnL (a b : List (List Rn)) : PyData.eqv (dRnL a) (dRnL b) = decide (a = b) := eqvAll_map eqv_rns a b
theorem sh_rnL {l : List (List Rn)} (h : ∀ rs ∈ l, ∀ r ∈ rs, nmS r.1 = true) : SeqAt.shaped (dRnL l) = true := by
  have all : ∀ d ∈ l.map dRns, d.canLay0 = true ∧ d.depth ≤ 10 := fun d hd => by
    obtain ⟨rs, hr, rfl⟩ := List.mem_map.mp hd
    refine ⟨?_, dep_rns rs⟩
    have e := lay_rns (h rs hr)
    unfold SeqAt.shaped at e
    rw [Bool.and_eq_true] at e
    exact e.1
  have d := dep_all (n := 10) fun d hd => (all d hd).2
  unfold SeqAt.shaped
  have e2 : (dRnL l).depth ≤ 64 := by
    unfold dRnL
    rw [PyData.depth]
    omega
  rw [show (dRnL l).canLay0 = true from lay_all fun d hd => (all d hd).1, decide_eq_true e2]
  rfl
/-- rows of a tree, where a value stands -/
def RkAt (H : Hp) (v : V) (c : Tr) : Prop := ∃ R : Addr, v = .ref R ∧ RwsT H R (codes (sub c))
theorem RkAt.tk {H H' : Hp} {v : V} {c : Tr} (h : RkAt H v c) (s : Tk H H') : RkAt H' v c := by
  obtain ⟨R, e, ys, e5, p5⟩ := h
  exact ⟨R, e, ys, s _ _ e5, Paired.mapP p5 fun _ _ z => RowN.tk z s⟩
theorem dp_rkAll {K : PySem.W.Frag} {H : Hp} : ∀ {zs : List V} {cs : List Tr}, Paired (RkAt H) zs cs → DpAll K H zs ((cs.map fun c => codes (sub c)).map dRns)
  | _, _, .nil => .nil
  | _, _, .cons h t => by
    obtain ⟨R, rfl, hR⟩ := h
    exact .cons (dp_rns hR) (dp_rkAll t)
end Ks
set_option Elab.async false
set_option linter.all false
set_option maxRecDepth 100000
set_option maxHeartbeats 4000000
namespace Ks
open PySem PySem.Spec PyProof.Rows L2 Gd Kx
/-! ### the law's own reader -/
abbrev sLrd : Stmt := Kx.topS 63
abbrev nLrd : List Str := ["_law_model_here", "_law_line_here", "_law_made", "_law_table", "_law_part", "_law_words_here", "_law_numbers", "_law_row", "_law_below", "_law_word_here", "_law_number_here", "_law_tree_here"]
theorem scLrd : FnScope nLrd ["_law_model_here", "_law_line_here"] (defScope sLrd) := ⟨rfl, rfl, rfl, by decide +kernel, rfl, by decide +kernel, by decide +kernel⟩
theorem merge_no {j : Key} : ∀ (kvs acc : List (Key × V)), (∀ kv ∈ kvs, kv.1 ≠ j) → valV (mergeK acc kvs) j = valV acc j
  | [], _, _ => rfl
  | kv :: r, acc, h => by
    show valV (mergeK (putK acc kv.1 kv.2) r) j = _
    rw [merge_no r _ fun x hx => h x (List.mem_cons_of_mem _ hx), valV_put, if_neg fun e => h kv (List.mem_cons_self ..) e.symm]
theorem merge_at {j : Key} {v : V} : ∀ (kvs acc : List (Key × V)) (i : Nat), (kvs.map (·.1)).Nodup → kvs[i]? = some (j, v) → valV (mergeK acc kvs) j = some v
  | [], _, _, _, h => by simp at h
  | kv :: r, acc, 0, nd, h => by
    obtain rfl : kv = (j, v) := Option.some.inj h
    rw [List.map_cons, List.nodup_cons] at nd
    show valV (mergeK (putK acc j v) r) j = _
    rw [merge_no r _ fun x hx e => nd.1 (List.mem_map.mpr ⟨x, hx, e⟩), valV_put, if_pos rfl]
  | kv :: r, acc, i + 1, nd, h => by
    rw [List.map_cons, List.nodup_cons] at nd
    exact merge_at r _ i nd.2 (by simpa using h)
/-- a part of a tree's text -/
theorem rd_step {m : Md} (g : Good m) {t : Tr} (ok : t.Ok m) {z p : Str} (e : stT t = z) (l : (sub t).length ≤ 41) {i : Nat} (hp : (cutS z "; ")[i]? = some p) :
    ∃ u, (sub t)[i]? = some u ∧ i < (sub t).length ∧ (codes (sub t))[i]? = some (code (sub t) u) ∧ cutS p " " = u.row.1 :: (code (sub t) u).2.map nsS ∧ ((cutS p " ").drop 1).map nofW = (code (sub t) u).2.map (fun k => ((k : Nat) : Int)) ∧ ∀ k ∈ (code (sub t) u).2, k < i := by
  rw [← e, cut_stT g ok, List.getElem?_map] at hp
  cases er : (codes (sub t))[i]? with
  | none => rw [er] at hp; cases hp
  | some r =>
    rw [er] at hp
    cases hp
    have hi : i < (sub t).length := by
      have := (List.getElem?_eq_some_iff.mp er).1
      rwa [codes_len] at this
    have eu : (sub t)[i]? = some ((sub t)[i]) := List.getElem?_eq_getElem hi
    have ec := codes_at eu
    rw [er] at ec
    have ec' := Option.some.inj ec
    subst ec'
    have nm : nmS (code (sub t) (sub t)[i]).1 = true := codes_nm g (sub_ok ok) _ (List.mem_of_getElem? er)
    have lt : ∀ k ∈ (code (sub t) (sub t)[i]).2, k < i := fun k hk => by
      obtain ⟨q, hq⟩ := List.getElem?_of_mem hk
      have b := (bld_codes (m := m) (sub_ord t) (sub_ok ok)).at_ i _ _ er eu
      have hq2 := (List.getElem?_eq_some_iff.mp hq).1
      rw [b.2.1] at hq2
      exact (b.2.2 q k _ hq (List.getElem?_eq_getElem hq2)).1
    refine ⟨_, eu, hi, rfl, cut_row nm, ?_, lt⟩
    rw [cut_row nm, List.drop_succ_cons, List.drop_zero, List.map_map]
    refine List.map_congr_left fun k hk => ?_
    have := lt k hk
    exact nof_ns ⟨k, by omega⟩
theorem none_back {H H' : Hp} {a : Addr} (s : Same H H') (n : H' a = none) : H a = none := by
  cases e : H a with
  | none => rfl
  | some o => rw [s _ _ e] at n; cases n
/-- a list of texts as data -/
def dLs (ss : List Str) : PyData := .list (ss.map .str)
theorem eqv_ls (a b : List Str) : PyData.eqv (dLs a) (dLs b) = decide (a = b) := eqvAll_map eqv_str a b
theorem sh_ls {zs : List Str} (h : ∀ z ∈ zs, nmS z = true) : SeqAt.shaped (dLs zs) = true := by
  obtain ⟨h1, h2⟩ := lay_ss h
  have e1 : (dLs zs).canLay0 = (dSs zs).canLay0 := by
    unfold dLs dSs
    rw [PyData.canLay0, PyData.canLay0]
  have e2 : (dLs zs).depth = (dSs zs).depth := by
    unfold dLs dSs
    rw [PyData.depth, PyData.depth]
  unfold SeqAt.shaped
  rw [e1, e2, h1, decide_eq_true (by omega)]
  rfl
theorem dp_ls {K : PySem.W.Frag} {H : Hp} {a : Addr} {ss : List Str} (h : SqL K H a (ss.map V.str)) : Dp K H (.ref a) (dLs ss) := .lst h (dp_strs ss)
def t00 : Tr := Tr.mk ("", "", []) []
/-- the pairs of a table -/
abbrev PrG : Hp → V → (Str × V) → Prop := fun H z c => ∃ p : Addr, z = .ref p ∧ H p = some (.tup [.str c.1, c.2])
theorem prs_of {K : PySem.W.Frag} {H : Hp} : ∀ {zs : List V} {cs : List (Str × V)}, Paired (PrG H) zs cs → ∃ ps : List Addr, zs = ps.map V.ref ∧ Paired (fun p (kv : Key × V) => SqT K H p [kV kv.1, kv.2]) ps (cs.map fun c => ((Sum.inr c.1 : Key), c.2))
  | _, _, .nil => ⟨[], rfl, .nil⟩
  | _, _, .cons ⟨p, e, h⟩ t => by
    obtain ⟨ps, e2, h2⟩ := prs_of (K := K) t
    exact ⟨p :: ps, by rw [e, e2]; rfl, .cons (SqT.of h) h2⟩
def tabC (rs : List Rw) (xs : List V) : List (Str × V) := List.zipWith (fun r x => (r.1, x)) rs xs
def tabK (rs : List Rw) (xs : List V) : List (Key × V) := mergeK [] ((tabC rs xs).map fun c => ((Sum.inr c.1 : Key), c.2))
theorem tab_keys {rs : List Rw} {xs : List V} (h : xs.length = rs.length) : ((tabC rs xs).map fun c => ((Sum.inr c.1 : Key), c.2)).map (·.1) = (rs.map (·.1)).map (Sum.inr : Str → Key) := by
  unfold tabC
  rw [List.map_map, List.map_zipWith, List.map_map]
  refine List.ext_getElem? fun i => ?_
  rw [List.getElem?_zipWith, List.getElem?_map]
  cases er : rs[i]? with
  | none => rfl
  | some r =>
    have := (List.getElem?_eq_some_iff.mp er).1
    rw [List.getElem?_eq_getElem (by omega)]
    rfl
theorem tab_no {rs : List Rw} {xs : List V} {z : Str} (hl : xs.length = rs.length) (h : z ∉ rs.map (·.1)) : valV (tabK rs xs) (Sum.inr z) = none := by
  refine merge_no _ _ fun kv hk e => h ?_
  have hm : kv.1 ∈ (rs.map (·.1)).map (Sum.inr : Str → Key) := by
    rw [← tab_keys hl]
    exact List.mem_map.mpr ⟨kv, hk, rfl⟩
  obtain ⟨y, hy, ey⟩ := List.mem_map.mp hm
  rw [e] at ey
  have : y = z := by injection ey
  rw [← this]
  exact hy
theorem tab_at {rs : List Rw} {xs : List V} {w : Rw} {x : V} {pl : Nat} (nd : (rs.map (·.1)).Nodup) (hl : xs.length = rs.length) (h : rs[pl]? = some w) (hx : xs[pl]? = some x) : valV (tabK rs xs) (Sum.inr w.1) = some x := by
  refine merge_at _ _ pl ?_ ?_
  · rw [tab_keys hl]
    exact List.pairwise_map.mpr (List.Pairwise.imp (fun ne e => ne (by injection e)) nd)
  · unfold tabC
    rw [List.getElem?_map, List.getElem?_zipWith, h, hx]
    rfl
theorem bld_dep {m : Md} {rs : List Rn} {ts : List Tr} (b : Bld m rs ts) : ∀ (n i : Nat) (t : Tr), i ≤ n → ts[i]? = some t → t.dep ≤ i + 1 := by
  intro n
  induction n with
  | zero =>
    intro i t hi ht
    obtain rfl : i = 0 := by omega
    have l0 := (List.getElem?_eq_some_iff.mp ht).1
    obtain ⟨r, er⟩ : ∃ r, rs[0]? = some r := ⟨_, List.getElem?_eq_getElem (by rw [b.len]; exact l0)⟩
    obtain ⟨_, k1, q1⟩ := b.at_ 0 r t er ht
    have z1 : t.kids = [] := by
      cases ek : t.kids with
      | nil => rfl
      | cons x xs =>
        rw [ek, List.length_cons] at k1
        obtain ⟨n, en⟩ : ∃ n, r.2[0]? = some n := ⟨_, List.getElem?_eq_getElem (by omega)⟩
        exact absurd (q1 0 n x en (by rw [ek]; rfl)).1 (Nat.not_lt_zero _)
    cases t <;> simp [Tr.kids] at z1 <;> simp [Tr.dep]
  | succ n ih =>
    intro i t hi ht
    have l0 := (List.getElem?_eq_some_iff.mp ht).1
    obtain ⟨r, er⟩ : ∃ r, rs[i]? = some r := ⟨_, List.getElem?_eq_getElem (by rw [b.len]; exact l0)⟩
    obtain ⟨_, k1, q1⟩ := b.at_ i r t er ht
    have hk : ∀ c ∈ t.kids, c.dep ≤ i := fun c hc => by
      obtain ⟨j, hj⟩ := List.getElem?_of_mem hc
      have lj := (List.getElem?_eq_some_iff.mp hj).1
      obtain ⟨nn, en⟩ : ∃ n, r.2[j]? = some n := ⟨_, List.getElem?_eq_getElem (by omega)⟩
      obtain ⟨h1, h2⟩ := q1 j nn c en hj
      have := ih nn c (by omega) h2
      omega
    have h0 := dep_mk (r := t.row) (cs := t.kids) (d := ((i + 1 : Nat) : Int)) (by omega) t.kids3 fun c hc => by
      have := hk c hc
      omega
    rw [Tr.mk_self] at h0
    omega
theorem bld_app {m : Md} {rs : List Rn} {ts : List Tr} {r : Rn} {t : Tr} (b : Bld m rs ts) (ok : t.Ok m) (e : t.row.1 = r.1) (l : r.2.length = t.kids.length) (k : ∀ (j n : Nat) (c : Tr), r.2[j]? = some n → t.kids[j]? = some c → n < ts.length ∧ ts[n]? = some c) : Bld m (rs ++ [r]) (ts ++ [t]) := by
  have bl := b.len
  refine ⟨by rw [List.length_append, List.length_append, b.len]; rfl, fun u hu => ?_, fun i r' t' er et => ?_⟩
  · rcases List.mem_append.mp hu with h | h
    · exact b.ok u h
    · rw [List.mem_singleton.mp h]
      exact ok
  · by_cases hi : i < ts.length
    · rw [List.getElem?_append_left (by omega)] at er
      rw [List.getElem?_append_left hi] at et
      obtain ⟨a1, a2, a3⟩ := b.at_ i r' t' er et
      refine ⟨a1, a2, fun j n c e1 e2 => ?_⟩
      obtain ⟨c1, c2⟩ := a3 j n c e1 e2
      exact ⟨c1, by rw [List.getElem?_append_left (by omega)]; exact c2⟩
    · have hl := (List.getElem?_eq_some_iff.mp et).1
      rw [List.length_append, List.length_singleton] at hl
      have ei : i = ts.length := by omega
      subst ei
      rw [List.getElem?_append_right (by omega), bl, Nat.sub_self] at er
      rw [List.getElem?_append_right (by omega), Nat.sub_self] at et
      cases er
      cases et
      refine ⟨e, l, fun j n c e1 e2 => ?_⟩
      obtain ⟨c1, c2⟩ := k j n c e1 e2
      exact ⟨c1, by rw [List.getElem?_append_left c1]; exact c2⟩
section
variable {P : Program} {w : World} {K : PySem.W.Frag} {mg : Str → Option Value} {base : Heap}
def spLrd : Sp := fun vs H Q _ => ∃ (M : Addr) (m : Md) (z : Str), vs = [.ref M, .str z] ∧ MdAt H M m ∧ Good m ∧ z.length ≤ 100000 ∧ (∀ p ∈ cutS z "; ", p.length ≤ 900) ∧ (cutS z "; ").length ≤ 41 ∧
  ((∀ t : Tr, t.Ok m → stT t ≠ z) → ∀ A H', Same H H' → H' A = some (.lst []) → Q (.ref A) H') ∧
  ∀ t : Tr, t.Ok m → (sub t).length ≤ 41 → t.dep ≤ 41 → stT t = z → ∀ A y H', Same H H' → LtAt H' y t → H' A = some (.lst [y]) → Q (.ref A) H'
set_option maxHeartbeats 16000000 in
theorem ok_lrd {f fn fl fo : Addr} {fd dn dl do' : FuncData} (F : Fun K "_law_read" "_law_read" sLrd f fd) (T : TS0 mg) (nd : mg "dict" = none) (ml : mg "list" = none)
    (GN : FnOk P w K mg base CX0 1 fn dn ["_law_word_here"] spNof) (kn : PySem.W.keepIn K (.ref fn) = true) (bN : Binds K dn ["_law_word_here"] []) (gN : mg "_law_number_of" = some (.ref fn))
    (GL : FnOk P w K mg base CX0 1 fl dl ["_law_rows_here"] spLin) (kl : PySem.W.keepIn K (.ref fl) = true) (bL : Binds K dl ["_law_rows_here"] []) (gL : mg "_law_line" = some (.ref fl))
    (GR : FnOk P w K mg base CX0 43 fo do' ["_law_tree_here"] (spRo 41)) (kr : PySem.W.keepIn K (.ref fo) = true) (bR : Binds K do' ["_law_tree_here"] []) (gR : mg "_law_rows_of" = some (.ref fo)) :
    FnOk P w K mg base CX0 44 f fd ["_law_model_here", "_law_line_here"] spLrd := by
  refine F.ok scLrd (fun vs H Q E h => ?_) (fun cv A ou s H vs Q E hr h => ?_)
  · obtain ⟨M, m, z, rfl, _⟩ := h
    rfl
  obtain ⟨M, m, z, rfl, hM, g, hz, hp9, h41, q0, q1⟩ := h
  have hr1 : Room 1 (A.deeper (envOfC "_law_read" (defScope sLrd) s.heap.objs.size f cv)) := hr.mono (by decide)
  have hu := hr.units
  have hu0 := hu_of hr
  refine ⟨_, pss_cons (ps_asg (pe_tup (pa_cons (pe_lst pa_nil) (pa_cons (pe_callTy (call_dictP rfl) (by rfl) nd (by decide +kernel) (pa_cons (pe_lc (own := [("_law_row", 7)]) (g := gName 7) (tt := tYes) (by rfl) scLrd.nd (pi_tup (pe_ix ix_tup (pv 0) pe_int (fun _ _ => rfl))) (blkOk_by (own := [("_law_row", 7)]) (N := nLrd) (sc := defScope sLrd) (by decide +kernel))
          (fun _ _ _ _ _ => pg_name (i := 7) scLrd.nd rfl (Or.inl rfl)) (fun _ _ _ _ _ => pts_nil) (fun _ _ _ _ _ => asTE (te := tTup (tCons (tOp (rIxT K) (tVar 7) (tC (.int 0))) (tCons (tVar 7) tNil))) (pe_tup (pa_cons (pe_ix ix_tup (pv 7) pe_int (fun _ _ => rfl)) (pa_cons (pv 7) pa_nil))) rfl)) pa_nil)) pa_nil))) (pg_tup rfl (pgs_cons (pg_name (i := 2) scLrd.nd rfl (.inr rfl)) (pgs_cons (pg_name (i := 3) scLrd.nd rfl (.inl rfl)) pgs_nil))))
    (pss_cons (ps_for PassesOwn.never rfl (pi_list (pe_split (pv 1) pe_str)) (pg_name (i := 4) scLrd.nd rfl (.inl rfl))
      (pss_cons (ps_set (i := 5) scLrd.nd rfl (.inl rfl) (pe_split (pv 4) pe_str))
      (pss_cons (ps_setLc (i := 6) (own := [("_law_word_here", 9)]) (g := gName 9) (tt := tYes) (by rfl) scLrd.nd rfl rfl (sw_true rfl rfl rfl (by decide +kernel)) (pi_list (pe_slice sl_list (pv 5) (po_some pe_int) po_none)) (blkOk_by (own := [("_law_word_here", 9)]) (N := nLrd) (sc := defScope sLrd) (by decide +kernel))
          (fun _ _ _ _ _ => pg_name (i := 9) scLrd.nd rfl (Or.inl rfl)) (fun _ _ _ _ _ => pts_nil) (fun _ _ _ _ _ => asTE (te := tCall spNof [] E0 (tCons (tVar 9) tNil)) (pe_call GN hr1 (by rfl) gN kn bN .nil pass0 (pa_cons (pv 9) pa_nil)) rfl))
      (pss_cons (ps_if (PW.pt (pw_or (pt_cmp (pc_dnotin hu0 (pe_ix ix_list (pv 5) pe_int (fun _ _ => rfl)) (pv 3))) (pw_or1 (pt_not (pt_val (pe_callB (cr_all rfl) (by rfl) T.all boot_all (pa_cons (pe_lc (own := [("_law_number_here", 10)]) (g := gName 10) (tt := tYes) (by rfl) scLrd.nd (pi_list (pv 6)) (blkOk_by (own := [("_law_number_here", 10)]) (N := nLrd) (sc := defScope sLrd) (by decide +kernel))
          (fun _ _ _ _ _ => pg_name (i := 10) scLrd.nd rfl (Or.inl rfl)) (fun _ _ _ _ _ => pts_nil) (fun _ _ _ _ _ => asTE (te := tChain (rI0 fun i j => .bl (decide (i ≤ j))) (rI0 fun i j => .bl (decide (i < j))) (tC (.int 0)) (tVar 10) (tCB (fun xs H Q => ∃ p ys, xs = [V.ref p] ∧ (SqL K H p ys ∨ SqT K H p ys) ∧ Q (V.int ((ys.length : Nat) : Int)) H) (tCons (tVar 2) tNil))) (pe_chain op_le op_lt pe_int (pv 10) (pe_callB call_len_seq (by rfl) T.len PySem.boot_len (pa_cons (pv 2) pa_nil))) rfl)) pa_nil))))))) (pss_one (ps_ret (pe_lst pa_nil))) pss_nil)
      (pss_cons (ps_par (i := 7) (j := 8) (by rfl) scLrd.nd rfl rfl (by decide) rfl rfl (pa_cons (pe_dget hu0 (pv 3) (pe_ix ix_list (pv 5) pe_int (fun _ _ => rfl)) (fun _ _ => rfl)) (pa_cons (pe_lc (own := [("_law_number_here", 10)]) (g := gName 10) (tt := tYes) (by rfl) scLrd.nd (pi_list (pv 6)) (blkOk_by (own := [("_law_number_here", 10)]) (N := nLrd) (sc := defScope sLrd) (by decide +kernel))
          (fun _ _ _ _ _ => pg_name (i := 10) scLrd.nd rfl (Or.inl rfl)) (fun _ _ _ _ _ => pts_nil) (fun _ _ _ _ _ => asTE (te := tOp (rIxL K) (tVar 2) (tVar 10)) (pe_ix ix_list (pv 2) (pv 10) (fun _ _ => rfl)) rfl)) pa_nil)) (by rfl))
      (pss_cons (ps_if (PW.pt (pw_or (pt_cmpR (op_neD hu) (pe_lc (own := [("_law_tree_here", 11)]) (g := gName 11) (tt := tYes) (by rfl) scLrd.nd (pi_list (pv 8)) (blkOk_by (own := [("_law_tree_here", 11)]) (N := nLrd) (sc := defScope sLrd) (by decide +kernel))
          (fun _ _ _ _ _ => pg_name (i := 11) scLrd.nd rfl (Or.inl rfl)) (fun _ _ _ _ _ => pts_nil) (fun _ _ _ _ _ => asTE (te := tOp (rIxT K) (tOp (rIxT K) (tVar 11) (tC (.int 0))) (tC (.int 1))) (pe_ix ix_tup (pe_ix ix_tup (pv 11) pe_int (fun _ _ => rfl)) pe_int (fun _ _ => rfl)) rfl)) (pe_callTy call_list_of (by rfl) ml boot_list (pa_cons (pe_ix ix_tup (pv 7) pe_int (fun _ _ => rfl)) pa_nil)) (nomark _))
          (pw_or1 (pt_cmpR op_gt (pe_callB call_len_seq (by rfl) T.len PySem.boot_len (pa_cons (pv 2) pa_nil)) pe_int (nomark _))))) (pss_one (ps_ret (pe_lst pa_nil))) pss_nil)
      (pss_one (ps_expr (pe_bm PySem.F.plainAttrs_list PySem.F.slot_list_append PySem.F.type_list_append mt_append (pv 2) (pa_cons (pe_tup (pa_cons (pv 7) (pa_cons (pe_tupleOf (by rfl) T.tup (pv 8)) pa_nil))) pa_nil))))))))))
    (pss_one (ps_ret (pe_ifExp (pt_cmpR op_eq (pe_call GL hr1 (by rfl) gL kl bL .nil pass0 (pa_cons (pe_call GR hr (by rfl) gR kr bR .nil pass0 (pa_cons (pe_ix ix_list (pv 2) (pe_un un_neg pe_int) (fun _ _ => rfl)) pa_nil)) pa_nil)) (pv 1) (nomark _)) (pe_lst (pa_cons (pe_ix ix_list (pv 2) (pe_un un_neg pe_int) (fun _ _ => rfl)) pa_nil)) (pe_lst pa_nil))))), ?_⟩
  obtain ⟨kA, R, eM, hK, xsR, hR, pR⟩ := hM
  have lxr : xsR.length = m.rs.length := Paired.length pR
  have r6 := g.r6
  have sz := sizeLine_eq
  refine ⟨(by show 0 ≤ sizeLine; exact Nat.zero_le _), fun L nL => ?_⟩
  have sL := same_new (o := .lst []) nL
  refine ⟨.ref M, rfl, M, _, _, .ref R, rfl, rfl, SqT.of (sL _ _ eM), rfl, R, rfl, ⟨_, (hR.keep sL).sq⟩, fun D nD => lc_relT (K := K) (cs := tabC m.rs xsR) (G := PrG) (fun _ _ _ _ h s => by obtain ⟨p, e1, e2⟩ := h; exact ⟨p, e1, s _ _ e2⟩) (fun _ => rfl) nD (hR.keep sL).sq (by omega) (by unfold tabC; rw [List.length_zipWith]; omega) (fun i x c H2 hx hc s2 pq => ?_) (fun H2 zs s2 eD pz => ?_)⟩
  · obtain ⟨r, er, hrow⟩ := par_at pR hx
    unfold tabC at hc
    rw [List.getElem?_zipWith, er, hx] at hc
    cases hc
    obtain ⟨b, fa, rfl, hb, _⟩ := hrow.keep (sL.trans s2)
    intro kk
    exact ⟨.ref b, rfl, b, _, _, .str r.1, rfl, rfl, SqT.of hb, rfl, .ref b, rfl, (by show 2 ≤ sizeLine; decide), fun T1 nT => kk (.ref T1) _ (same_new nT) ⟨T1, rfl, upd_same⟩⟩
  obtain ⟨ps, ez, hps⟩ := prs_of (K := K) pz
  refine ⟨D, ps, _, rfl, SqL.of (by rw [eD, ez]), hps, fun TB nTB => ?_⟩
  have sTB := same_new (o := .dK (tabK m.rs xsR)) nTB
  refine ⟨(by show 2 ≤ sizeLine; decide), fun T2 nT2 => ⟨T2, _, rfl, SqT.of upd_same, rfl, _, _, rfl, _, _, rfl, rfl, ?_⟩⟩
  have sT2 := same_new (o := .tup [.ref L, .ref TB]) nT2
  have s02 := s2.trans (sTB.trans sT2)
  have s0 := sL.trans s02
  have LT : L ≠ TB := ne_of_none (s2 _ _ upd_same) nTB
  refine ⟨.str z, rfl, ⟨z, rfl⟩, z, "; ", rfl, rfl, by decide +kernel, by omega, fun Lp nLp => ?_⟩
  have sLp := same_new (o := .lst ((Txt.split z "; ").map V.str)) nLp
  have LLp : L ≠ Lp := ne_of_none (s02 _ _ upd_same) nLp
  have nLpH : H Lp = none := none_back s0 nLp
  refine ⟨Lp, rfl, ⟨_, SqL.of upd_same⟩, for_list (K := K) (a := Lp) (xs := (cutS z "; ").map V.str) (fun i σ H' => ∃ (o4 o5 o6 o7 o8 : Option V) (xs : List V) (rs : List Rn) (ts : List Tr), σ = [some (.ref M), some (.str z), some (.ref L), some (.ref TB), o4, o5, o6, o7, o8, none, none, none] ∧ Same H H' ∧ H' Lp = some (.lst ((cutS z "; ").map V.str)) ∧ H' L = some (.lst xs) ∧ H' TB = some (.dK (tabK m.rs xsR)) ∧
      xs.length = ts.length ∧ (∀ (j : Nat) (x : V) (t : Tr), xs[j]? = some x → ts[j]? = some t → LtAt H' x t) ∧ Bld m rs ts ∧ ts.length = i ∧ ∀ t : Tr, t.Ok m → stT t = z → rs = (codes (sub t)).take i)
    ⟨none, none, none, none, none, [], [], [], rfl, s0.trans sLp, upd_same, (s02.trans sLp) _ _ upd_same, sLp _ _ (sT2 _ _ upd_same), rfl, fun j x t e _ => by simp at e, ⟨rfl, fun t ht => (by cases ht), fun i r t e _ => by simp at e⟩, rfl, fun _ _ _ => rfl⟩ (fun i σ H' _ pp => ?_) ?_ ?_⟩
  · obtain ⟨_, _, _, _, _, _, _, _, _, _, e, _⟩ := pp
    exact SqL.of e
  · rintro i x σ H1 hx ⟨o4, o5, o6, o7, o8, xs, rs, ts, rfl, s1, eLp, eL, eTB, lxt, hlt, bd, li, own⟩
    rw [List.getElem?_map] at hx
    cases ep : (cutS z "; ")[i]? with
    | none => rw [ep] at hx; cases hx
    | some p =>
    rw [ep] at hx
    cases hx
    have hp := hp9 p (List.mem_of_getElem? ep)
    have hi := (List.getElem?_eq_some_iff.mp ep).1
    have lw := PyProof.Rows.split_le p " "
    -- what a tree with this text tells here
    have key : ∀ t : Tr, t.Ok m → stT t = z → ∃ u, (sub t)[i]? = some u ∧ i < (sub t).length ∧ (codes (sub t))[i]? = some (code (sub t) u) ∧ cutS p " " = u.row.1 :: (code (sub t) u).2.map nsS ∧ ((cutS p " ").drop 1).map nofW = (code (sub t) u).2.map (fun k => ((k : Nat) : Int)) ∧ (∀ k ∈ (code (sub t) u).2, k < i) ∧ ts = (sub t).take i := fun t ok e => by
      have l41 : (sub t).length ≤ 41 := by
        have h := cut_stT g ok
        rw [e] at h
        rw [h, List.length_map, codes_len] at h41
        exact h41
      obtain ⟨u, a1, a2, a3, a4, a5, a6⟩ := rd_step g ok e l41 ep
      refine ⟨u, a1, a2, a3, a4, a5, a6, ?_⟩
      have er := own t ok e
      rw [← codes_take (sub_ord t) i] at er
      have b2 : Bld m (codes ((sub t).take i)) ((sub t).take i) := bld_codes (ord_take (sub_ord t) i) fun u hu => sub_ok ok u (List.mem_of_mem_take hu)
      rw [← er] at b2
      exact bld_inj g bd b2
    refine ⟨.str p, rfl, ⟨p, rfl⟩, p, " ", rfl, rfl, by decide +kernel, by omega, fun Wd nW => ?_⟩
    have sW := same_new (o := .lst ((Txt.split p " ").map V.str)) nW
    have wne : cutS p " " ≠ [] := cut_ne (by decide +kernel) (by decide +kernel)
    obtain ⟨nm, wr, ew⟩ : ∃ nm wr, cutS p " " = nm :: wr := by
      cases hc : cutS p " " with
      | nil => exact absurd hc wne
      | cons a r => exact ⟨a, r, rfl⟩
    have ew' : Txt.split p " " = nm :: wr := ew
    have lwr : wr.length ≤ 902 := by
      rw [ew', List.length_cons] at lw
      omega
    have nml : nm.length ≤ 900 := by
      have := cut_len (z := p) (y := " ") (p := nm) (by decide +kernel) (by decide +kernel) (by rw [ew]; exact List.mem_cons_self ..)
      omega
    rw [ew'] at sW ⊢
    refine ⟨.ref Wd, rfl, _, rfl, Wd, _, rfl, SqL.of upd_same, fun c nc => ⟨c, rfl, ⟨_, SqL.of upd_same⟩, fun D2 nD2 => ?_⟩⟩
    have ed : cutV ((nm :: wr).map V.str) (some (1 : Int)) none = wr.map V.str := cut_drop (i := 1) (xs := (nm :: wr).map V.str) (by simp)
    rw [ed] at nD2 ⊢
    have sc := same_new (o := .lst (wr.map V.str)) nc
    refine lc_funL (K := K) (te := tCall spNof [] E0 (tCons (tVar 9) tNil)) (j := 9) (vs := [9]) (a := c) (xs := wr.map V.str) (ys := (wr.map nofW).map V.int) (fun _ => rfl) nD2 (SqL.of upd_same) (by rw [List.length_map]; omega) (by rw [List.length_map, List.length_map, List.length_map]) (fun k x y H3 hx hy s3 q3 => ?_) fun H3 s3 eD => ?_
    · intro kk
      rw [List.getElem?_map] at hx
      rw [List.getElem?_map, List.getElem?_map] at hy
      cases ew2 : wr[k]? with
      | none => rw [ew2] at hx; cases hx
      | some w0 =>
        rw [ew2] at hx hy
        cases hx
        cases hy
        have hw : w0.length ≤ p.length := cut_len (z := p) (y := " ") (by decide +kernel) (by decide +kernel) (by rw [ew]; exact List.mem_cons_of_mem _ (List.mem_of_getElem? ew2))
        exact ⟨.str w0, rfl, w0, rfl, by omega, fun H4 s4 => kk H4 s4⟩
    have s13 := sW.trans (sc.trans s3)
    have eWd : H3 Wd = some (.lst ((nm :: wr).map V.str)) := s3 _ _ (sc _ _ upd_same)
    have eL3 := s13 _ _ eL
    have eTB3 := s13 _ _ eTB
    -- the list that says there is none
    have none_ : (∀ t : Tr, t.Ok m → stT t ≠ z) → ∀ H', Same H H' → (0 ≤ sizeLine ∧ ∀ A, H' A = none → Q (.ref A) (upd H' A (.lst []))) := fun hn H' s' => ⟨Nat.zero_le _, fun A nA => q0 hn A _ (s'.trans (same_new nA)) upd_same⟩
    refine ⟨.ref Wd, rfl, Wd, _, _, .str nm, rfl, rfl, SqL.of eWd, atI_nat (j := 0) rfl, .ref TB, rfl, TB, _, rfl, DGet.k (k := Sum.inr nm) eTB3, ?_⟩
    by_cases hm : nm ∈ m.rs.map (·.1)
    rotate_left
    · rw [tab_no lxr hm]
      refine ⟨_, rfl, iteT (none_ (fun t ok e => ?_) _ (s1.trans s13))⟩
      obtain ⟨u, a1, _, _, a4, _⟩ := key t ok e
      rw [ew] at a4
      have : nm = u.row.1 := (List.cons.inj a4).1
      rw [this] at hm
      exact hm (List.mem_map.mpr ⟨u.row, (Tr.ok_iff.mp (sub_ok ok u (List.mem_of_getElem? a1))).1, rfl⟩)
    obtain ⟨w0, pl, _, epl, en⟩ := find_row hm
    have lpl := (List.getElem?_eq_some_iff.mp epl).1
    obtain ⟨xw, exw⟩ : ∃ x, xsR[pl]? = some x := ⟨_, List.getElem?_eq_getElem (by omega)⟩
    have hval := tab_at g.rd lxr epl exw
    rw [en] at hval
    have hw0 : w0 ∈ m.rs := List.mem_of_getElem? epl
    have own_w : ∀ t : Tr, t.Ok m → ∀ u : Tr, (sub t)[i]? = some u → nm = u.row.1 → u.row = w0 := fun t ok u eu e => names_inj g.rd (Tr.ok_iff.mp (sub_ok ok u (List.mem_of_getElem? eu))).1 hw0 (by rw [← e, en])
    rw [hval]
    refine ⟨_, rfl, iteF ⟨.ref D2, rfl, D2, rfl, ⟨_, SqL.of eD⟩, fun D3 nD3 => ?_⟩⟩
    refine lc_funL (K := K) (te := tChain (rI0 fun i j => .bl (decide (i ≤ j))) (rI0 fun i j => .bl (decide (i < j))) (tC (.int 0)) (tVar 10) (tCB (fun xs H Q => ∃ p ys, xs = [V.ref p] ∧ (SqL K H p ys ∨ SqT K H p ys) ∧ Q (V.int ((ys.length : Nat) : Int)) H) (tCons (tVar 2) tNil))) (j := 10) (vs := [10]) (a := D2) (xs := (wr.map nofW).map V.int) (ys := ((wr.map nofW).map fun n => decide (0 ≤ n) && decide (n < ((xs.length : Nat) : Int))).map V.bl) (fun _ => rfl) nD3 (SqL.of eD) (by rw [List.length_map, List.length_map]; omega) (by rw [List.length_map, List.length_map, List.length_map, List.length_map, List.length_map]) (fun k x y H4 hx hy s4 q4 => ?_) fun H4 s4 eD3 => ?_
    · intro kk
      rw [List.getElem?_map] at hx
      rw [List.getElem?_map, List.getElem?_map] at hy
      cases en2 : (wr.map nofW)[k]? with
      | none => rw [en2] at hx; cases hx
      | some n =>
        rw [en2] at hx hy
        cases hx
        cases hy
        refine ⟨.int n, rfl, _, _, rfl, rfl, _, rfl, ?_⟩
        by_cases h0 : 0 ≤ n
        · rw [decide_eq_true h0]
          refine iteT ⟨.ref L, rfl, L, xs, rfl, .inl (SqL.of (s4 _ _ eL3)), _, _, rfl, rfl, ?_⟩
          have : q4 (.bl (decide (0 ≤ n) && decide (n < ((xs.length : Nat) : Int)))) H4 := kk H4 fun _ _ e => e
          rw [decide_eq_true h0, Bool.true_and] at this
          exact this
        · rw [decide_eq_false h0]
          have : q4 (.bl (decide (0 ≤ n) && decide (n < ((xs.length : Nat) : Int)))) H4 := kk H4 fun _ _ e => e
          rw [decide_eq_false h0, Bool.false_and] at this
          exact iteF this
    refine ⟨D3, _, rfl, SqL.of eD3, ?_⟩
    have s14 := s13.trans s4
    cases hall : (((wr.map nofW).map fun n => decide (0 ≤ n) && decide (n < ((xs.length : Nat) : Int))).all id) with
    | false =>
      refine ⟨_, rfl, iteT (none_ (fun t ok e => ?_) _ (s1.trans s14))⟩
      obtain ⟨u, a1, _, _, a4, a5, a6, a7⟩ := key t ok e
      rw [ew, List.drop_succ_cons, List.drop_zero] at a5
      rw [a5] at hall
      have : (((code (sub t) u).2.map fun k => ((k : Nat) : Int)).map fun n => decide (0 ≤ n) && decide (n < ((xs.length : Nat) : Int))).all id = true := by
        rw [List.all_eq_true]
        intro b hb
        obtain ⟨n, hn, rfl⟩ := List.mem_map.mp hb
        obtain ⟨k, hk, rfl⟩ := List.mem_map.mp hn
        have := a6 k hk
        rw [lxt, li]
        simp only [id_eq, Bool.and_eq_true, decide_eq_true_eq]
        omega
      rw [this] at hall
      cases hall
    | true =>
    refine ⟨_, rfl, iteF ?_⟩
    -- the numbers
    have hns : ∀ n ∈ wr.map nofW, 0 ≤ n ∧ n < ((xs.length : Nat) : Int) := fun n hn => by
      have := List.all_eq_true.mp hall _ (List.mem_map.mpr ⟨n, hn, rfl⟩)
      simpa using this
    obtain ⟨ns, ens, ltn⟩ : ∃ ns : List Nat, wr.map nofW = ns.map (fun k => ((k : Nat) : Int)) ∧ ∀ k ∈ ns, k < ts.length := by
      refine ⟨(wr.map nofW).map Int.toNat, ?_, fun k hk => ?_⟩
      · rw [List.map_map]
        conv => lhs; rw [← List.map_id (wr.map nofW)]
        refine List.map_congr_left fun n hn => ?_
        have := hns n hn
        show n = ((n.toNat : Nat) : Int)
        omega
      · obtain ⟨n, hn, rfl⟩ := List.mem_map.mp hk
        have := hns n hn
        rw [← lxt]
        omega
    have lns : ns.length = wr.length := by
      have := congrArg List.length ens
      rw [List.length_map, List.length_map] at this
      exact this.symm
    have eD4 : H4 D2 = some (.lst (nsV ns)) := by
      rw [s4 _ _ eD, ens, List.map_map]
      rfl
    have eWd4 := s4 _ _ eWd
    have eTB4 := s4 _ _ eTB3
    have eL4 := s4 _ _ eL3
    have dg : DGet H4 TB (.str nm) (some xw) := by
      have := DGet.k (k := Sum.inr nm) eTB4
      rw [hval] at this
      exact this
    have getx : ∀ (j n : Nat), ns[j]? = some n → xs[n]? = some (xs.getD n .non) ∧ ts[n]? = some (ts.getD n t00) := fun j n e => by
      have h := ltn n (List.mem_of_getElem? e)
      rw [List.getD_eq_getElem?_getD, List.getD_eq_getElem?_getD, List.getElem?_eq_getElem h, List.getElem?_eq_getElem (by omega)]
      exact ⟨rfl, rfl⟩
    refine ⟨.ref TB, rfl, .ref Wd, rfl, Wd, _, _, .str nm, rfl, rfl, SqL.of eWd4, atI_nat (j := 0) rfl, TB, xw, rfl, dg, ?_⟩
    refine ⟨.ref D2, rfl, D2, rfl, ⟨_, SqL.of eD4⟩, fun D4 nD4 => ?_⟩
    refine lc_funL (K := K) (te := tOp (rIxL K) (tVar 2) (tVar 10)) (j := 10) (vs := [10]) (a := D2) (xs := nsV ns) (ys := ns.map fun n => xs.getD n .non) (fun _ => rfl) nD4 (SqL.of eD4) (by rw [nsV_len]; omega) (by rw [List.length_map, nsV_len]) (fun k x y H5 hx hy s5 q5 => ?_) fun H5 s5 eD5 => ?_
    · intro kk
      unfold nsV at hx
      rw [List.getElem?_map] at hx hy
      cases hn : ns[k]? with
      | none => rw [hn] at hx; cases hx
      | some n =>
        rw [hn] at hx hy
        cases hx
        cases hy
        exact ⟨.ref L, rfl, .int ((n : Nat) : Int), rfl, L, _, _, _, rfl, rfl, SqL.of (s5 _ _ eL4), atI_nat (getx k n hn).1, kk H5 fun _ _ e => e⟩
    refine ⟨_, _, rfl, ?_⟩
    have s15 := s14.trans s5
    obtain ⟨bw, fw, rfl, hbw, hfw⟩ := (show ∃ b f : Addr, xw = .ref b ∧ H5 b = some (.tup [.str w0.1, .str w0.2.1, .ref f]) ∧ StT H5 f w0.2.2 from by
      obtain ⟨r, er, hr2⟩ := par_at pR exw
      rw [epl] at er
      cases er
      exact hr2.keep (s1.trans s15))
    have lts : ∀ (j : Nat) (x : V) (c : Tr), (ns.map fun n => xs.getD n .non)[j]? = some x → (ns.map fun n => ts.getD n t00)[j]? = some c → LtAt H5 x c := fun j x c ex ec => by
      rw [List.getElem?_map] at ex ec
      cases hn : ns[j]? with
      | none => rw [hn] at ex; cases ex
      | some n =>
        rw [hn] at ex ec
        cases ex
        cases ec
        exact (hlt n _ _ (getx j n hn).1 (getx j n hn).2).tk (.of s15)
    have okc : ∀ c ∈ ns.map fun n => ts.getD n t00, c.Ok m := fun c hc => by
      obtain ⟨n, hn, rfl⟩ := List.mem_map.mp hc
      obtain ⟨j, hj⟩ := List.getElem?_of_mem hn
      exact bd.ok _ (List.mem_of_getElem? (getx j n hj).2)
    refine ⟨.ref D4, rfl, D4, rfl, ⟨_, SqL.of eD5⟩, fun D5 nD5 => ?_⟩
    refine lc_funL (K := K) (te := tOp (rIxT K) (tOp (rIxT K) (tVar 11) (tC (.int 0))) (tC (.int 1))) (j := 11) (vs := [11]) (a := D4) (xs := ns.map fun n => xs.getD n .non) (ys := ((ns.map fun n => ts.getD n t00).map fun c => c.row.2.1).map V.str) (fun _ => rfl) nD5 (SqL.of eD5) (by rw [List.length_map]; omega) (by rw [List.length_map, List.length_map, List.length_map, List.length_map]) (fun k x y H6 hx hy s6 q6 => ?_) fun H6 s6 eD6 => ?_
    · intro kk
      rw [List.getElem?_map, List.getElem?_map] at hy
      cases hc : (ns.map fun n => ts.getD n t00)[k]? with
      | none => rw [hc] at hy; cases hy
      | some c =>
        rw [hc] at hy
        cases hy
        obtain ⟨b, ra, fa, qa, ys, rfl, h1, h2, _⟩ := ((lts k x c hx hc).tk (.of s6)).at
        exact ⟨.ref b, rfl, b, _, _, .ref ra, rfl, rfl, SqT.of h1, atI_nat (j := 0) rfl, ra, _, _, .str c.row.2.1, rfl, rfl, SqT.of h2, atI_nat (j := 1) rfl, kk H6 fun _ _ e => e⟩
    refine ⟨.ref bw, rfl, bw, _, _, .ref fw, rfl, rfl, SqT.of (s6 _ _ hbw), atI_nat (j := 2) rfl, fw, _, rfl, .inr (SqT.of (s6 _ _ hfw)), fun D6 nD6 => ?_⟩
    have sD6 := same_new (o := .lst (w0.2.2.map V.str)) nD6
    have s16 := s15.trans (s6.trans sD6)
    have nmk : ∀ k ∈ (ns.map fun n => ts.getD n t00).map (fun c => c.row.2.1), nmS k = true := fun k hk => by
      obtain ⟨c, hc, rfl⟩ := List.mem_map.mp hk
      exact g.kn _ (g.rk _ (Tr.ok_iff.mp (okc c hc)).1)
    have nmf : ∀ k ∈ w0.2.2, nmS k = true := fun k hk => g.kn _ (g.fk w0 hw0 k hk)
    refine ⟨dLs ((ns.map fun n => ts.getD n t00).map fun c => c.row.2.1), dLs w0.2.2, dp_ls (SqL.of (sD6 _ _ eD6)), dp_ls (SqL.of upd_same), sh_ls nmk, sh_ls nmf, _, rfl, ?_⟩
    rw [eqv_ls]
    -- the trees below are those of a tree with this text
    have own_c : ∀ t : Tr, t.Ok m → stT t = z → ∃ u, (sub t)[i]? = some u ∧ u.row = w0 ∧ ns = (code (sub t) u).2 ∧ (ns.map fun n => ts.getD n t00) = u.kids ∧ (codes (sub t))[i]? = some (code (sub t) u) ∧ i < (sub t).length := fun t ok e => by
      obtain ⟨u, a1, a2, a3, a4, a5, a6, a7⟩ := key t ok e
      rw [ew] at a4
      have e1 : nm = u.row.1 := (List.cons.inj a4).1
      rw [ew, List.drop_succ_cons, List.drop_zero, ens] at a5
      have e2 : ns = (code (sub t) u).2 := (List.map_inj_right fun a b h => by omega).mp a5
      refine ⟨u, a1, own_w t ok u a1 e1, e2, ?_, a3, a2⟩
      rw [e2]
      show (u.kids.map fun c => (sub t).idxOf c).map (fun n => ts.getD n t00) = u.kids
      rw [List.map_map]
      conv => rhs; rw [← List.map_id u.kids]
      refine List.map_congr_left fun c hc => ?_
      have hcm := (sub_ord t).mem (List.mem_of_getElem? a1) hc
      have hlt2 : (sub t).idxOf c < i := a6 _ (List.mem_map.mpr ⟨c, hc, rfl⟩)
      show ts.getD ((sub t).idxOf c) t00 = c
      rw [a7, List.getD_eq_getElem?_getD, List.getElem?_take_of_lt hlt2, idx_at hcm]
      rfl
    by_cases hk : ((ns.map fun n => ts.getD n t00).map fun c => c.row.2.1) = w0.2.2
    rotate_left
    · rw [decide_eq_false hk]
      refine iteT (none_ (fun t ok e => hk ?_) _ (s1.trans s16))
      obtain ⟨u, a1, e1, e2, e3, _⟩ := own_c t ok e
      rw [e3, ← e1]
      exact (Tr.ok_iff.mp (sub_ok ok u (List.mem_of_getElem? a1))).2.1.symm
    rw [decide_eq_true hk]
    refine iteF ⟨.ref L, rfl, L, xs, rfl, .inl (SqL.of (s16 _ _ eL)), _, _, rfl, rfl, _, rfl, ?_⟩
    by_cases h40 : xs.length > 40
    · rw [decide_eq_true (show ((xs.length : Nat) : Int) > 40 by omega)]
      refine iteT (none_ (fun t ok e => ?_) _ (s1.trans s16))
      have h := cut_stT g ok
      rw [e] at h
      rw [h, List.length_map, codes_len] at h41
      obtain ⟨u, _, _, _, _, _, a2⟩ := own_c t ok e
      omega
    rw [decide_eq_false (show ¬ ((xs.length : Nat) : Int) > 40 by omega)]
    have eL6 := s16 _ _ eL
    refine iteF ⟨.ref L, rfl, .inl ⟨rfl, _, SqL.of eL6⟩, .ref bw, rfl, .ref D4, rfl, .inl ⟨D4, _, rfl, SqL.of (sD6 _ _ (s6 _ _ eD5)), fun T1 nT1 => ⟨(by show 2 ≤ sizeLine; decide), fun T3 nT3 => ?_⟩⟩⟩
    have sT := (same_new (o := .tup (ns.map fun n => xs.getD n .non)) nT1).trans (same_new (o := .tup [.ref bw, .ref T1]) nT3)
    have s17 := s16.trans sT
    have eL7 := sT _ _ eL6
    have nl := Nl.upd (ys := xs ++ [V.ref T3]) eL7
    have l3 : (ns.map fun n => ts.getD n t00).length ≤ 3 := by
      have := congrArg List.length hk
      rw [List.length_map] at this
      rw [this]
      exact g.f3 w0 hw0
    have okn : (Tr.mk w0 (ns.map fun n => ts.getD n t00)).Ok m := Tr.ok_iff.mpr ⟨by rw [Tr.mk_row]; exact hw0, by rw [Tr.mk_row, Tr.mk_kids _ l3]; exact hk.symm, by rw [Tr.mk_kids _ l3]; exact okc⟩
    refine ⟨L, _, _, rfl, rfl, eL7, small1000 (by omega), some (.str p), some (.ref Wd), some (.ref D2), some (.ref bw), some (.ref D4), xs ++ [.ref T3], rs ++ [(nm, ns)], ts ++ [Tr.mk w0 (ns.map fun n => ts.getD n t00)], rfl, same_upd (s1.trans s17) nL, by rw [upd_ne (Ne.symm LLp)]; exact s17 _ _ eLp, upd_same, by rw [upd_ne (Ne.symm LT)]; exact s17 _ _ eTB, by rw [List.length_append, List.length_append, lxt]; rfl, ?_, ?_, by rw [List.length_append, li]; rfl, ?_⟩
    · intro j x c ex ec
      by_cases hj : j < ts.length
      · rw [List.getElem?_append_left (by omega)] at ex
        rw [List.getElem?_append_left hj] at ec
        exact (hlt j x c ex ec).tk ((Tk.of s17).trans nl.tk)
      · have hl := (List.getElem?_eq_some_iff.mp ec).1
        rw [List.length_append, List.length_singleton] at hl
        have ej : j = ts.length := by omega
        subst ej
        rw [List.getElem?_append_right (by omega), lxt, Nat.sub_self] at ex
        rw [List.getElem?_append_right (by omega), Nat.sub_self] at ec
        cases ex
        cases ec
        have n5 : Tk H5 (upd _ L (.lst (xs ++ [V.ref T3]))) := (Tk.of ((s6.trans sD6).trans sT)).trans nl.tk
        refine LtAt.mk (xs := ns.map fun n => xs.getD n .non) (nl.tk _ _ upd_same) ?_ (nl.tk _ _ (same_new nT3 _ _ upd_same)) (by rw [Tr.mk_kids _ l3, List.length_map, List.length_map]) fun q x c ex ec => ?_
        · rw [Tr.mk_row]
          exact ⟨bw, fw, rfl, n5 _ _ hbw, n5 _ _ hfw⟩
        · rw [Tr.mk_kids _ l3] at ec
          exact (lts q x c ex ec).tk n5
    · refine bld_app bd okn (by rw [Tr.mk_row]; exact en) (by rw [Tr.mk_kids _ l3, List.length_map]) fun j n c e1 e2 => ?_
      rw [Tr.mk_kids _ l3, List.getElem?_map] at e2
      rw [e1] at e2
      cases e2
      exact ⟨ltn n (List.mem_of_getElem? e1), (getx j n e1).2⟩
    · intro t ok e
      obtain ⟨u, a1, e1, e2, e3, e4, a2⟩ := own_c t ok e
      rw [own t ok e, List.take_add_one, e4]
      show _ = _ ++ [code (sub t) u]
      rw [show code (sub t) u = (nm, ns) from Prod.ext (by show u.row.1 = nm; rw [e1]; exact en) e2.symm]
  · rintro σ H1 ⟨o4, o5, o6, o7, o8, xs, rs, ts, rfl, s1, eLp, eL, eTB, lxt, hlt, bd, li, own⟩
    rw [List.length_map] at li own
    have pne : cutS z "; " ≠ [] := cut_ne (by decide +kernel) (by decide +kernel)
    have p0 : 1 ≤ (cutS z "; ").length := List.length_pos_iff.mpr pne
    have hl : ts.length - 1 < ts.length := by omega
    have et : ts[ts.length - 1]? = some ts[ts.length - 1] := List.getElem?_eq_getElem hl
    have ex : xs[xs.length - 1]? = some (xs[xs.length - 1]'(by omega)) := List.getElem?_eq_getElem _
    have ex' : xs[ts.length - 1]? = some (xs[xs.length - 1]'(by omega)) := by rw [← lxt]; exact ex
    have lt := hlt _ _ _ ex' et
    have okt := bd.ok _ (List.mem_of_getElem? et)
    have dt := bld_dep bd (ts.length - 1) (ts.length - 1) _ (Nat.le_refl _) et
    have sl := bd.sub_len et
    have at1 : atI xs (-1) = some (xs[xs.length - 1]'(by omega)) := last_at (n := xs.length) rfl ex
    refine ⟨.ref L, rfl, _, rfl, L, _, _, _, rfl, rfl, SqL.of eL, at1, ?_⟩
    refine ⟨_, ts[ts.length - 1], m, rfl, lt, by omega, okt, g, by omega, fun R2 H2 s2 hR2 => ?_⟩
    refine ⟨R2, _, rfl, hR2, by rw [codes_len]; omega, fun r hr => ⟨(nm_len (codes_nm g (sub_ok okt) r hr)).2, ?_, fun k hk => ?_⟩, fun H3 s3 => ?_⟩
    · obtain ⟨u, hu, rfl⟩ := List.mem_map.mp hr
      show (u.kids.map _).length ≤ 3
      rw [List.length_map]
      exact u.kids3
    · have := codes_lt _ r hr k hk
      omega
    have s13 := s2.trans s3
    have eL3 := s13 _ _ eL
    refine ⟨.str z, rfl, rfl, _, rfl, ?_⟩
    rw [← stT_line]
    by_cases ez : stT ts[ts.length - 1] = z
    · rw [show decide (V.str (stT ts[ts.length - 1]) = V.str z) = true by rw [ez]; simp]
      refine iteT ⟨.ref L, rfl, _, rfl, L, _, _, _, rfl, rfl, SqL.of eL3, at1, (by show 1 ≤ sizeLine; decide), fun A nA => ?_⟩
      exact q1 _ okt (by omega) (by omega) ez A _ _ ((s1.trans s13).trans (same_new nA)) (lt.tk (.of (s13.trans (same_new nA)))) upd_same
    · rw [show decide (V.str (stT ts[ts.length - 1]) = V.str z) = false by simp [ez]]
      refine iteF ⟨Nat.zero_le _, fun A nA => q0 (fun t ok e => ez ?_) A _ ((s1.trans s13).trans (same_new nA)) upd_same⟩
      have er := own t ok e
      have h := cut_stT g ok
      rw [e] at h
      have hl2 : (cutS z "; ").length = (codes (sub t)).length := by rw [h, List.length_map]
      rw [hl2, List.take_length] at er
      rw [er] at bd
      have e2 := bld_inj g bd (bld_codes (sub_ord t) (sub_ok ok))
      subst e2
      have := sub_last t
      rw [et] at this
      have e3 := Option.some.inj this
      rw [e3]
      exact e
end
end Ks
set_option Elab.async false
set_option linter.all false
set_option maxRecDepth 100000
set_option maxHeartbeats 4000000
namespace Gd
open PySem PySem.Spec PyProof.Rows L2 LamX
section
variable {P : Program} {w : World} {K : PySem.W.Frag} {mg : Str → Option Value} {base : Heap}
/-- as okG, the code object told -/
theorem okGC {x qn : Str} {st : Stmt} {f c : Addr} {fd : FuncData} {N ps : List Str} {k : Nat} {sp : Sp} (F : Fun K x qn st f fd) (hcd : fd.code = .ref c) (S : FnScope N ps (defScope st)) (hl : ∀ us H Q E, sp us H Q E → us.length = ps.length)
    (hb : ∀ (A : Around) (ou : List Env) (s : Shared) (H : Hp) (vs : List V) (Q : VK) (E : XK), A.guards = some [] → Room k (A.deeper (envOfC qn (defScope st) s.heap.objs.size f (.ref c))) → sp vs H Q E →
      ∃ t, PSs (cxOf CX0 P w K mg base N qn (defScope st) f (.ref c) A ou s H E).nox (defBody st) t ∧ t { nx := fun _ H' => Q .non H', rt := Q } (start N vs) H) : Pr P w K mg base CX0 (k + 1) f fd ps sp := by
  obtain ⟨oc, od, kV, dc, pm, an, cv, ct, osl, rfl, lk, hc⟩ := F.ex
  cases (show cv = .ref c from hcd)
  refine pr_of lk hc S hl fun A ou s H vs Q E hG hR hS => ?_
  obtain ⟨t, h, q⟩ := hb A ou s H vs Q E hG hR hS
  exact ⟨t, h.nox, q⟩
end
end Gd
namespace Ks
open PySem PySem.Spec PyProof.Rows L2 Gd Kx LamX
abbrev sTl : Stmt := Kx.topS 60
abbrev sRgt : Stmt := Kx.topS 65
theorem scTl : FnScope nTold ["_law_act"] (defScope sTl) := ⟨rfl, rfl, rfl, by decide +kernel, rfl, by decide +kernel, by decide +kernel⟩
def qLam : Str := (envOfC "_law_right" (defScope sRgt) 0 0 (.ref 0)).qual ++ Str.ofString "<lambda>"
def spRgtT (T : List (Addr × Str)) : Sp := fun vs H Q _ => ∃ p : Addr, vs = [.ref p] ∧ DealAt H p ∧ Tabs T H ∧ ∀ H', SbN p H H' → Tabs T H' → Q (.bl true) H'
/-- a word and what is shown, as data -/
def dW (w z : Str) : PyData := .list [.str w, .str z]
theorem lay_W {w z : Str} (hw : PyData.strOk w = true) (hz : PyData.strOk z = true) : (dW w z).canLay0 = true := lay_all fun d hd => by
  simp only [List.mem_cons, List.not_mem_nil, or_false] at hd
  rcases hd with rfl | rfl
  · exact hw
  · exact hz
theorem dep_W (w z : Str) : (dW w z).depth ≤ 4 := by simp [dW, PyData.depth, PyData.depthAll]
theorem sh_W {w z : Str} (hw : PyData.strOk w = true) (hz : PyData.strOk z = true) : SeqAt.shaped (dW w z) = true := by
  unfold SeqAt.shaped
  rw [lay_W hw hz, decide_eq_true (Nat.le_trans (dep_W w z) (by decide))]
  rfl
theorem eqv_W (w z : Str) : PyData.eqv (dW w z) (dW w z) = true := by simp [dW, PyData.eqv, PyData.eqvAll]
theorem sh_Ws {w z : Str} (n : Nat) (hw : PyData.strOk w = true) (hz : PyData.strOk z = true) : SeqAt.shaped (.list (List.replicate n (dW w z))) = true := by
  have l : (PyData.list (List.replicate n (dW w z))).canLay0 = true := lay_all fun d hd => by
    rw [(List.mem_replicate.mp hd).2]
    exact lay_W hw hz
  have e : (PyData.list (List.replicate n (dW w z))).depth ≤ 64 := by
    have := dep_all (n := 4) (ds := List.replicate n (dW w z)) fun d hd => by
      rw [(List.mem_replicate.mp hd).2]
      exact dep_W w z
    rw [PyData.depth]
    omega
  unfold SeqAt.shaped
  rw [l, decide_eq_true e]
  rfl
theorem eqv_Ws (w z : Str) (n : Nat) : PyData.eqv (.list (List.replicate n (dW w z))) (.list (List.replicate n (dW w z))) = true := by
  show PyData.eqvAll _ _ = true
  induction n with
  | zero => rfl
  | succ n ih =>
    rw [List.replicate_succ]
    show (PyData.eqv _ _ && PyData.eqvAll _ _) = true
    rw [eqv_W, ih]
    rfl
theorem dp_W {K : PySem.W.Frag} {G : Hp} {L : Addr} {w z : Str} (e : G L = some (.lst [.str w, .str z])) : Dp K G (.ref L) (dW w z) := .lst (SqL.of e) (.cons (.str _) (.cons (.str _) .nil))
end Ks
set_option Elab.async false
set_option linter.all false
set_option maxRecDepth 100000
set_option maxHeartbeats 4000000
/-! a list that is not empty against an empty one -/
namespace Ks
open PySem PySem.Spec PyProof.Rows L2 Gd Kx
section
variable {X : Cx}
def rEq0 : R2 := fun x y H Q => ∃ (a b : Addr) (v : V) (xs : List V), x = .ref a ∧ y = .ref b ∧ H a = some (.lst (v :: xs)) ∧ H b = some (.lst []) ∧ Q (.bl false) H
def rNe0 : R2 := fun x y H Q => ∃ (a b : Addr) (v : V) (xs : List V), x = .ref a ∧ y = .ref b ∧ H a = some (.lst (v :: xs)) ∧ H b = some (.lst []) ∧ Q (.bl true) H
theorem two_lists {pins : List (Addr × Obj)} {σ : L2.St} {H : Hp} {s : Shared} {a b : Addr} {v : V} {xs : List V} (I : Inv X pins σ H s) (ha : H a = some (.lst (v :: xs))) (hb : H b = some (.lst [])) :
    ∃ i j : Array Value, s.heap.IsList a i ∧ s.heap.IsList b j ∧ (i.size != j.size) = true := by
  obtain ⟨i, r1, p1, _⟩ := I.list (SqL.of ha)
  obtain ⟨j, r2, p2, _⟩ := I.list (SqL.of hb)
  refine ⟨i.toArray, j.toArray, p1.isList, p2.isList, ?_⟩
  rw [List.size_toArray, List.size_toArray, ← r1.length, ← r2.length, List.length_cons, List.length_nil]
  exact bne_iff_ne.mpr (by omega)
theorem op_eq0 (hu : X.A.units + 64 < cLine) : OpR X (compareOp .Eq) rEq0 := by
  intro pins s σ H x y v u Q I rx ry h
  obtain ⟨a, b, w, xs, rfl, rfl, ha, hb, q⟩ := h
  obtain rfl : v = Value.ref a := rx
  obtain rfl : u = Value.ref b := ry
  obtain ⟨i, j, h1, h2, h3⟩ := two_lists I ha hb
  exact PySem.SeqAt.eq_list_lengthsAt h1 h2 h3 (by omega) ⟨.bl false, H, I, rfl, q⟩
theorem op_ne0 (hu : X.A.units + 64 < cLine) : OpR X (compareOp .NotEq) rNe0 := by
  intro pins s σ H x y v u Q I rx ry h
  obtain ⟨a, b, w, xs, rfl, rfl, ha, hb, q⟩ := h
  obtain rfl : v = Value.ref a := rx
  obtain rfl : u = Value.ref b := ry
  obtain ⟨i, j, h1, h2, h3⟩ := two_lists I ha hb
  exact PySem.SeqAt.RcNeAt.lists_lengths h1 h2 h3 (by omega) _ _ _ _ ⟨.bl true, H, I, rfl, q⟩
end
end Ks
set_option Elab.async false
set_option linter.all false
set_option maxRecDepth 100000
set_option maxHeartbeats 4000000
namespace Ks
open PySem PySem.Spec PyProof.Rows L2 Gd Kx LamX
theorem rowS_len {r : Rn} (h : r.1.length ≤ 8) (l : r.2.length ≤ 3) (k : ∀ n ∈ r.2, n < 100) : (rowS r).length ≤ 18 := by
  have l1 : (Str.ofString " ").length = 1 := by decide +kernel
  have a := StrLaws.join_length_le (Str.ofString " ") (r.1 :: r.2.map nsS)
  have b : ∀ l : List Nat, (∀ n ∈ l, n < 100) → ((l.map nsS).map (·.length)).sum ≤ l.length * 2 := by
    intro l
    induction l with
    | nil => intro _; exact Nat.le_refl _
    | cons n r ih =>
      intro h
      have x := nsS_len (n := n) (k := 2) (by decide) (h n (List.mem_cons_self ..))
      have y := ih fun z hz => h z (List.mem_cons_of_mem _ hz)
      rw [List.map_cons, List.map_cons, List.sum_cons, List.length_cons, Nat.add_mul, Nat.one_mul]
      omega
  have c := b r.2 k
  unfold rowS
  rw [TL.join_eq]
  rw [l1, List.map_cons, List.sum_cons, List.length_cons, List.length_map] at a
  omega
theorem codes_row {m : Md} (g : Good m) {t : Tr} (ok : t.Ok m) : ∀ r ∈ codes (sub t), nmS r.1 = true ∧ r.1.length ≤ 8 ∧ r.2.length ≤ 3 ∧ ∀ k ∈ r.2, k < (sub t).length := fun r hr => by
  have nm := codes_nm g (sub_ok ok) r hr
  refine ⟨nm, (nm_len nm).2, ?_, codes_lt t r hr⟩
  obtain ⟨u, hu, rfl⟩ := List.mem_map.mp hr
  show (u.kids.map _).length ≤ 3
  rw [List.length_map]
  exact u.kids3
theorem parts_codes {m : Md} (g : Good m) {t : Tr} (ok : t.Ok m) (d : t.dep ≤ 4) : PartsOk ((codes (sub t)).map rowS) := by
  have s40 := sub40 d
  refine ⟨by simpa using codes_ne t, fun q hq => ?_⟩
  obtain ⟨r, hr, rfl⟩ := List.mem_map.mp hq
  obtain ⟨nm, l8, l3, lt⟩ := codes_row g ok r hr
  refine ⟨row_free nm, ?_, rowS_len l8 l3 (fun n hn => by have := lt n hn; omega), ?_⟩
  · have h := cut_len (z := rowS r) (y := " ") (p := r.1) (by decide +kernel) (by decide +kernel) (by rw [cut_row nm]; exact List.mem_cons_self ..)
    have := (nm_len nm).1
    omega
  · unfold rowS
    rw [TL.join_eq]
    refine okS_join (okS_of " ") fun z hz => ?_
    rcases List.mem_cons.mp hz with rfl | hz
    · exact okS_nm nm
    · obtain ⟨k, _, rfl⟩ := List.mem_map.mp hz
      exact okS_ns k
/-- three texts that no tree has -/
theorem no_text {m : Md} (g : Good m) {w : Str} (hw : w = "" ∨ w = " " ∨ w = "; ") {t : Tr} (ok : t.Ok m) : stT t ≠ w := fun e => by
  have h := cut_stT g ok
  rw [e] at h
  cases hc : codes (sub t) with
  | nil => exact codes_ne t hc
  | cons r rs =>
    have nm := (codes_row g ok r (by rw [hc]; exact List.mem_cons_self ..)).1
    have h1 := (nm_len nm).1
    rw [hc, List.map_cons] at h
    have hr := cut_row nm
    have z : r.1 = "" := by
      rcases hw with rfl | rfl | rfl
      · rw [show cutS "" "; " = ([""] : List Str) from by decide +kernel] at h
        rw [← (List.cons.inj h).1, show cutS "" " " = ([""] : List Str) from by decide +kernel] at hr
        exact (List.cons.inj hr).1.symm
      · rw [show cutS " " "; " = ([" "] : List Str) from by decide +kernel] at h
        rw [← (List.cons.inj h).1, show cutS " " " " = (["", ""] : List Str) from by decide +kernel] at hr
        exact (List.cons.inj hr).1.symm
      · rw [show cutS "; " "; " = (["", ""] : List Str) from by decide +kernel] at h
        rw [← (List.cons.inj h).1, show cutS "" " " = ([""] : List Str) from by decide +kernel] at hr
        exact (List.cons.inj hr).1.symm
    rw [z] at h1
    have : ("" : Str).length = 0 := by decide +kernel
    omega
theorem three_ok : ∀ w : Str, (w = "" ∨ w = " " ∨ w = "; ") → okS w ∧ w.length ≤ 2 ∧ ∀ p ∈ cutS w "; ", p.length ≤ 900 := by
  have a : ∀ w ∈ (["", " ", "; "] : List Str), w.length ≤ 2 ∧ ∀ p ∈ cutS w "; ", p.length ≤ 900 := by decide +kernel
  intro w hw
  have hm : w ∈ (["", " ", "; "] : List Str) := by simpa using hw
  refine ⟨?_, a w hm⟩
  rcases hw with rfl | rfl | rfl
  · exact okS_of ""
  · exact okS_of " "
  · exact okS_of "; "
/-- as spRgtT, the deal told behind it -/
def spRgtD (T : List (Addr × Str)) : Sp := fun vs H Q _ => ∃ p : Addr, vs = [.ref p] ∧ DealAt H p ∧ Tabs T H ∧ ∀ H', SbN p H H' → DealAt H' p → Tabs T H' → Q (.bl true) H'
abbrev nRgt : List Str := ["_law_deal_here", "_law_model_here", "_law_schema_own", "_law_kind", "_law_tree_here", "_law_rows_here", "_law_line_here", "_law_mine", "_law_odd", "_law_turn", "_law_bent_here", "_law_due", "_law_told_here"]
theorem scRgt : FnScope nRgt ["_law_deal_here"] (defScope sRgt) := ⟨rfl, rfl, rfl, by decide +kernel, rfl, by decide +kernel, by decide +kernel⟩
structure ERk (K : PySem.W.Frag) (mg : Str → Option Value) (CT CS IT NS : Addr) : Prop where
  t : ∃ c1 c2 c3 : Value, mg "TreeError" = some c1 ∧ mg "StateError" = some c2 ∧ mg "LimitError" = some c3 ∧ PySem.W.exmAny K (.ref IT) [c1, c2, c3] = some true ∧ PySem.W.exmAny K (.ref NS) [c1, c2, c3] = some true
  cs : PySem.W.kitOne K (.type "str") (.ref CS) = some false
  ct : PySem.W.kitOne K (.ref CT) (.type "str") = some false
section
variable {P : Program} {w : World} {K : PySem.W.Frag} {mg : Str → Option Value} {base : Heap} {CT CS IT NS : Addr}
set_option maxHeartbeats 32000000 in
theorem ok_rgt {f fm fp ft fl fo fs fin fli fb fq frd prd cc Pt : Addr} {mcR : Value} {fd dm dp dt dl do' ds din dli db dq drd : FuncData} {TT : List (Addr × Str)} (F : Fun K "_law_right" "_law_right" sRgt f fd) (hcd : fd.code = .ref cc) (TB : TabB base mg cc Pt) (hTm : (Pt, qLam) ∈ TT) (hTu : ∀ p ∈ TT, p.1 = Pt → p.2 = qLam)
    (T : TS0 mg) (mrp : mg "repr" = none) (C : Tcs P w K mg base CT CS) (S : Sch P w K mg base CS) (OF : Ofr P w K mg base CT CS) (R : ERk K mg CT CS IT NS)
    (Min : Mk K CS fin) (Gin : FnOk P w K mg base CX0 4 fin din ["self", "kinds", "constructors"] (spIni CS)) (Bin : Binds K din ["self", "kinds", "constructors"] [])
    (rdT : ClX.CRead K CT mcR) (cmR : ClX.CMet K CT mcR "read" prd frd) (FRd : FnOk P w K mg base (CX P w) 9 frd drd ["cls", "schema", "text"] (spRd K CT CS NS IT)) (bRd : Binds K drd ["cls", "schema", "text"] []) (kRd : KBinds K drd ["cls", "schema", "text"] ["text", "schema"] gRS gRS)
    (GM : FnOk P w K mg base CX0 4 fm dm ["_law_deal_here"] spMdl) (km : PySem.W.keepIn K (.ref fm) = true) (bM : Binds K dm ["_law_deal_here"] []) (gM : mg "_law_model" = some (.ref fm))
    (GP : FnOk P w K mg base CX0 1 fp dp ["_law_deal_here", "_law_many"] spPick) (kp : PySem.W.keepIn K (.ref fp) = true) (bP : Binds K dp ["_law_deal_here", "_law_many"] []) (gP : mg "_law_pick" = some (.ref fp))
    (GT : FnOk P w K mg base CX0 6 ft dt ["_law_deal_here", "_law_model_here", "_law_kind", "_law_deep"] (spTree 4)) (kt : PySem.W.keepIn K (.ref ft) = true) (bT : Binds K dt ["_law_deal_here", "_law_model_here", "_law_kind", "_law_deep"] []) (gT : mg "_law_tree" = some (.ref ft))
    (GR : FnOk P w K mg base CX0 43 fo do' ["_law_tree_here"] (spRo 41)) (kr : PySem.W.keepIn K (.ref fo) = true) (bR : Binds K do' ["_law_tree_here"] []) (gR : mg "_law_rows_of" = some (.ref fo))
    (GL : FnOk P w K mg base CX0 1 fli dli ["_law_rows_here"] spLin) (kl : PySem.W.keepIn K (.ref fli) = true) (bL : Binds K dli ["_law_rows_here"] []) (gL : mg "_law_line" = some (.ref fli))
    (GB : FnOk P w K mg base CX0 2 fb db ["_law_deal_here", "_law_line_here"] spBnt) (kb : PySem.W.keepIn K (.ref fb) = true) (bB : Binds K db ["_law_deal_here", "_law_line_here"] []) (gB : mg "_law_bent" = some (.ref fb))
    (GQ : FnOk P w K mg base CX0 44 fq dq ["_law_model_here", "_law_line_here"] spLrd) (kq : PySem.W.keepIn K (.ref fq) = true) (bQ : Binds K dq ["_law_model_here", "_law_line_here"] []) (gQ : mg "_law_read" = some (.ref fq))
    (FT : Fun K "_law_told" "_law_told" sTl fl dl) (bTl : Binds K dl ["_law_act"] []) (gTl : mg "_law_told" = some (.ref fl))
    (FS : FnE P w K mg base 6 fs ds "_law_e" (spSrt CT CS IT NS)) (kS : PySem.W.keepIn K (.ref fs) = true) (bS : Binds K ds ["_law_e"] []) (gS : mg "_law_sort" = some (.ref fs)) :
    Pr P w K mg base CX0 46 f fd ["_law_deal_here"] (spRgtD TT) := by
  obtain ⟨oc, od, kV, dc, pm, an, cvT, ct, osl, rfl, lkT, hcT⟩ := FT.ex
  obtain ⟨c1, c2, c3, m1, m2, m3, xI, xN⟩ := R.t
  refine okGC F hcd scRgt (fun vs H Q E h => ?_) (fun A ou s H vs Q E hG hr h => ?_)
  · obtain ⟨p, rfl, _⟩ := h
    rfl
  obtain ⟨p, rfl, hD, hT, q⟩ := h
  obtain ⟨⟨Zc, Ic, gTr, _, ⟨pR, fR, dR, PR, FR, bRR⟩, _, _, _⟩, nb, _, ⟨frp, drp, Drp, Frp, brp⟩, ⟨fst, dst, Dst, Fst, bst⟩, ⟨feq, deq, Deq, Feq, beq⟩, nn, mo⟩ := C
  obtain ⟨Zs, Is, gSc, _, _⟩ := S
  obtain ⟨mc, pO, fO, dO, rd, cm, FO, bO, kO⟩ := OF
  have FOr := FO.raw bO .nil
  have FRr : FnR P w K mg base (CX P w) 9 frd (spRd K CT CS NS IT) := by
    have := FRd.raw bRd .nil
    simpa only [List.append_nil] using this
  have hG2 : (A.deeper (envOfC "_law_right" (defScope sRgt) s.heap.objs.size f (.ref cc))).guards = some [] := hG
  have hrr : ∀ n, n ≤ 45 → Room n (A.deeper (envOfC "_law_right" (defScope sRgt) s.heap.objs.size f (.ref cc))) := fun n h => hr.mono h
  have hr1 := hrr 1 (by decide)
  have hr2 := hrr 2 (by decide)
  have hr3 := hrr 3 (by decide)
  have hr4 := hrr 4 (by decide)
  have hr5 := hrr 5 (by decide)
  have hr6 := hrr 6 (by decide)
  have hr7 := hrr 7 (by decide)
  have hr9 := hrr 9 (by decide)
  have hr11 := hrr 11 (by decide)
  have hr43 := hrr 43 (by decide)
  have hr44 := hrr 44 (by decide)
  have hu := hr.units
  have told : ∀ q : Str, GivesTo (cxOf CX0 P w K mg base nRgt "_law_right" (defScope sRgt) f (.ref cc) A ou s H E).nox nTold "_law_told" (defScope sTl) fl cvT (defBody sTl) "_law_act" q (TTold3 K c1 c2 c3 (spSrt CT CS IT NS)) := fun q => told3 (X := (cxOf CX0 P w K mg base nRgt "_law_right" (defScope sRgt) f (.ref cc) A ou s H E).nox) (x := "_law_told") (q := q) (g := fl) (cdg := cvT) scTl rfl rfl rfl m1 rfl m2 rfl m3 rfl gS FS kS bS hG2 hr7
  have RP : CallR (cxOf CX0 P w K mg base nRgt "_law_right" (defScope sRgt) f (.ref cc) A ou s H E).nox (.builtin "repr") _ := call_or (call_showV hG2 hu) (call_or (call_reprO Drp Frp hr2 brp pass0) (call_reprD0 hG2 hu))
  refine ⟨_, (pss_cons (ps_set (i := 1) scRgt.nd rfl (.inl rfl) (pe_call GM hr4 (by rfl) gM km bM .nil pass0 (pa_cons (pv 0) pa_nil)))
    (pss_cons (ps_asg (pe_tup (pa_cons (pe_make Min Gin hr5 (by rfl) gSc Bin .nil pass0 (pa_cons (pe_ix ix_tup (pv 1) pe_int (fun _ _ => rfl)) (pa_cons (pe_ix ix_tup (pv 1) pe_int (fun _ _ => rfl)) pa_nil))) (pa_cons (pe_ix ix_tup (pe_ix ix_tup (pv 1) pe_int (fun _ _ => rfl)) (pe_call GP hr1 (by rfl) gP kp bP .nil pass0 (pa_cons (pv 0) (pa_cons (pe_callB call_len_seq (by rfl) T.len PySem.boot_len (pa_cons (pe_ix ix_tup (pv 1) pe_int (fun _ _ => rfl)) pa_nil)) pa_nil))) (fun _ _ => rfl)) pa_nil))) (pg_tup rfl (pgs_cons (pg_name (i := 2) scRgt.nd rfl (.inr rfl)) (pgs_cons (pg_name (i := 3) scRgt.nd rfl (.inl rfl)) pgs_nil))))
    (pss_cons (ps_set (i := 4) scRgt.nd rfl (.inl rfl) (pe_call GT hr6 (by rfl) gT kt bT .nil pass0 (pa_cons (pv 0) (pa_cons (pv 1) (pa_cons (pv 3) (pa_cons (pe_op op_add pe_int (pe_call GP hr1 (by rfl) gP kp bP .nil pass0 (pa_cons (pv 0) (pa_cons pe_int pa_nil)))) pa_nil))))))
    (pss_cons (ps_set (i := 5) scRgt.nd rfl (.inl rfl) (pe_call GR hr43 (by rfl) gR kr bR .nil pass0 (pa_cons (pv 4) pa_nil)))
    (pss_cons (ps_set (i := 6) scRgt.nd rfl (.inr rfl) (pe_call GL hr1 (by rfl) gL kl bL .nil pass0 (pa_cons (pv 5) pa_nil)))
    (pss_cons (ps_set (i := 7) scRgt.nd rfl (.inl rfl) (ClX.pe_cmeth (pe_glob (v := .ref CT) (by rfl) gTr rfl) rdT cmR FRr hr9 passX0 (pa_cons (pv 2) (pa_cons (pv 6) pa_nil))))
    (pss_cons (ps_if (PW.pt (pw_or (pt_cmpR op_ne (pe_callTy (call_strO Dst Fst hr3 bst pass0) (by rfl) T.str boot_str (pa_cons (pv 7) pa_nil)) (pv 6) (nomark _)) (pw_or1 (pt_cmpR (op_neO Deq nn mo Feq hr3 beq pass0) (pv 7) (ClX.pe_cmeth (pe_glob (v := .ref CT) (by rfl) gTr rfl) rd cm FOr hr7 pass0 (pa_cons (pv 2) (pa_cons (pv 5) pa_nil))) (nomark _))))) (pss_one (ps_ret pe_bl)) pss_nil)
    (pss_cons (ps_if (pt_cmpR (op_neD hu) (pe_prop (pe_cmethK0 (pe_glob (v := .ref CT) (by rfl) gTr rfl) rdT cmR FRd hr9 kRd passX0 (pk_cons (pv 6) (pk_cons (pv 2) pk_nil))) Zc.cls PR FR hr2 bRR .nil pass0 rfl) (pv 5) (nomark _)) (pss_one (ps_ret pe_bl)) pss_nil)
    (pss_cons (ps_set (i := 8) scRgt.nd rfl (.inr rfl) (pe_ix ix_list (pe_lst (pa_cons pe_non (pa_cons pe_int (pa_cons pe_bl (pa_cons (pe_tup (pa_cons (pv 6) pa_nil)) (pa_cons (pv 5) (pa_cons pe_dnewT (pa_cons pe_str (pa_cons pe_str (pa_cons pe_str (pa_cons (pv 7) pa_nil))))))))))) (pe_call GP hr1 (by rfl) gP kp bP .nil pass0 (pa_cons (pv 0) (pa_cons pe_int pa_nil))) (fun _ _ => rfl)))
    (pss_cons (ps_if (pt_cmpR (op_neD hu) (pe_lamcall (T := TT) (k := 9) (t := fun E => ClX.tCMeth CT (spRd K CT CS NS IT) E (tC (.ref CT)) (tCons (tVar 2) (tCons (tVar 8) tNil))) (by rfl) gTl FT.kp lkT hcT bTl scTl rfl (.inl rfl) (told _) TB rfl hTm hTu hr11 (lamS_by (sc := defScope sRgt) (by decide +kernel)) rfl (fun _ _ _ _ _ => rfl)
          (fun A' ou' s' H' E' f' c' hR' => ClX.pe_cmeth (pe_glob (v := .ref CT) (by rfl) gTr rfl) rdT cmR FRr hR' (passes_call (takes_of rfl rfl rfl rfl) (fun _ _ _ _ h => h)) (pa_cons (pv 2) (pa_cons (pv 8) pa_nil)))) (pe_lst (pa_cons pe_str (pa_cons (pe_callB RP (by rfl) mrp boot_repr (pa_cons (pv 8) pa_nil)) pa_nil))) (nomark _)) (pss_one (ps_ret pe_bl)) pss_nil)
    (pss_cons (ps_if (pt_cmpR (op_neD hu) (pe_lamcall (T := TT) (k := 9) (t := fun E => ClX.tCMeth CT (spRd K CT CS NS IT) E (tC (.ref CT)) (tCons (tVar 6) (tCons (tVar 8) tNil))) (by rfl) gTl FT.kp lkT hcT bTl scTl rfl (.inl rfl) (told _) TB rfl hTm hTu hr11 (lamS_by (sc := defScope sRgt) (by decide +kernel)) rfl (fun _ _ _ _ _ => rfl)
          (fun A' ou' s' H' E' f' c' hR' => ClX.pe_cmeth (pe_glob (v := .ref CT) (by rfl) gTr rfl) rdT cmR FRr hR' (passes_call (takes_of rfl rfl rfl rfl) (fun _ _ _ _ h => h)) (pa_cons (pv 6) (pa_cons (pv 8) pa_nil)))) (pe_lst (pa_cons pe_str (pa_cons (pe_callB RP (by rfl) mrp boot_repr (pa_cons (pv 6) pa_nil)) pa_nil))) (nomark _)) (pss_one (ps_ret pe_bl)) pss_nil)
    (pss_cons (ps_for PassesOwn.never rfl (pi_range1 rfl T.rng (pa_cons pe_int pa_nil)) (pg_name (i := 9) scRgt.nd rfl (.inl rfl)) (pss_cons (ps_set (i := 10) scRgt.nd rfl (.inr rfl) (pe_call GB hr2 (by rfl) gB kb bB .nil pass0 (pa_cons (pv 0) (pa_cons (pv 6) pa_nil))))
    (pss_cons (ps_par (i := 11) (j := 12) (by rfl) scRgt.nd rfl rfl (by decide) rfl rfl (pa_cons (pe_call GQ hr44 (by rfl) gQ kq bQ .nil pass0 (pa_cons (pv 1) (pa_cons (pv 10) pa_nil))) (pa_cons (pe_lamcall (T := TT) (k := 9) (t := fun E => ClX.tCMeth CT (spRd K CT CS NS IT) E (tC (.ref CT)) (tCons (tVar 2) (tCons (tVar 10) tNil))) (by rfl) gTl FT.kp lkT hcT bTl scTl rfl (.inl rfl) (told _) TB rfl hTm hTu hr11 (lamS_by (sc := defScope sRgt) (by decide +kernel)) rfl (fun _ _ _ _ _ => rfl)
          (fun A' ou' s' H' E' f' c' hR' => ClX.pe_cmeth (pe_glob (v := .ref CT) (by rfl) gTr rfl) rdT cmR FRr hR' (passes_call (takes_of rfl rfl rfl rfl) (fun _ _ _ _ h => h)) (pa_cons (pv 2) (pa_cons (pv 10) pa_nil)))) pa_nil)) (by rfl))
    (pss_cons (ps_if (PW.pt (pw_and (pt_cmpR (op_or2 (op_eqD hu) (op_eq0 hu)) (pv 11) (pe_lst pa_nil) (nomark _)) (pw_and1 (pt_cmpR (op_neD hu) (pv 12) (pe_lst (pa_cons pe_str (pa_cons (pe_callB RP (by rfl) mrp boot_repr (pa_cons (pv 10) pa_nil)) pa_nil))) (nomark _))))) (pss_one (ps_ret pe_bl)) pss_nil)
    (pss_cons (ps_if (PW.pt (pw_and (pt_cmpR (op_or2 (op_neD hu) (op_ne0 hu)) (pv 11) (pe_lst pa_nil) (nomark _)) (pw_and1 (pt_cmpR op_ne (pe_ix ix_list (pv 12) pe_int (fun _ _ => rfl)) pe_str (nomark _))))) (pss_one (ps_ret pe_bl)) pss_nil)
    (pss_one (ps_if (PW.pt (pw_and (pt_cmpR (op_or2 (op_neD hu) (op_ne0 hu)) (pv 11) (pe_lst pa_nil) (nomark _)) (pw_and1 (PW.pt (pw_or (pt_cmpR (op_neD hu) (pe_prop (pe_ix ix_list (pv 12) pe_int (fun _ _ => rfl)) Zc.cls PR FR hr2 bRR .nil pass0 rfl) (pe_call GR hr43 (by rfl) gR kr bR .nil pass0 (pa_cons (pe_ix ix_list (pv 11) pe_int (fun _ _ => rfl)) pa_nil)) (nomark _)) (pw_or1 (pt_cmpR op_ne (pe_callTy (call_strO Dst Fst hr3 bst pass0) (by rfl) T.str boot_str (pa_cons (pe_ix ix_list (pv 12) pe_int (fun _ _ => rfl)) pa_nil)) (pv 10) (nomark _)))))))) (pss_one (ps_ret pe_bl)) pss_nil)))))))
    (pss_one (ps_ret pe_bl)))))))))))))), ?_⟩
  -- the model
  refine seq_join (fun σ G => ∃ (b : Addr) (m : Md), σ = [some (.ref p), some (.ref b), none, none, none, none, none, none, none, none, none, none, none] ∧ DealAt G p ∧ Sb p H G ∧ Good m ∧ MdAt G b m) ?_ fun rest => ?_
  rotate_left
  · exact ⟨.ref p, rfl, p, rfl, hD, fun b m H1 D1 b1 g hM => rest _ _ ⟨b, m, rfl, D1, b1, g, hM⟩⟩
  rintro σ G1 ⟨b, m, rfl, D1, b1, g, hM1⟩
  have T1 := tabs_sb hT hD b1
  have k1 := g.k1
  have k4 := g.k4
  -- the schema and a kind
  refine seq_join (fun σ G => ∃ (x1 : Addr) (k : Str), σ = [some (.ref p), some (.ref b), some (.ref x1), some (.str k), none, none, none, none, none, none, none, none, none] ∧ DealAt G p ∧ Sb p G1 G ∧ ScAt CS G x1 m ∧ k ∈ m.ks) ?_ fun rest => ?_
  rotate_left
  · obtain ⟨kA, rA, eb, hk, hR⟩ := id hM1
    have lk : (m.ks.map V.str).length = m.ks.length := List.length_map ..
    refine ⟨.ref b, rfl, b, _, _, .ref kA, rfl, rfl, SqT.of eb, rfl, .ref b, rfl, b, _, _, .ref rA, rfl, rfl, SqT.of eb, rfl, fun x1 dx1 nx1 nd1 ne1 => ?_⟩
    have s0 := mk_baseT (C := CS) nx1 nd1
    refine ⟨x1, dx1, kA, rA, m, rfl, upd_same, s0 _ _ hk, hR.keep s0, g, fun n1 H2 bt1 nx ex1 fz1 => ⟨rfl, ?_⟩⟩
    have s1 := mk_sameT nx1 nd1 bt1
    have D2 := D1.keep s1
    refine ⟨.ref b, rfl, b, _, _, .ref kA, rfl, rfl, SqT.of (s1 _ _ eb), rfl, .ref p, rfl, .ref b, rfl, b, _, _, .ref kA, rfl, rfl, SqT.of (s1 _ _ eb), rfl, kA, _, rfl, .inr (SqT.of (s1 _ _ hk)), p, _, rfl, D2, by omega, by omega, fun i1 H3 l1 u1 D3 b3 => ?_⟩
    have n3 := Nl.deal D2 b3
    have hi1 : i1.toNat < m.ks.length := by omega
    have ez : m.ks[i1.toNat]? = some (m.ks[i1.toNat]) := List.getElem?_eq_getElem hi1
    refine ⟨kA, _, i1, .str (m.ks[i1.toNat]), rfl, rfl, SqT.of (n3.tk _ _ (s1 _ _ hk)), at_of (j := i1.toNat) (by omega) (by rw [List.getElem?_map, ez]; rfl), (by show 2 ≤ sizeLine; decide), fun T2 nT2 => ?_⟩
    have sT2 := same_new (o := .tup [.ref x1, .str (m.ks[i1.toNat])]) nT2
    have hS : ScAt CS H2 x1 m := ⟨dx1, kA, rA, n1, ex1, s1 _ _ hk, hR.keep s1, fz1⟩
    exact ⟨T2, _, rfl, SqT.of upd_same, rfl, _, _, rfl, _, _, rfl, rfl, rest _ _ ⟨x1, _, rfl, D3.keep sT2, Sb.trans (.of s1) (Sb.trans b3 (.of sT2)), (hS.nl n3).keep sT2, List.getElem_mem hi1⟩⟩
  rintro σ G2 ⟨x1, k, rfl, D2, b2, hS2, hk⟩
  have T2 := tabs_sb T1 D1 b2
  have hM2 := hM1.nl (Nl.deal D1 b2)
  replace b2 := b1.trans b2
  clear D1 b1 T1 hM1
  -- the tree
  refine seq_join (fun σ G => ∃ (xt : V) (t : Tr), σ = [some (.ref p), some (.ref b), some (.ref x1), some (.str k), some xt, none, none, none, none, none, none, none, none] ∧ DealAt G p ∧ Sb p G2 G ∧ LtAt G xt t ∧ t.Ok m ∧ t.dep ≤ 4) ?_ fun rest => ?_
  rotate_left
  · refine ⟨.ref p, rfl, .ref b, rfl, .str k, rfl, .ref p, rfl, p, 4, rfl, D2, by decide, by decide, fun d H3 l3 u3 D3 b3 => ⟨_, _, rfl, rfl, ?_⟩⟩
    exact ⟨p, b, m, k, _, rfl, D3, hM2.nl (Nl.deal D2 b3), g, hk, by omega, by omega, fun t' x H4 D5 b5 okt' kt' dt' lt' => rest _ _ ⟨x, t', rfl, D5, b3.trans b5, lt', okt', by omega⟩⟩
  rintro σ G3 ⟨xt, t, rfl, D3, b3, lt3, okt, dt⟩
  have n3 := Nl.deal D2 b3
  have hM3 := hM2.nl n3
  have hS3 := hS2.nl n3
  have T3 := tabs_sb T2 D2 b3
  have b03 := b2.trans b3
  clear D2 b2 T2 hM2 hS2 b3 n3
  have z40 := size40 dt
  have sl := Nat.le_trans (sub_size t) z40
  have sp := sub_pos t
  have pc := parts_codes g okt dt
  have lpc : ((codes (sub t)).map rowS).length ≤ 40 := by rw [List.length_map, codes_len]; exact sl
  have zl := joinP_len pc
  have zok := joinP_ok pc
  have zcut : ∀ q ∈ cutS (joinP ((codes (sub t)).map rowS)) "; ", q.length ≤ 900 := fun q hq => by
    rw [joinP_cut pc] at hq
    have := (pc.par q hq).2.2.1
    omega
  have est : stT t = joinP ((codes (sub t)).map rowS) := rfl
  generalize ez : joinP ((codes (sub t)).map rowS) = z at *
  -- its rows
  refine seq_join (fun σ G => ∃ (R1 : Addr), σ = [some (.ref p), some (.ref b), some (.ref x1), some (.str k), some xt, some (.ref R1), none, none, none, none, none, none, none] ∧ Same G3 G ∧ RwsT G R1 (codes (sub t))) ?_ fun rest => ?_
  rotate_left
  · exact ⟨xt, rfl, xt, t, m, rfl, lt3, by omega, okt, g, by omega, fun R1 H4 s4 hR1 => rest _ _ ⟨R1, rfl, s4, hR1⟩⟩
  rintro σ G4 ⟨R1, rfl, s4, hR1⟩
  -- its text
  refine seq_join (fun σ G => σ = [some (.ref p), some (.ref b), some (.ref x1), some (.str k), some xt, some (.ref R1), some (.str z), none, none, none, none, none, none] ∧ Same G4 G) ?_ fun rest => ?_
  rotate_left
  · refine ⟨.ref R1, rfl, R1, codes (sub t), rfl, hR1, by rw [codes_len]; omega, fun r hr => ?_, fun H5 s5 => ?_⟩
    · obtain ⟨_, l8, l3, lk⟩ := codes_row g okt r hr
      exact ⟨l8, l3, fun n hn => by have := lk n hn; omega⟩
    · have : lineS (codes (sub t)) = z := by rw [← ez]; rfl
      rw [this]
      exact rest _ _ ⟨rfl, s5⟩
  rintro σ G5 ⟨rfl, s5⟩
  -- the text read
  have uz : ∀ u : Tr, u.Ok m → (sub u).length ≤ 200 → stT u = z → u = t := fun u oku lu eu => text_inj g oku okt lu (by omega) (eu.trans est.symm)
  have nz : (∀ u : Tr, u.Ok m → (sub u).length ≤ 200 → stT u ≠ z) → False := fun hn => hn t okt (by omega) est
  refine seq_join (fun σ G => ∃ a1, σ = [some (.ref p), some (.ref b), some (.ref x1), some (.str k), some xt, some (.ref R1), some (.str z), some (.ref a1), none, none, none, none, none] ∧ Same G5 G ∧ TrAt CT CS m G a1 t) ?_ fun rest => ?_
  rotate_left
  · refine ⟨rfl, .ref x1, rfl, .str z, rfl, _, _, rfl, .inr ⟨x1, m, rfl, hS3.keep (s4.trans s5), g, .inr ⟨z, rfl, by omega, zcut, fun hn => (nz hn).elim, fun u oku lu eu a1 H6 s6 h1 => rest _ _ ⟨a1, rfl, s6, uz u oku lu eu ▸ h1⟩⟩⟩⟩
  rintro σ G6 ⟨a1, rfl, s6, h16⟩
  have s46 := s5.trans s6
  have s36 := s4.trans s46
  have hS6 := hS3.keep s36
  have hR6 := hR1.keep s46
  have D6 := D3.keep s36
  have T6 := T3.ext s36
  have b06 := b03.trans (.of s36)
  have hM6 := hM3.keep s36
  have lt6 := lt3.tk (.of s36)
  clear D3 T3 b03 hM3 hS3 lt3 hR1 s4 s5 s6 s46 s36
  -- its text and the same tree by rows
  refine seq_join (fun σ G => σ = [some (.ref p), some (.ref b), some (.ref x1), some (.str k), some xt, some (.ref R1), some (.str z), some (.ref a1), none, none, none, none, none] ∧ Same G6 G) ?_ fun rest => ?_
  rotate_left
  · obtain ⟨dx1, fs1, e1⟩ := h16.ins
    refine ⟨.ref a1, rfl, a1, dx1, fs1, rfl, e1, a1, m, t, rfl, h16, g, okt, by omega, fun H7 s7 => ⟨_, rfl, .str z, rfl, rfl, _, rfl, ?_⟩⟩
    rw [show (!decide (V.str (stT t) = V.str z)) = false by rw [est]; simp]
    refine iteF ⟨.ref a1, rfl, rfl, .ref x1, rfl, .ref R1, rfl, x1, R1, m, codes (sub t), sub t, t, rfl, hS6.keep s7, g, hR6.keep s7, bld_codes (sub_ord t) (sub_ok okt), by rw [codes_len]; omega, by rw [codes_len]; omega, by rw [codes_len]; exact sub_last t, fun a2 H8 s8 h2 => ?_⟩
    have h18 := h16.keep (s7.trans s8)
    obtain ⟨d1, f1, e1⟩ := h18.ins
    obtain ⟨d2, f2, e2⟩ := h2.ins
    refine ⟨a1, d1, _, a2, d2, _, rfl, rfl, e1, e2, a1, .ref a2, m, t, rfl, h18, g, okt, .inl ⟨a2, t, rfl, h2, okt, _, rfl, _, rfl, ?_⟩⟩
    rw [decide_eq_true rfl]
    exact iteF (rest _ _ ⟨rfl, s7.trans s8⟩)
  rintro σ G7 ⟨rfl, s7⟩
  -- read by keywords
  refine seq_join (fun σ G => σ = [some (.ref p), some (.ref b), some (.ref x1), some (.str k), some xt, some (.ref R1), some (.str z), some (.ref a1), none, none, none, none, none] ∧ Same G7 G) ?_ fun rest => ?_
  rotate_left
  · refine ⟨rfl, .str z, rfl, .ref x1, rfl, _, _, rfl, .inr ⟨x1, m, rfl, hS6.keep s7, g, .inr ⟨z, rfl, by omega, zcut, fun hn => (nz hn).elim, fun u oku lu eu a3 H8 s8 h3 => ?_⟩⟩⟩
    rw [uz u oku lu eu] at h3
    cases id h3 with
    | @mk _ dB RB sB FB _ bsB eB hsB hRB hFB lbB kbB =>
    refine ⟨a3, dB, _, rfl, eB, a3, dB, _, _, rfl, eB, trF_R, .ref R1, rfl, _, _, dp_rns hRB, dp_rns (hR6.keep (s7.trans s8)), lay_rns (codes_nm g (sub_ok okt)), lay_rns (codes_nm g (sub_ok okt)), _, rfl, ?_⟩
    rw [eqv_rns, decide_eq_true rfl]
    exact iteF (rest _ _ ⟨rfl, s8⟩)
  rintro σ G8 ⟨rfl, s8⟩
  have s68 := s7.trans s8
  have D8 := D6.keep s68
  have T8 := T6.ext s68
  have h18 := h16.keep s68
  have hR8 := hR6.keep s68
  have hS8 := hS6.keep s68
  have hM8 := hM6.keep s68
  have b08 := b06.trans (.of s68)
  clear D6 T6 h16 hR6 hS6 hM6 b06 s7 s8 s68 lt6
  -- an odd thing
  refine seq_join (fun σ G => ∃ (v : V) (w : Str), σ = [some (.ref p), some (.ref b), some (.ref x1), some (.str k), some xt, some (.ref R1), some (.str z), some (.ref a1), some v, none, none, none, none] ∧ DealAt G p ∧ Sb p G8 G ∧ Shw CT CS m G v w ∧ ∀ y, v = .str y → y = "" ∨ y = " " ∨ y = "; ") ?_ fun rest => ?_
  rotate_left
  · refine ⟨.str z, rfl, (by show 1 ≤ sizeLine; decide), fun A1 nA1 => ⟨.ref R1, rfl, fun U nU => ⟨.ref a1, rfl, (by show 10 ≤ sizeLine; decide), fun O nO => ?_⟩⟩⟩
    have sA := same_new (o := .tup [.str z]) nA1
    have sU := same_new (o := .dT []) nU
    have sO := same_new (o := .lst [V.non, .int 0, .bl true, .ref A1, .ref R1, .ref U, .str "", .str " ", .str "; ", .ref a1]) nO
    have s5 := sA.trans (sU.trans sO)
    have D9 := D8.keep s5
    have Op : O ≠ p := by
      obtain ⟨_, _, _, ep, _⟩ := (D8.keep sA).keep sU
      exact fun e => by rw [e, ep] at nO; cases nO
    refine ⟨.ref p, rfl, p, 10, rfl, D9, by decide, by decide, fun i6 H9 li ui D10 b9 => ?_⟩
    have n9 := Nl.deal D9 b9
    have eU : H9 U = some (.dT []) := n9 _ _ (fun _ z => by cases z) (sO _ _ upd_same)
    have eA : H9 A1 = some (.tup [.str z]) := n9.tk _ _ (sO _ _ (sU _ _ upd_same))
    have hR9 : RwsT H9 R1 (codes (sub t)) := by
      obtain ⟨ys, e5, p5⟩ := hR8.keep s5
      exact ⟨ys, n9.tk _ _ e5, Paired.mapP p5 fun _ _ z => RowN.tk z n9.tk⟩
    have h19 := (h18.keep s5).nl n9
    obtain ⟨v, w, ev, hv, hw⟩ : ∃ v w, ([V.non, .int 0, .bl true, .ref A1, .ref R1, .ref U, .str "", .str " ", .str "; ", .ref a1] : List V)[i6.toNat]? = some v ∧ Shw CT CS m H9 v w ∧ ∀ y, v = .str y → y = "" ∨ y = " " ∨ y = "; " := by
      have hi : i6.toNat < 10 := by omega
      match i6.toNat, hi with
      | 0, _ => exact ⟨_, _, rfl, .non, fun y e => by cases e⟩
      | 1, _ => exact ⟨_, _, rfl, .int0, fun y e => by cases e⟩
      | 2, _ => exact ⟨_, _, rfl, .bl, fun y e => by cases e⟩
      | 3, _ => exact ⟨_, _, rfl, .tup eA zok (by omega), fun y e => by cases e⟩
      | 4, _ => exact ⟨_, _, rfl, .rows hR9 okt dt, fun y e => by cases e⟩
      | 5, _ => exact ⟨_, _, rfl, .d0 eU, fun y e => by cases e⟩
      | 6, _ => exact ⟨_, _, rfl, .txt (okS_of "") (by decide +kernel), fun y e => by cases e; exact .inl rfl⟩
      | 7, _ => exact ⟨_, _, rfl, .txt (okS_of " ") (by decide +kernel), fun y e => by cases e; exact .inr (.inl rfl)⟩
      | 8, _ => exact ⟨_, _, rfl, .txt (okS_of "; ") (by decide +kernel), fun y e => by cases e; exact .inr (.inr rfl)⟩
      | 9, _ => exact ⟨_, _, rfl, .tr h19 okt dt, fun y e => by cases e⟩
    exact ⟨O, _, i6, v, rfl, rfl, SqL.of (b9 O _ Op upd_same), at_of (j := i6.toNat) (by omega) ev, rest _ _ ⟨v, w, rfl, D10, (Sb.of s5).trans b9, hv, hw⟩⟩
  rintro σ G9 ⟨v, w, rfl, D9, b9, hv9, hw⟩
  have n9 := Nt.nl (Nl.deal D8 b9)
  have T9 := tabs_sb T8 D8 b9
  have hM9 := hM8.nt n9
  have hS9 := hS8.nt n9
  have b09 := SbN.sb (b08.trans b9)
  clear D8 T8 h18 hR8 hS8 hM8 b08 b9 n9
  have zo : PyData.strOk (PyData.str z).shown = true := (Shw.txt (CT := CT) (CS := CS) (m := m) (H := G9) zok (by omega)).ok g
  have ow := hv9.ok g
  -- the odd thing read
  refine seq_join (fun σ G => σ = [some (.ref p), some (.ref b), some (.ref x1), some (.str k), some xt, some (.ref R1), some (.str z), some (.ref a1), some v, none, none, none, none] ∧ Tabs TT G ∧ ExtN G9 G) ?_ fun rest => ?_
  rotate_left
  · refine ⟨T9, fun H3 x3 T3 => ⟨rfl, .ref x1, rfl, v, rfl, _, _, rfl, .inr ⟨x1, m, rfl, hS9.nt (.ext x3), g, ?_⟩⟩⟩
    have hv3 := hv9.nt (.ext x3)
    by_cases hs : ∃ y, v = .str y
    · obtain ⟨y, rfl⟩ := hs
      obtain ⟨_, l2, p9⟩ := three_ok y (hw y rfl)
      refine .inr ⟨y, rfl, by omega, p9, fun _ d H4 s4 e4 => ⟨true, xI, fun _ => ⟨d, .str y, w, m, rfl, e4, g, hv3.same s4, .inl ⟨rfl, fun L H5 s5 eL => ?_⟩⟩, fun h => (by cases h)⟩, fun u oku lu eu => absurd eu (no_text g (hw y rfl) oku)⟩
      refine ⟨.str y, rfl, ((hv3.same s4).same s5).show g ⟨(by show 2 ≤ sizeLine; decide), fun I nI => ?_⟩⟩
      have sI := same_new (o := .lst [V.str "InvalidText", .str w]) nI
      refine ⟨dW "InvalidText" w, dW "InvalidText" w, dp_W (sI _ _ eL), dp_W upd_same, sh_W (by decide +kernel) ow, sh_W (by decide +kernel) ow, _, rfl, ?_⟩
      rw [eqv_W]
      exact iteF (rest _ _ ⟨rfl, T3.ext (s4.trans (s5.trans sI)), ext_same x3 (s4.trans (s5.trans sI))⟩)
    · refine .inl ⟨hv3.noS Zc Ic R.ct fun y e => hs ⟨y, e⟩, fun d H4 s4 e4 => ⟨true, xI, fun _ => ⟨d, v, w, m, rfl, e4, g, hv3.same s4, .inl ⟨rfl, fun L H5 s5 eL => ?_⟩⟩, fun h => (by cases h)⟩⟩
      refine ⟨v, rfl, ((hv3.same s4).same s5).show g ⟨(by show 2 ≤ sizeLine; decide), fun I nI => ?_⟩⟩
      have sI := same_new (o := .lst [V.str "InvalidText", .str w]) nI
      refine ⟨dW "InvalidText" w, dW "InvalidText" w, dp_W (sI _ _ eL), dp_W upd_same, sh_W (by decide +kernel) ow, sh_W (by decide +kernel) ow, _, rfl, ?_⟩
      rw [eqv_W]
      exact iteF (rest _ _ ⟨rfl, T3.ext (s4.trans (s5.trans sI)), ext_same x3 (s4.trans (s5.trans sI))⟩)
  rintro σ G10 ⟨rfl, T10, x10⟩
  -- a text for a schema
  refine seq_join (fun σ G => σ = [some (.ref p), some (.ref b), some (.ref x1), some (.str k), some xt, some (.ref R1), some (.str z), some (.ref a1), some v, none, none, none, none] ∧ Tabs TT G ∧ ExtN G9 G) ?_ fun rest => ?_
  rotate_left
  · refine ⟨T10, fun H3 x3 T3 => ⟨rfl, .str z, rfl, v, rfl, _, _, rfl, .inl ⟨⟨_, .base (.str z), R.cs⟩, fun d H4 s4 e4 => ⟨true, xN, fun _ => ⟨d, .str z, _, m, rfl, e4, g, .txt zok (by omega), .inr ⟨rfl, fun L H5 s5 eL => ?_⟩⟩, fun h => (by cases h)⟩⟩⟩⟩
    refine ⟨.str z, rfl, (Shw.txt (CT := CT) (CS := CS) (m := m) zok (by omega)).show g ⟨(by show 2 ≤ sizeLine; decide), fun I nI => ?_⟩⟩
    have sI := same_new (o := .lst [V.str "NotASchema", .str (PyData.str z).shown]) nI
    refine ⟨dW "NotASchema" (PyData.str z).shown, dW "NotASchema" (PyData.str z).shown, dp_W (sI _ _ eL), dp_W upd_same, sh_W (by decide +kernel) zo, sh_W (by decide +kernel) zo, _, rfl, ?_⟩
    rw [eqv_W]
    exact iteF (rest _ _ ⟨rfl, T3.ext (s4.trans (s5.trans sI)), ext_same (x10.trans x3) (s4.trans (s5.trans sI))⟩)
  rintro σ G11 ⟨rfl, T11, x11⟩
  have D11 := deal_ext D9 x11
  have hM11 := hM9.nt (.ext x11)
  have hS11 := hS9.nt (.ext x11)
  have b11 := b09.trans (.ext x11)
  clear T9 D9 hM9 hS9 b09 T10 x10 x11
  -- eight bent texts
  refine seq_join (fun σ G => ∃ (o9 o10 o11 o12 : Option V), σ = [some (.ref p), some (.ref b), some (.ref x1), some (.str k), some xt, some (.ref R1), some (.str z), some (.ref a1), some v, o9, o10, o11, o12] ∧ DealAt G p ∧ Tabs TT G ∧ SbN p H G ∧ MdAt G b m ∧ ScAt CS G x1 m) ?_ fun rest => ?_
  rotate_left
  · refine ⟨_, rfl, by decide, by decide, for_range (n := 8) (fun i σ G => ∃ (o9 o10 o11 o12 : Option V), σ = [some (.ref p), some (.ref b), some (.ref x1), some (.str k), some xt, some (.ref R1), some (.str z), some (.ref a1), some v, o9, o10, o11, o12] ∧ DealAt G p ∧ Tabs TT G ∧ SbN p H G ∧ MdAt G b m ∧ ScAt CS G x1 m)
      ⟨none, none, none, none, rfl, D11, T11, b11, hM11, hS11⟩ ?_ ?_⟩
    rotate_left
    · rintro σ G ⟨o9, o10, o11, o12, rfl, D, T', bb, hM, hS⟩
      exact rest _ _ ⟨o9, o10, o11, o12, rfl, D, T', bb, hM, hS⟩
    clear T11 D11 hM11 hS11 b11
    rintro i σ G hi ⟨o9, o10, o11, o12, rfl, D, TG, bb, hM, hS⟩
    show tSeq _ _ _ _ _
    refine seq_join (fun σ G' => ∃ (o9 : Option V) (y : Str), σ = [some (.ref p), some (.ref b), some (.ref x1), some (.str k), some xt, some (.ref R1), some (.str z), some (.ref a1), some v, o9, some (.str y), o11, o12] ∧ BentOk y ∧ DealAt G' p ∧ Sb p G G') ?_ fun rest => ?_
    rotate_left
    · refine ⟨.ref p, rfl, .str z, rfl, p, (codes (sub t)).map rowS, by rw [ez]; rfl, D, pc, lpc, fun y H1 hy D1 b1 => rest _ _ ⟨_, y, rfl, hy, D1, b1⟩⟩
    rintro σ G1 ⟨o9, y, rfl, hy, D1, b1⟩
    have n1 := Nl.deal D b1
    have T1 := tabs_sb TG D b1
    have hM1 := hM.nl n1
    have hS1 := hS.nl n1
    have bb1 := bb.trans (.sb b1)
    clear D TG hM hS bb b1 n1
    have y9 : ∀ q ∈ cutS y "; ", q.length ≤ 900 := fun q hq => by
      have := cut_len (z := y) (y := "; ") (p := q) (by decide +kernel) (by decide +kernel) hq
      have := hy.len
      omega
    have hyl := hy.len
    have yo : PyData.strOk (PyData.str y).shown = true := (Shw.txt (CT := CT) (CS := CS) (m := m) (H := G1) hy.ok (by omega)).ok g
    refine seq_join (fun σ G' => ∃ A L : Addr, σ = [some (.ref p), some (.ref b), some (.ref x1), some (.str k), some xt, some (.ref R1), some (.str z), some (.ref a1), some v, o9, some (.str y), some (.ref A), some (.ref L)] ∧ Tabs TT G' ∧ ExtN G1 G' ∧
      ((∃ (u : Tr) (a : Addr) (yv : V), u.Ok m ∧ stT u = y ∧ (sub u).length ≤ 41 ∧ u.dep ≤ 41 ∧ LtAt G' yv u ∧ G' A = some (.lst [yv]) ∧ TrAt CT CS m G' a u ∧ G' L = some (.lst [.str "given", .ref a])) ∨
       (G' A = some (.lst []) ∧ G' L = some (.lst [.str "InvalidText", .str (PyData.str y).shown])))) ?_ fun rest => ?_
    rotate_left
    · refine ⟨.ref b, rfl, .str y, rfl, b, m, y, rfl, hM1, g, by omega, y9, hy.par, fun hn A H2 s2 eA => ?_, fun u oku l41 d41 eu A yv H2 s2 hyv eA => ?_⟩
      · refine ⟨T1.ext s2, fun H3 x3 T3 => ⟨rfl, .ref x1, rfl, .str y, rfl, _, _, rfl, .inr ⟨x1, m, rfl, (hS1.keep s2).nt (.ext x3), g, .inr ⟨y, rfl, by omega, y9, fun _ d H4 s4 e4 => ⟨true, xI, fun _ => ⟨d, .str y, _, m, rfl, e4, g, .txt hy.ok (by omega), .inl ⟨rfl, fun L H5 s5 eL => ⟨_, _, rfl, ?_⟩⟩⟩, fun h => (by cases h)⟩, fun u oku lu eu => absurd eu (hn u oku)⟩⟩⟩⟩
        exact rest _ _ ⟨A, L, rfl, T3.ext (s4.trans s5), ext_same ((ExtN.of s2).trans x3) (s4.trans s5), .inr ⟨(s4.trans s5) _ _ (x3 _ _ eA fun _ z => by cases z), eL⟩⟩
      · refine ⟨T1.ext s2, fun H3 x3 T3 => ⟨rfl, .ref x1, rfl, .str y, rfl, _, _, rfl, .inr ⟨x1, m, rfl, (hS1.keep s2).nt (.ext x3), g, .inr ⟨y, rfl, by omega, y9, fun hn => absurd eu (hn u oku (by omega)), fun u' ok' l' e' a H4 s4 ha => ⟨.ref a, rfl, (by show 2 ≤ sizeLine; decide), fun L nL => ⟨_, _, rfl, ?_⟩⟩⟩⟩⟩⟩
        have sL := same_new (o := .lst [V.str "given", .ref a]) nL
        have eu' : u' = u := text_inj g ok' oku l' (by omega) (e'.trans eu.symm)
        rw [eu'] at ha
        have s45 := s4.trans sL
        exact rest _ _ ⟨A, L, rfl, T3.ext s45, ext_same ((ExtN.of s2).trans x3) s45, .inl ⟨u, a, yv, oku, eu, l41, d41, hyv.tk ((Nt.ext x3).trans (.of s45)).tk, s45 _ _ (x3 _ _ eA fun _ z => by cases z), ha.keep sL, upd_same⟩⟩
    rintro σ G2 ⟨A, L, rfl, T2, x2, hc⟩
    have fin : ∀ G', Same G2 G' → DealAt G' p ∧ Tabs TT G' ∧ SbN p H G' ∧ MdAt G' b m ∧ ScAt CS G' x1 m := fun G' sA => ⟨(deal_ext D1 x2).keep sA, T2.ext sA, bb1.trans (.ext (ext_same x2 sA)), (hM1.nt (.ext x2)).keep sA, (hS1.nt (.ext x2)).keep sA⟩
    rcases hc with ⟨u, a, yv, oku, eu, l41, d41, hyv, eA, hta, eL⟩ | ⟨eA, eL⟩
    · refine ⟨.ref A, rfl, (by show 0 ≤ sizeLine; exact Nat.zero_le _), fun E1 nE1 => ?_⟩
      have s1 := same_new (o := .lst []) nE1
      refine .inr ⟨A, E1, yv, [], rfl, rfl, s1 _ _ eA, upd_same, _, rfl, iteF (iteF ?_)⟩
      refine ⟨.ref A, rfl, (by show 0 ≤ sizeLine; exact Nat.zero_le _), fun E2 nE2 => ?_⟩
      have s2 := s1.trans (same_new (o := .lst []) nE2)
      refine .inr ⟨A, E2, yv, [], rfl, rfl, s2 _ _ eA, upd_same, _, rfl, iteT ⟨.ref L, rfl, L, _, _, .str "given", rfl, rfl, SqL.of (s2 _ _ eL), rfl, rfl, _, rfl, ?_⟩⟩
      rw [show (!decide (V.str "given" = V.str "given")) = false by simp]
      refine iteF ⟨.ref A, rfl, (by show 0 ≤ sizeLine; exact Nat.zero_le _), fun E3 nE3 => ?_⟩
      have s3 := s2.trans (same_new (o := .lst []) nE3)
      have h3 := hta.keep s3
      cases id h3 with
      | @mk _ dB RB sB FB _ bsB eB hsB hRB hFB lbB kbB =>
      refine .inr ⟨A, E3, yv, [], rfl, rfl, s3 _ _ eA, upd_same, _, rfl, iteT ⟨.ref L, rfl, L, _, _, .ref a, rfl, rfl, SqL.of (s3 _ _ eL), rfl, a, dB, _, rfl, eB, a, dB, _, _, rfl, eB, trF_R, .ref A, rfl, A, _, _, yv, rfl, rfl, SqL.of (s3 _ _ eA), rfl, yv, u, m, rfl, hyv.tk (.of s3), d41, oku, g, by omega, fun R4 H5 s5 hR4 => ?_⟩⟩
      refine ⟨_, _, dp_rns (hRB.keep s5), dp_rns hR4, lay_rns (codes_nm g (sub_ok oku)), lay_rns (codes_nm g (sub_ok oku)), _, rfl, ?_⟩
      rw [eqv_rns, decide_eq_true rfl]
      have s35 := s3.trans s5
      refine iteF ⟨.ref L, rfl, L, _, _, .ref a, rfl, rfl, SqL.of (s35 _ _ eL), rfl, a, dB, _, rfl, s5 _ _ eB, a, m, u, rfl, h3.keep s5, g, oku, by omega, fun H6 s6 => ⟨_, rfl, .str y, rfl, rfl, _, rfl, ?_⟩⟩
      rw [show (!decide (V.str (stT u) = V.str y)) = false by rw [eu]; simp]
      exact iteF ⟨_, _, _, _, rfl, fin _ (s35.trans s6)⟩
    · refine ⟨.ref A, rfl, (by show 0 ≤ sizeLine; exact Nat.zero_le _), fun E1 nE1 => ?_⟩
      have s1 := same_new (o := .lst []) nE1
      refine .inl ⟨.list [], .list [], .lst (SqL.of (s1 _ _ eA)) .nil, .lst (SqL.of upd_same) .nil, rfl, rfl, true, rfl, iteT ⟨.ref L, rfl, ?_⟩⟩
      refine ⟨.str y, rfl, (Shw.txt (CT := CT) (CS := CS) (m := m) hy.ok (by omega)).show g ⟨(by show 2 ≤ sizeLine; decide), fun I nI => ?_⟩⟩
      have s2 := s1.trans (same_new (o := .lst [V.str "InvalidText", .str (PyData.str y).shown]) nI)
      refine ⟨dW "InvalidText" (PyData.str y).shown, dW "InvalidText" (PyData.str y).shown, dp_W (s2 _ _ eL), dp_W upd_same, sh_W (by decide +kernel) yo, sh_W (by decide +kernel) yo, _, rfl, ?_⟩
      rw [eqv_W]
      refine iteF ⟨.ref A, rfl, (by show 0 ≤ sizeLine; exact Nat.zero_le _), fun E2 nE2 => ?_⟩
      have s3 := s2.trans (same_new (o := .lst []) nE2)
      refine .inl ⟨.list [], .list [], .lst (SqL.of (s3 _ _ eA)) .nil, .lst (SqL.of upd_same) .nil, rfl, rfl, false, rfl, iteF (iteF ?_)⟩
      refine ⟨.ref A, rfl, (by show 0 ≤ sizeLine; exact Nat.zero_le _), fun E3 nE3 => ?_⟩
      have s4 := s3.trans (same_new (o := .lst []) nE3)
      refine .inl ⟨.list [], .list [], .lst (SqL.of (s4 _ _ eA)) .nil, .lst (SqL.of upd_same) .nil, rfl, rfl, false, rfl, iteF (iteF ?_)⟩
      exact ⟨_, _, _, _, rfl, fin _ s4⟩
  rintro σ G12 ⟨o9, o10, o11, o12, rfl, D, T', bb, hM, hS⟩
  exact q _ bb D T'
end
end Ks
set_option Elab.async false
set_option linter.all false
set_option maxRecDepth 100000
set_option maxHeartbeats 4000000
namespace Ks
open PySem PySem.Spec PyProof.Rows L2 Gd Kx LamX
abbrev sLng : Stmt := Kx.topS 66
abbrev nLng : List Str := ["_law_deal_here", "_law_words_here", "_law_schema_own", "_law_parts", "_law_line_here", "_law_k"]
theorem scLng : FnScope nLng ["_law_deal_here"] (defScope sLng) := ⟨rfl, rfl, rfl, by decide +kernel, rfl, by decide +kernel, by decide +kernel⟩
def qLng : Str := (envOfC "_law_long_right" (defScope sLng) 0 0 (.ref 0)).qual ++ Str.ofString "<lambda>"
/-- a schema of a leaf and one with a field -/
def mLng (a b c : Str) : Md := ⟨[a], [(b, a, []), (c, a, [a])]⟩
theorem good_lng {a b c : Str} (ha : nmS a = true) (hb : nmS b = true) (hc : nmS c = true) (n : b ≠ c) : Good (mLng a b c) := by
  refine ⟨by show 1 ≤ 1; decide, by show 1 ≤ 4; decide, ?_, by simp [mLng], by show 1 ≤ 2; decide, by show 2 ≤ 6; decide, ?_, ?_, ?_, ?_, ?_, ?_⟩
  · intro k hk
    rw [show k = a by simpa [mLng] using hk]
    exact ha
  · intro r hr
    have : r = (b, a, []) ∨ r = (c, a, [a]) := by simpa [mLng] using hr
    rcases this with rfl | rfl
    · exact hb
    · exact hc
  · simp [mLng, n]
  · intro r hr
    have : r = (b, a, []) ∨ r = (c, a, [a]) := by simpa [mLng] using hr
    rcases this with rfl | rfl <;> simp [mLng]
  · intro r hr
    have : r = (b, a, []) ∨ r = (c, a, [a]) := by simpa [mLng] using hr
    rcases this with rfl | rfl <;> simp
  · intro r hr f hf
    have : r = (b, a, []) ∨ r = (c, a, [a]) := by simpa [mLng] using hr
    rcases this with rfl | rfl
    · simp at hf
    · simpa [mLng] using hf
  · intro k hk
    have e : k = a := by simpa [mLng] using hk
    exact ⟨(b, a, []), by simp [mLng], e.symm, rfl⟩
/-- a row of the long text -/
def rowLng (c : Str) (k : Nat) : Str := (c ++ Str.ofString " ") ++ nsS k
def partsLng (b c : Str) : List Str := b :: (List.range 200).map (rowLng c)
theorem part_lng {b c : Str} (hb : nmS b = true) (hc : nmS c = true) : ∀ q ∈ partsLng b c, 59 ∉ TL.tl q ∧ q.length ≤ 12 ∧ okS q := fun q hq => by
  rcases List.mem_cons.mp hq with rfl | hq
  · exact ⟨nm_free hb (by decide +kernel), Nat.le_trans (nm_len hb).2 (by decide), okS_nm hb⟩
  · obtain ⟨k, hk, rfl⟩ := List.mem_map.mp hq
    have hk' := List.mem_range.mp hk
    have l1 : (Str.ofString " ").length = 1 := by decide +kernel
    have l8 := (nm_len hc).2
    have l3 : (nsS k).length ≤ 3 := nsS_len (by decide) (Nat.lt_of_lt_of_le hk' (by decide))
    refine ⟨fun hm => ?_, ?_, okS_app (okS_app (okS_nm hc) (okS_of " ")) (okS_ns k)⟩
    · have e : TL.tl (rowLng c k) = TL.tl c ++ TL.tl (Str.ofString " ") ++ TL.tl (nsS k) := by
        unfold rowLng
        rw [TL.tl_append, TL.tl_append]
      rw [e] at hm
      rcases List.mem_append.mp hm with hm | hm
      · rcases List.mem_append.mp hm with hm | hm
        · exact nm_free hc (by decide +kernel) hm
        · rw [show TL.tl (Str.ofString " ") = [32] from by decide +kernel] at hm
          simp at hm
      · exact ns_free (by decide) hm
    · show ((c ++ Str.ofString " ") ++ nsS k).length ≤ 12
      rw [Str.length_append, Str.length_append]
      omega
theorem len_lng (b c : Str) : (partsLng b c).length = 201 := by
  unfold partsLng
  rw [List.length_cons, List.length_map, List.length_range]
theorem sum_lng : ∀ l : List Str, (∀ z ∈ l, z.length ≤ 12) → (l.map (·.length)).sum ≤ l.length * 12
  | [], _ => Nat.le_refl _
  | z :: r, h => by
    have a := h z (List.mem_cons_self ..)
    have b := sum_lng r fun x hx => h x (List.mem_cons_of_mem _ hx)
    rw [List.map_cons, List.sum_cons, List.length_cons, Nat.add_mul, Nat.one_mul]
    omega
section
variable {P : Program} {w : World} {K : PySem.W.Frag} {mg : Str → Option Value} {base : Heap} {CT CS IT NS : Addr}
set_option maxHeartbeats 32000000 in
theorem ok_lng {f fp fl fs fin frd prd cc Pt : Addr} {mcR : Value} {fd dp dl ds din drd : FuncData} {TT : List (Addr × Str)} (F : Fun K "_law_long_right" "_law_long_right" sLng f fd) (hcd : fd.code = .ref cc) (TB : TabB base mg cc Pt) (hTm : (Pt, qLng) ∈ TT) (hTu : ∀ p ∈ TT, p.1 = Pt → p.2 = qLng)
    (T : TS0 mg) (mrp : mg "repr" = none) (C : Tcs P w K mg base CT CS) (S : Sch P w K mg base CS) (R : ERk K mg CT CS IT NS)
    (Min : Mk K CS fin) (Gin : FnOk P w K mg base CX0 4 fin din ["self", "kinds", "constructors"] (spIni CS)) (Bin : Binds K din ["self", "kinds", "constructors"] [])
    (rdT : ClX.CRead K CT mcR) (cmR : ClX.CMet K CT mcR "read" prd frd) (FRd : FnOk P w K mg base (CX P w) 9 frd drd ["cls", "schema", "text"] (spRd K CT CS NS IT)) (bRd : Binds K drd ["cls", "schema", "text"] [])
    (GWs : FnOk P w K mg base CX0 3 fp dp ["_law_deal_here", "_law_many"] spWds) (kp : PySem.W.keepIn K (.ref fp) = true) (bP : Binds K dp ["_law_deal_here", "_law_many"] []) (gP : mg "_law_words" = some (.ref fp))
    (FT : Fun K "_law_told" "_law_told" sTl fl dl) (bTl : Binds K dl ["_law_act"] []) (gTl : mg "_law_told" = some (.ref fl))
    (FS : FnE P w K mg base 6 fs ds "_law_e" (spSrt CT CS IT NS)) (kS : PySem.W.keepIn K (.ref fs) = true) (bS : Binds K ds ["_law_e"] []) (gS : mg "_law_sort" = some (.ref fs)) :
    Pr P w K mg base CX0 12 f fd ["_law_deal_here"] (spRgtT TT) := by
  obtain ⟨oc, od, kV, dc, pm, an, cvT, ct, osl, rfl, lkT, hcT⟩ := FT.ex
  obtain ⟨c1, c2, c3, m1, m2, m3, xI, xN⟩ := R.t
  refine okGC F hcd scLng (fun vs H Q E h => ?_) (fun A ou s H vs Q E hG hr h => ?_)
  · obtain ⟨p, rfl, _⟩ := h
    rfl
  obtain ⟨p, rfl, hD, hT, q⟩ := h
  obtain ⟨⟨Zc, Ic, gTr, _, _, _, _, _⟩, nb, _, ⟨frp, drp, Drp, Frp, brp⟩, _, _, nn, mo⟩ := C
  obtain ⟨Zs, Is, gSc, _, _⟩ := S
  have FRr : FnR P w K mg base (CX P w) 9 frd (spRd K CT CS NS IT) := by
    have := FRd.raw bRd .nil
    simpa only [List.append_nil] using this
  have hG2 : (A.deeper (envOfC "_law_long_right" (defScope sLng) s.heap.objs.size f (.ref cc))).guards = some [] := hG
  have hrr : ∀ n, n ≤ 11 → Room n (A.deeper (envOfC "_law_long_right" (defScope sLng) s.heap.objs.size f (.ref cc))) := fun n h => hr.mono h
  have hr2 := hrr 2 (by decide)
  have hr3 := hrr 3 (by decide)
  have hr5 := hrr 5 (by decide)
  have hr7 := hrr 7 (by decide)
  have hr11 := hrr 11 (by decide)
  have hu := hr.units
  have told : ∀ q : Str, GivesTo (cxOf CX0 P w K mg base nLng "_law_long_right" (defScope sLng) f (.ref cc) A ou s H E).nox nTold "_law_told" (defScope sTl) fl cvT (defBody sTl) "_law_act" q (TTold3 K c1 c2 c3 (spSrt CT CS IT NS)) := fun q => told3 (X := (cxOf CX0 P w K mg base nLng "_law_long_right" (defScope sLng) f (.ref cc) A ou s H E).nox) (x := "_law_told") (q := q) (g := fl) (cdg := cvT) scTl rfl rfl rfl m1 rfl m2 rfl m3 rfl gS FS kS bS hG2 hr7
  have RP : CallR (cxOf CX0 P w K mg base nLng "_law_long_right" (defScope sLng) f (.ref cc) A ou s H E).nox (.builtin "repr") _ := call_or (call_showV hG2 hu) (call_or (call_reprO Drp Frp hr2 brp pass0) (call_reprD0 hG2 hu))
  refine ⟨_, pss_cons (ps_set (i := 1) scLng.nd rfl (.inr rfl) (pe_call GWs hr3 (by rfl) gP kp bP .nil pass0 (pa_cons (pv 0) (pa_cons pe_int pa_nil))))
    (pss_cons (ps_set (i := 2) scLng.nd rfl (.inr rfl) (pe_make Min Gin hr5 (by rfl) gSc Bin .nil pass0 (pa_cons (pe_tup (pa_cons (pe_ix ix_list (pv 1) pe_int (fun _ _ => rfl)) pa_nil))
        (pa_cons (pe_tup (pa_cons (pe_tup (pa_cons (pe_ix ix_list (pv 1) pe_int (fun _ _ => rfl)) (pa_cons (pe_ix ix_list (pv 1) pe_int (fun _ _ => rfl)) (pa_cons (pe_tup pa_nil) pa_nil))))
          (pa_cons (pe_tup (pa_cons (pe_ix ix_list (pv 1) pe_int (fun _ _ => rfl)) (pa_cons (pe_ix ix_list (pv 1) pe_int (fun _ _ => rfl)) (pa_cons (pe_tup (pa_cons (pe_ix ix_list (pv 1) pe_int (fun _ _ => rfl)) pa_nil)) pa_nil)))) pa_nil))) pa_nil))))
    (pss_cons (ps_set (i := 3) scLng.nd rfl (.inl rfl) (pe_op op_cat (pe_lst (pa_cons (pe_ix ix_list (pv 1) pe_int (fun _ _ => rfl)) pa_nil))
        (pe_lc (own := [("_law_k", 5)]) (g := gName 5) (tt := tYes) (by rfl) scLng.nd (pi_range1 rfl T.rng (pa_cons pe_int pa_nil)) (blkOk_by (own := [("_law_k", 5)]) (N := nLng) (sc := defScope sLng) (by decide +kernel))
          (fun _ _ _ _ _ => pg_name (i := 5) scLng.nd rfl (Or.inl rfl)) (fun _ _ _ _ _ => pts_nil)
          (fun _ _ _ _ _ => asTE (te := tOp (fun x y H Q => ∃ i j, x = .str i ∧ y = .str j ∧ i.length + j.length ≤ sizeLine ∧ Q (.str (i ++ j)) H) (tOp (fun x y H Q => ∃ i j, x = .str i ∧ y = .str j ∧ i.length + j.length ≤ sizeLine ∧ Q (.str (i ++ j)) H) (tOp (rIxL K) (tVar 1) (tC (.int 2))) (tC (.str " "))) (tCB (fun xs H Q => ∃ i, xs = [V.int i] ∧ i.natAbs.log2 < 1920 ∧ Q (.str (toString i)) H) (tCons (tVar 5) tNil)))
            (pe_op op_add_str (pe_op op_add_str (pe_ix ix_list (pv 1) pe_int (fun _ _ => rfl)) pe_str) (pe_callTy call_str_int (by rfl) T.str boot_str (pa_cons (pv 5) pa_nil))) rfl))))
    (pss_cons (ps_set (i := 4) scLng.nd rfl (.inr rfl) (pe_join pe_str (pv 3)))
    (pss_one (ps_ret (pe_cmpR (op_eqD hu) (pe_lamcall (T := TT) (k := 9) (t := fun E => ClX.tCMeth CT (spRd K CT CS NS IT) E (tC (.ref CT)) (tCons (tVar 2) (tCons (tVar 4) tNil))) (by rfl) gTl FT.kp lkT hcT bTl scTl rfl (.inl rfl) (told _) TB rfl hTm hTu hr11 (lamS_by (sc := defScope sLng) (by decide +kernel)) rfl (fun _ _ _ _ _ => rfl)
          (fun A' ou' s' H' E' f' c' hR' => ClX.pe_cmeth (pe_glob (v := .ref CT) (by rfl) gTr rfl) rdT cmR FRr hR' (passes_call (takes_of rfl rfl rfl rfl) (fun _ _ _ _ h => h)) (pa_cons (pv 2) (pa_cons (pv 4) pa_nil))))
        (pe_lst (pa_cons pe_str (pa_cons (pe_callB RP (by rfl) mrp boot_repr (pa_cons (pv 4) pa_nil)) pa_nil))) (nomark _))))))), ?_⟩
  refine seq_join (fun σ G => ∃ (W : Addr) (a b c : Str), σ = [some (.ref p), some (.ref W), none, none, none, none] ∧ DealAt G p ∧ Sb p H G ∧ G W = some (.lst [.str a, .str b, .str c]) ∧ nmS a = true ∧ nmS b = true ∧ nmS c = true ∧ b ≠ c) ?_ fun rest => ?_
  rotate_left
  · refine ⟨.ref p, rfl, p, 3, rfl, hD, by decide, fun W ts H1 D1 b1 nW Wp eW hz nd hl => ?_⟩
    match ts, hz, nd, hl, eW with
    | [a, b, c], hz, nd, _, eW =>
      refine rest _ _ ⟨W, a, b, c, rfl, D1, b1, eW, hz a (by simp), hz b (by simp), hz c (by simp), fun e => ?_⟩
      subst e
      simp at nd
  rintro σ G1 ⟨W, a, b, c, rfl, D1, b1, eW, ha, hb, hc, hbc⟩
  have T1 := tabs_sb hT hD b1
  have g := good_lng ha hb hc hbc
  refine seq_join (fun σ G => ∃ x1 : Addr, σ = [some (.ref p), some (.ref W), some (.ref x1), none, none, none] ∧ Same G1 G ∧ ScAt CS G x1 (mLng a b c)) ?_ fun rest => ?_
  rotate_left
  · refine ⟨.ref W, rfl, W, _, _, .str a, rfl, rfl, SqL.of (eW), rfl, (by show 1 ≤ sizeLine; decide), fun kA nkA => ?_⟩
    have s1 := same_new (o := .tup [.str a]) nkA
    refine ⟨.ref W, rfl, W, _, _, .str b, rfl, rfl, SqL.of (s1 _ _ eW), rfl, .ref W, rfl, W, _, _, .str a, rfl, rfl, SqL.of (s1 _ _ eW), rfl, (by show 0 ≤ sizeLine; exact Nat.zero_le _), fun f1 nf1 => ⟨(by show 3 ≤ sizeLine; decide), fun r1 nr1 => ?_⟩⟩
    have s2 := same_new (o := .tup []) nf1
    have s3 := same_new (o := .tup [.str b, .str a, .ref f1]) nr1
    have s13 := s1.trans (s2.trans s3)
    refine ⟨.ref W, rfl, W, _, _, .str c, rfl, rfl, SqL.of (s13 _ _ eW), rfl, .ref W, rfl, W, _, _, .str a, rfl, rfl, SqL.of (s13 _ _ eW), rfl, .ref W, rfl, W, _, _, .str a, rfl, rfl, SqL.of (s13 _ _ eW), rfl, (by show 1 ≤ sizeLine; decide), fun f2 nf2 => ⟨(by show 3 ≤ sizeLine; decide), fun r2 nr2 => ⟨(by show 2 ≤ sizeLine; decide), fun rA nrA => ?_⟩⟩⟩
    have s4 := same_new (o := .tup [.str a]) nf2
    have s5 := same_new (o := .tup [.str c, .str a, .ref f2]) nr2
    have s6 := same_new (o := .tup [.ref r1, .ref r2]) nrA
    refine fun x1 dx1 nx1 nd1 ne1 => ?_
    have s0 := mk_baseT (C := CS) nx1 nd1
    have s46 := s4.trans (s5.trans s6)
    have hk : StT _ kA (mLng a b c).ks := s46 _ _ (s3 _ _ (s2 _ _ (upd_same (H := G1) (a := kA) (o := .tup [.str a]))))
    have hR : RowsT _ rA (mLng a b c).rs := ⟨[.ref r1, .ref r2], .inl upd_same, .cons ⟨r1, f1, rfl, s46 _ _ upd_same, s46 _ _ (s3 _ _ upd_same)⟩ (.cons ⟨r2, f2, rfl, s6 _ _ upd_same, s6 _ _ (s5 _ _ upd_same)⟩ .nil)⟩
    refine ⟨x1, dx1, kA, rA, mLng a b c, rfl, upd_same, s0 _ _ hk, hR.keep s0, g, fun n1 H2 bt1 nx ex1 fz1 => ⟨rfl, ?_⟩⟩
    have s7 := mk_sameT nx1 nd1 bt1
    exact rest _ _ ⟨x1, rfl, s13.trans (s46.trans s7), dx1, kA, rA, n1, ex1, s7 _ _ hk, hR.keep s7, fz1⟩
  rintro σ G2 ⟨x1, rfl, s2, hS2⟩
  have eW2 := s2 _ _ eW
  have l1 : (Str.ofString " ").length = 1 := by decide +kernel
  have l8 := (nm_len hc).2
  have n3 : ∀ k : Nat, k < 200 → (nsS k).length ≤ 3 := fun k h => nsS_len (by decide) (Nat.lt_of_lt_of_le h (by decide))
  refine seq_join (fun σ G => ∃ PA : Addr, σ = [some (.ref p), some (.ref W), some (.ref x1), some (.ref PA), none, none] ∧ Same G2 G ∧ G PA = some (.lst ((partsLng b c).map V.str))) ?_ fun rest => ?_
  rotate_left
  · refine ⟨.ref W, rfl, W, _, _, .str b, rfl, rfl, SqL.of (eW2), rfl, (by show 1 ≤ sizeLine; decide), fun B1 nB1 => ?_⟩
    have s3 := same_new (o := .lst [.str b]) nB1
    refine ⟨_, rfl, by decide, by decide, fun D nD => lc_rangeY (n := 200) (fun i H' => Same (upd G2 B1 (.lst [.str b])) H' ∧ H' D = some (.lst (((List.range i).map (rowLng c)).map V.str))) (fun _ => rfl) ⟨same_new nD, upd_same⟩ ?_ ?_⟩
    · rintro i H4 hi ⟨s4, e4⟩
      have eW4 := s4 _ _ (s3 _ _ eW2)
      have sz := sizeLine_eq
      refine ⟨.ref W, rfl, W, _, _, .str c, rfl, rfl, SqL.of (eW4), rfl, _, _, rfl, rfl, (by rw [l1]; omega), .int (0 + (i : Int)), rfl, _, rfl, ?_, _, _, rfl, rfl, ?_, _, e4, ?_, ?_, ?_⟩
      · rw [Int.zero_add]
        exact log_ok (Nat.lt_of_lt_of_le hi (by decide))
      · rw [Int.zero_add]
        have := n3 i hi
        have sz := sizeLine_eq
        have e1 : (c ++ Str.ofString " ").length = c.length + (Str.ofString " ").length := Str.length_append ..
        show (c ++ Str.ofString " ").length + (nsS i).length ≤ sizeLine
        omega
      · rw [List.length_map, List.length_map, List.length_range]
        exact small1000 (by omega)
      · intro x o e
        rw [upd_ne (ne_of_none e nD)]
        exact s4 _ _ e
      · rw [upd_same, List.range_succ, List.map_append, List.map_append, Int.zero_add]
        rfl
    · rintro H4 ⟨s4, e4⟩
      refine ⟨B1, D, _, _, rfl, rfl, s4 _ _ upd_same, e4, ?_, fun PA nPA => ?_⟩
      · rw [List.length_singleton, List.length_map, List.length_map, List.length_range]
        decide
      · exact rest _ _ ⟨PA, rfl, s3.trans (s4.trans (same_new nPA)), by rw [upd_same]; rfl⟩
  rintro σ G3 ⟨PA, rfl, s3, ePA⟩
  have pq := part_lng hb hc
  have ll := len_lng b c
  have sm := sum_lng (partsLng b c) fun z hz => (pq z hz).2.1
  have l2 : (Str.ofString "; ").length = 2 := by decide +kernel
  have zc : cutS (joinP (partsLng b c)) "; " = partsLng b c := TL.split_join (s := 59) (S := [32]) (by decide +kernel) (by decide +kernel) (by simp [partsLng]) fun q hq => (pq q hq).1
  have zl : (joinP (partsLng b c)).length ≤ 5000 := by
    have a := StrLaws.join_length_le (Str.ofString "; ") (partsLng b c)
    unfold joinP
    rw [TL.join_eq]
    rw [l2] at a
    omega
  have zok : okS (joinP (partsLng b c)) := by
    unfold joinP
    rw [TL.join_eq]
    exact okS_join (okS_of "; ") fun z hz => (pq z hz).2.2
  have no : ∀ u : Tr, u.Ok (mLng a b c) → (sub u).length ≤ 200 → stT u ≠ joinP (partsLng b c) := fun u oku lu e => by
    have h := cut_stT g oku
    rw [e, zc] at h
    have := congrArg List.length h
    rw [ll, List.length_map, codes_len] at this
    omega
  refine seq_join (fun σ G => σ = [some (.ref p), some (.ref W), some (.ref x1), some (.ref PA), some (.str (joinP (partsLng b c))), none] ∧ G = G3) ?_ fun rest => ?_
  rotate_left
  · refine ⟨⟨_, rfl⟩, .ref PA, rfl, _, PA, partsLng b c, rfl, rfl, .inl (SqL.of ePA), ?_, rest _ _ ⟨rfl, rfl⟩⟩
    rw [l2]
    omega
  rintro σ G ⟨rfl, rfl⟩
  have T3 := (T1.ext s2).ext s3
  have hS3 := hS2.keep s3
  have b03 := b1.trans (.of (s2.trans s3))
  have zo : PyData.strOk (PyData.str (joinP (partsLng b c))).shown = true := (Shw.txt (CT := CT) (CS := CS) (m := mLng a b c) (H := G) zok zl).ok g
  refine ⟨T3, fun H3 x3 T4 => ⟨rfl, .ref x1, rfl, .str (joinP (partsLng b c)), rfl, _, _, rfl, .inr ⟨x1, mLng a b c, rfl, hS3.nt (.ext x3), g, .inr ⟨joinP (partsLng b c), rfl, by omega, fun q hq => ?_, fun _ d H4 s4 e4 => ⟨true, xI, fun _ => ⟨d, .str (joinP (partsLng b c)), _, mLng a b c, rfl, e4, g, .txt zok zl, .inl ⟨rfl, fun L H5 s5 eL => ?_⟩⟩, fun h => (by cases h)⟩, fun u oku lu eu => absurd eu (no u oku lu)⟩⟩⟩⟩
  · rw [zc] at hq
    exact Nat.le_trans (pq q hq).2.1 (by decide)
  refine ⟨.str (joinP (partsLng b c)), rfl, (Shw.txt (CT := CT) (CS := CS) (m := mLng a b c) zok zl).show g ⟨(by show 2 ≤ sizeLine; decide), fun I nI => ?_⟩⟩
  have sI := same_new (o := .lst [V.str "InvalidText", .str (PyData.str (joinP (partsLng b c))).shown]) nI
  refine ⟨dW "InvalidText" (PyData.str (joinP (partsLng b c))).shown, dW "InvalidText" (PyData.str (joinP (partsLng b c))).shown, dp_W (sI _ _ eL), dp_W upd_same, sh_W (by decide +kernel) zo, sh_W (by decide +kernel) zo, ?_⟩
  rw [eqv_W]
  have s := s4.trans (s5.trans sI)
  exact q _ ((SbN.sb b03).trans (.ext (ext_same x3 s))) (T4.ext s)
end
end Ks
set_option Elab.async false
set_option linter.all false
set_option maxRecDepth 100000
set_option maxHeartbeats 4000000
/-! A head by one run: each def where a function of the written part says (a global, a method, a property's getter). -/
namespace Gd
open PySem PySem.Spec PyProof.Rows L2
structure FnX where
  ad : PySem.W.Frag → Addr
  name : Str
  qual : Str
  st : Stmt
def FnX.val (d : FnX) : He.FnV := some (d.name, d.qual, defArgs d.st, .stmts (defBody d.st), defScope d.st, mainGlobals, [], .none, builtinsNs)
def fnObsA (K : PySem.W.Frag) (a : Addr) : He.FnV := match K.lookup a with
  | some ⟨_, _, .func fd, _⟩ => some (fd.name, fd.qualname, fd.params, fd.body, fd.scope, fd.globals, fd.closure, fd.defaults, fd.builtins)
  | _ => none
def codeA (K : PySem.W.Frag) (a : Addr) (q : Str) : Bool := match K.lookup a with
  | some ⟨_, _, .func fd, _⟩ => PySem.W.codeIn K fd.code q
  | _ => false
theorem fnA_ok {K : PySem.W.Frag} {a : Addr} {d : FnX} (e : fnObsA K a = d.val) (c : codeA K a d.qual = true) :
    ∃ oc od osl kV doc pm an cdv ct, K.lookup a = some ⟨oc, od, .func (PySem.W.fnOf d.name d.qual (defArgs d.st) (defBody d.st) (defScope d.st) .none kV doc pm an cdv ct), osl⟩ ∧ PySem.W.codeIn K cdv d.qual = true := by
  unfold codeA at c
  unfold fnObsA at e
  cases q : K.lookup a with
  | none =>
    rw [q] at c
    cases c
  | some o =>
    obtain ⟨oc, od, dt, osl⟩ := o
    rw [q] at c e
    cases dt with
    | func fd =>
      obtain ⟨m1, m2, m3, m4, m5, m6, m7, m8, m9, m10, m11, m12, m13, m14, m15⟩ := fd
      have e2 : (some (m1, m2, m3, m4, m5, m6, m7, m8, m15) : He.FnV) = some (d.name, d.qual, defArgs d.st, .stmts (defBody d.st), defScope d.st, mainGlobals, [], .none, builtinsNs) := e
      simp only [Option.some.injEq, Prod.mk.injEq] at e2
      obtain ⟨g1, g2, g3, g4, g5, g6, g7, g8, g9⟩ := e2
      subst g1 g2 g3 g4 g5 g6 g7 g8 g9
      exact ⟨oc, od, osl, m9, m10, m11, m12, m13, m14, rfl, c⟩
    | _ => cases c
def obsY (tab : PySem.W.Frag → Bool) (fn : List FnX) (K : PySem.W.Frag) : AlX := (tab K && fn.all fun d => PySem.W.keepIn K (.ref (d.ad K)) && codeA K (d.ad K) d.qual, fn.map fun d => fnObsA K (d.ad K))
def SaysY (tab : PySem.W.Frag → Bool) (fn : List FnX) (K : PySem.W.Frag) : Prop := obsY tab fn K = (true, fn.map FnX.val)
def obsYG (n : Nat) (tab : PySem.W.Frag → Bool) (fn : List FnX) (g : Addr → Option Obj) : AlX := obsY tab fn (He.frG g (He.asG g n))
def hookY (n : Nat) (tab : PySem.W.Frag → Bool) (fn : List FnX) : PySem.W.Hook where
  α := AlX
  obs := fun s => obsYG n tab fn s.heap.get?
  val := fun _ => (true, fn.map FnX.val)
  says := fun _ h => ∃ K : PySem.W.Frag, K.In h ∧ SaysY tab fn K
  of := fun _ _ e => ⟨_, He.frG_in, e⟩
  keeps := fun _ _ _ ⟨K, hK, c⟩ k => ⟨K, PySem.W.Frag.In.keeps hK k, c⟩
theorem obsYG_eq {n : Nat} {tab : PySem.W.Frag → Bool} {fn : List FnX} {g : Addr → Option Obj} {s : Shared} (h : ∀ a, g a = s.heap.get? a) : obsYG n tab fn g = (hookY n tab fn).obs s := by
  obtain rfl : g = s.heap.get? := funext h
  rfl
section
variable {tab : PySem.W.Frag → Bool} {fn : List FnX} {K : PySem.W.Frag}
theorem SaysY.facts (c : SaysY tab fn K) : tab K = true := (He.ba (show (tab K && fn.all fun d => PySem.W.keepIn K (.ref (d.ad K)) && codeA K (d.ad K) d.qual) = true from congrArg Prod.fst c)).1
theorem SaysY.fun_ (c : SaysY tab fn K) (i : Nat) {d : FnX} (h : fn[i]? = some d) : ∃ fd, Fun K d.name d.qual d.st (d.ad K) fd := by
  have c2 := (He.ba (show (tab K && fn.all fun d => PySem.W.keepIn K (.ref (d.ad K)) && codeA K (d.ad K) d.qual) = true from congrArg Prod.fst c)).2
  obtain ⟨k1, k2⟩ := He.ba (List.all_eq_true.mp c2 d (List.mem_of_getElem? h))
  have e1 : fn.map (fun d => fnObsA K (d.ad K)) = fn.map FnX.val := congrArg Prod.snd c
  have e2 : (fn.map fun d => fnObsA K (d.ad K))[i]? = (fn.map FnX.val)[i]? := by rw [e1]
  rw [List.getElem?_map, List.getElem?_map, h] at e2
  obtain ⟨oc, od, osl, kV, doc, pm, an, cdv, ct, lk, hc⟩ := fnA_ok (Option.some.inj e2) k2
  exact ⟨_, ⟨⟨oc, od, kV, doc, pm, an, cdv, ct, osl, rfl, lk, hc⟩, k1⟩⟩
end
/-- a global's function, a class's method, a property's getter -/
def gAd (x : Str) : PySem.W.Frag → Addr := fun K => He.ga K x
def mAd (C m : Str) : PySem.W.Frag → Addr := fun K => He.ma K (He.ga K C) m
def pAd (C m : Str) : PySem.W.Frag → Addr := fun K => match PySem.W.recIn K (He.ma K (He.ga K C) m) "property" with
  | some (.ref g :: _) => g
  | _ => 0
/-- a property's facts -/
def propB (K : PySem.W.Frag) (C m : Str) : Bool := He.eqO (PySem.W.findIn K (.ref (He.ga K C)) m) (some (some (.ref (He.ma K (He.ga K C) m)))) && (He.eqO (PySem.W.specialIn K (.ref (He.ma K (He.ga K C) m)) "__get__") (some (some (.builtin "property.__get__"))) &&
  (decide (PySem.W.takesIn K (.ref (He.ma K (He.ga K C) m)) = some true) && (match PySem.W.recIn K (He.ma K (He.ga K C) m) "property" with
    | some (.ref _ :: _) => true
    | _ => false)))
theorem prop_ok {K : PySem.W.Frag} {C m : Str} (q : propB K C m = true) : PropOf K (He.ga K C) m (He.ma K (He.ga K C) m) (pAd C m K) := by
  obtain ⟨q1, q⟩ := He.ba q
  obtain ⟨q2, q⟩ := He.ba q
  obtain ⟨q3, q4⟩ := He.ba q
  refine ⟨He.eqO_ok q1, He.eqO_ok q2, of_decide_eq_true q3, ?_⟩
  unfold pAd
  split at q4
  · rename_i g r e
    rw [e]
    exact ⟨r, rfl⟩
  · cases q4
end Gd
set_option Elab.async false
set_option linter.all false
set_option maxRecDepth 100000
set_option maxHeartbeats 4000000
namespace Ks
open PySem PySem.Spec PyProof.Rows L2 Gd Kx
/-! ### what the top of a law about trees has written, as Bools -/
def noS : List Str := ["_kinds", "_constructors", "_names", "_places"]
def noT : List Str := ["_rows", "_schema", "name", "kind", "_fields", "_size", "_depth"]
def bi7 : List String := ["NoneType", "bool", "int", "str", "list", "tuple", "dict"]
def clsX (K : PySem.W.Frag) (C : Addr) : Bool := He.eqO (PySem.W.findIn K (.ref C) "__class__") (some (some (.builtin "object.__class__"))) && (He.eqO (PySem.W.specialIn K (.builtin "object.__class__") "__get__") (some (some (.builtin "getset_descriptor.__get__"))) &&
  (decide (PySem.W.takesIn K (.builtin "object.__class__") = some true) && (decide (PySem.W.mroIn K C (.type "object") = some true) && (He.eqO (PySem.W.findIn K (.ref C) "__bool__") (some none) && (He.eqO (PySem.W.findIn K (.ref C) "__ne__") (some (some (.builtin "object.__ne__"))) &&
  (bi7.all fun t => PySem.W.notFirst K C (.type t) && (decide (PySem.W.kitOne K (.type t) (.ref C) = some false) && decide (PySem.W.subIn K (.ref C) (.type t) = some false))))))))
def clsT (C : Str) (no props meths : List Str) (K : PySem.W.Frag) : Bool := (He.Fa.cls C).ok K && ((He.Fa.mkr C).ok K && ((no.all fun x => (He.Fa.noat C x).ok K) && ((props.all fun x => propB K C x) && ((meths.all fun x => (He.Fa.meth C x).ok K) && clsX K (He.ga K C)))))
def twoB (K : PySem.W.Frag) : Bool := PySem.W.notFirst K (He.ga K "Tree") (.ref (He.ga K "Schema")) && (PySem.W.notFirst K (He.ga K "Schema") (.ref (He.ga K "Tree")) && (decide (PySem.W.kitOne K (.ref (He.ga K "Schema")) (.ref (He.ga K "Tree")) = some false) && decide (PySem.W.kitOne K (.ref (He.ga K "Tree")) (.ref (He.ga K "Schema")) = some false)))
structure TbX where
  glos : List Str
  frees : List Str
  numb : List (Str × Int)
  pS : List Str
  mS : List Str
  pT : List Str
  mT : List Str
  more : PySem.W.Frag → Bool
def TbX.tab (x : TbX) (K : PySem.W.Frag) : Bool := (x.glos.all fun y => (He.Fa.glo y).ok K) && ((x.frees.all fun y => (He.Fa.free y).ok K) && ((x.numb.all fun y => (He.Fa.int y.1 y.2).ok K) && ((He.Fa.str "LETTERS" lets).ok K && ((He.Fa.str "NAME_SIGNS" signs).ok K &&
  (clsT "Schema" noS x.pS x.mS K && (clsT "Tree" noT x.pT x.mT K && (twoB K && x.more K)))))))
def gF (x : Str) (i : Nat) : FnX := ⟨gAd x, x, x, Kx.topS i⟩
def sF (m : Str) (i : Nat) : FnX := ⟨mAd "Schema" m, m, "Schema." ++ m, cS i⟩
def sP (m : Str) (i : Nat) : FnX := ⟨pAd "Schema" m, m, "Schema." ++ m, cS i⟩
def tF (m : Str) (i : Nat) : FnX := ⟨mAd "Tree" m, m, "Tree." ++ m, cT i⟩
def tP (m : Str) (i : Nat) : FnX := ⟨pAd "Tree" m, m, "Tree." ++ m, cT i⟩
section
variable {P : Program} {w : World} {K : PySem.W.Frag} {mg : Str → Option Value} {base : Heap} {h : Heap} {x : TbX} {fn : List FnX}
theorem tb1 (c : SaysY x.tab fn K) {y : Str} (e : y ∈ x.glos) : (He.Fa.glo y).ok K = true := List.all_eq_true.mp (He.ba c.facts).1 y e
theorem tb2 (c : SaysY x.tab fn K) {y : Str} (e : y ∈ x.frees) : (He.Fa.free y).ok K = true := List.all_eq_true.mp (He.ba (He.ba c.facts).2).1 y e
theorem tb3 (c : SaysY x.tab fn K) {y : Str} {i : Int} (e : (y, i) ∈ x.numb) : (He.Fa.int y i).ok K = true := List.all_eq_true.mp (He.ba (He.ba (He.ba c.facts).2).2).1 (y, i) e
theorem tb4 (c : SaysY x.tab fn K) : (He.Fa.str "LETTERS" lets).ok K = true ∧ (He.Fa.str "NAME_SIGNS" signs).ok K = true ∧ clsT "Schema" noS x.pS x.mS K = true ∧ clsT "Tree" noT x.pT x.mT K = true ∧ twoB K = true ∧ x.more K = true := by
  obtain ⟨_, q⟩ := He.ba c.facts
  obtain ⟨_, q⟩ := He.ba q
  obtain ⟨_, q⟩ := He.ba q
  obtain ⟨q1, q⟩ := He.ba q
  obtain ⟨q2, q⟩ := He.ba q
  obtain ⟨q3, q⟩ := He.ba q
  obtain ⟨q4, q⟩ := He.ba q
  obtain ⟨q5, q6⟩ := He.ba q
  exact ⟨q1, q2, q3, q4, q5, q6⟩
theorem glo_t (X : K.In h) (G : h.Ns mainGlobals mg) (c : SaysY x.tab fn K) {y : Str} (e : y ∈ x.glos) : mg y = some (.ref (He.ga K y)) := He.glo_ok X G (tb1 c e)
theorem free_t (X : K.In h) (G : h.Ns mainGlobals mg) (c : SaysY x.tab fn K) {y : Str} (e : y ∈ x.frees) : mg y = none := He.free_ok X G (tb2 c e)
structure ClsF (K : PySem.W.Frag) (C : Str) (no props meths : List Str) : Prop where
  cl : Cls K (He.ga K C)
  mkr : Mk K (He.ga K C) (mAd C "__init__" K)
  na : ∀ y ∈ no, NoAttr K (He.ga K C) y
  pr : ∀ y ∈ props, PropOf K (He.ga K C) y (He.ma K (He.ga K C) y) (pAd C y K)
  me : ∀ y ∈ meths, Meth K (He.ga K C) y (mAd C y K)
  ci : SCi K (He.ga K C)
  nb : PySem.W.findIn K (.ref (He.ga K C)) "__bool__" = some none
  ne : PySem.W.findIn K (.ref (He.ga K C)) "__ne__" = some (some (.builtin "object.__ne__"))
  ot : ∀ t ∈ bi7, PySem.W.notFirst K (He.ga K C) (.type t) = true ∧ PySem.W.kitOne K (.type t) (.ref (He.ga K C)) = some false ∧ PySem.W.subIn K (.ref (He.ga K C)) (.type t) = some false
theorem ClsF.dm {C : Str} {no props meths : List Str} (F : ClsF K C no props meths) {y : Str} (e : y ∈ meths) : Dm K (He.ga K C) y (mAd C y K) := ⟨(F.me y e).at_, (F.me y e).fn⟩
theorem clsF_of {C : Str} {no props meths : List Str} (q : clsT C no props meths K = true) : ClsF K C no props meths := by
  obtain ⟨q1, q⟩ := He.ba q
  obtain ⟨q2, q⟩ := He.ba q
  obtain ⟨q3, q⟩ := He.ba q
  obtain ⟨q4, q⟩ := He.ba q
  obtain ⟨q5, q⟩ := He.ba q
  obtain ⟨r1, q⟩ := He.ba q
  obtain ⟨r2, q⟩ := He.ba q
  obtain ⟨r3, q⟩ := He.ba q
  obtain ⟨r4, q⟩ := He.ba q
  obtain ⟨r5, q⟩ := He.ba q
  obtain ⟨r6, r7⟩ := He.ba q
  refine ⟨He.cls_ok q1, He.mkr_ok q2, fun y hy => He.noat_ok (List.all_eq_true.mp q3 y hy), fun y hy => prop_ok (List.all_eq_true.mp q4 y hy), fun y hy => He.meth_ok (List.all_eq_true.mp q5 y hy), ⟨He.eqO_ok r1, He.eqO_ok r2, of_decide_eq_true r3, of_decide_eq_true r4⟩, He.eqO_ok r5, He.eqO_ok r6, fun t ht => ?_⟩
  obtain ⟨z1, z⟩ := He.ba (List.all_eq_true.mp r7 t ht)
  obtain ⟨z2, z3⟩ := He.ba z
  exact ⟨z1, of_decide_eq_true z2, of_decide_eq_true z3⟩
abbrev SF (K : PySem.W.Frag) (x : TbX) : Prop := ClsF K "Schema" noS x.pS x.mS
abbrev TF (K : PySem.W.Frag) (x : TbX) : Prop := ClsF K "Tree" noT x.pT x.mT
theorem sf_of (c : SaysY x.tab fn K) : SF K x := clsF_of (tb4 c).2.2.1
theorem tf_of (c : SaysY x.tab fn K) : TF K x := clsF_of (tb4 c).2.2.2.1
theorem scl_t (c : SaysY x.tab fn K) : SCl K (He.ga K "Schema") := by
  have F := sf_of c
  exact ⟨F.cl, F.na _ (by decide +kernel), F.na _ (by decide +kernel), F.na _ (by decide +kernel), F.na _ (by decide +kernel)⟩
theorem tcl_t (c : SaysY x.tab fn K) : TCl K (He.ga K "Tree") := by
  have F := tf_of c
  exact ⟨F.cl, F.na _ (by decide +kernel), F.na _ (by decide +kernel), F.na _ (by decide +kernel), F.na _ (by decide +kernel), F.na _ (by decide +kernel), F.na _ (by decide +kernel), F.na _ (by decide +kernel)⟩
theorem two_t (c : SaysY x.tab fn K) : PySem.W.notFirst K (He.ga K "Tree") (.ref (He.ga K "Schema")) = true ∧ PySem.W.notFirst K (He.ga K "Schema") (.ref (He.ga K "Tree")) = true ∧ PySem.W.kitOne K (.ref (He.ga K "Schema")) (.ref (He.ga K "Tree")) = some false ∧ PySem.W.kitOne K (.ref (He.ga K "Tree")) (.ref (He.ga K "Schema")) = some false := by
  obtain ⟨q1, q⟩ := He.ba (tb4 c).2.2.2.2.1
  obtain ⟨q2, q⟩ := He.ba q
  obtain ⟨q3, q4⟩ := He.ba q
  exact ⟨q1, q2, of_decide_eq_true q3, of_decide_eq_true q4⟩
theorem ts_t (X : K.In h) (G : h.Ns mainGlobals mg) (c : SaysY x.tab fn K) (e : ∀ y ∈ (["isinstance", "str", "tuple", "len", "all", "enumerate", "range"] : List Str), y ∈ x.frees) (i : ∀ y ∈ ([("MOST_KINDS", 4), ("MOST_CONSTRUCTORS", 6), ("MOST_FIELDS", 3)] : List (Str × Int)), y ∈ x.numb) : TS0 mg where
  isi := free_t X G c (e _ (by decide +kernel))
  str := free_t X G c (e _ (by decide +kernel))
  tup := free_t X G c (e _ (by decide +kernel))
  len := free_t X G c (e _ (by decide +kernel))
  all := free_t X G c (e _ (by decide +kernel))
  enu := free_t X G c (e _ (by decide +kernel))
  rng := free_t X G c (e _ (by decide +kernel))
  mki := He.int_ok X G (tb3 c (i _ (by decide +kernel)))
  mco := He.int_ok X G (tb3 c (i _ (by decide +kernel)))
  mfi := He.int_ok X G (tb3 c (i _ (by decide +kernel)))
theorem fun_g (c : SaysY x.tab fn K) (i : Nat) (y : Str) (j : Nat) (h : fn[i]? = some (gF y j)) : ∃ fd, Fun K y y (Kx.topS j) (He.ga K y) fd := c.fun_ i h
theorem fun_s (c : SaysY x.tab fn K) (i : Nat) (m q : Str) (j : Nat) (h : fn[i]? = some (sF m j)) (e : ("Schema." : Str) ++ m = q) : ∃ fd, Fun K m q (cS j) (mAd "Schema" m K) fd := by
  subst e
  exact c.fun_ i h
theorem fun_sp (c : SaysY x.tab fn K) (i : Nat) (m q : Str) (j : Nat) (h : fn[i]? = some (sP m j)) (e : ("Schema." : Str) ++ m = q) : ∃ fd, Fun K m q (cS j) (pAd "Schema" m K) fd := by
  subst e
  exact c.fun_ i h
theorem fun_t (c : SaysY x.tab fn K) (i : Nat) (m q : Str) (j : Nat) (h : fn[i]? = some (tF m j)) (e : ("Tree." : Str) ++ m = q) : ∃ fd, Fun K m q (cT j) (mAd "Tree" m K) fd := by
  subst e
  exact c.fun_ i h
theorem fun_tp (c : SaysY x.tab fn K) (i : Nat) (m q : Str) (j : Nat) (h : fn[i]? = some (tP m j)) (e : ("Tree." : Str) ++ m = q) : ∃ fd, Fun K m q (cT j) (pAd "Tree" m K) fd := by
  subst e
  exact c.fun_ i h
end
end Ks
set_option Elab.async false
set_option linter.all false
set_option maxRecDepth 100000
set_option maxHeartbeats 4000000
namespace Ks
open PySem PySem.Spec PyProof.Rows L2 Gd Kx
/-! ### a classmethod of the class of trees, as a head's facts -/
def cAd (C m : Str) : PySem.W.Frag → Addr := fun K => He5.wf K (He.ga K C) "classmethod" m
def cF (m : Str) (i : Nat) : FnX := ⟨cAd "Tree" m, m, "Tree." ++ m, cT i⟩
def cmB (C m : Str) (K : PySem.W.Frag) : Bool := PySem.W.readsIn K (He.ga K C) (.type "type") && (He5.wrapB K (He.ga K C) "classmethod" "classmethod.__get__" m && PySem.W.fnIn K (He5.wf K (He.ga K C) "classmethod" m))
end Ks
set_option Elab.async false
set_option linter.all false
set_option maxRecDepth 100000
set_option maxHeartbeats 4000000
namespace Ks
open PySem PySem.Spec PyProof.Rows L2 Gd Kx
theorem cread0 {K : PySem.W.Frag} {C : Addr} (h : PySem.W.readsIn K C (.type "type") = true) : ClX.CRead K C (.type "type") := by
  refine ⟨h, ?_⟩
  unfold PySem.W.readsIn at h
  obtain ⟨h, _⟩ := He.ba h
  obtain ⟨h, _⟩ := He.ba h
  obtain ⟨h, h3⟩ := He.ba h
  obtain ⟨_, h2⟩ := He.ba h
  unfold PySem.W.specialIn
  rw [beq_iff_eq.mp h2, Option.bind_some]
  exact beq_iff_eq.mp h3
theorem cmB_ok {K : PySem.W.Frag} {C m : Str} (h : cmB C m K = true) : ClX.CRead K (He.ga K C) (.type "type") ∧ ClX.CMet K (He.ga K C) (.type "type") m (He.ma K (He.ga K C) m) (cAd C m K) := by
  obtain ⟨h1, h⟩ := He.ba h
  obtain ⟨h2, h3⟩ := He.ba h
  exact ⟨cread0 h1, He5.cmet_of h2 h3⟩
/-- what the names reach in n steps, and the interpreter's own statics (a class is read there) -/
def obsCG (n : Nat) (tab : PySem.W.Frag → Bool) (fn : List FnX) (g : Addr → Option Obj) : AlX := obsY tab fn (He.frG g (He.asG g n ++ [PySem.cStatics]))
def hookC (n : Nat) (tab : PySem.W.Frag → Bool) (fn : List FnX) : PySem.W.Hook where
  α := AlX
  obs := fun s => obsCG n tab fn s.heap.get?
  val := fun _ => (true, fn.map FnX.val)
  says := fun _ h => ∃ K : PySem.W.Frag, K.In h ∧ SaysY tab fn K
  of := fun _ _ e => ⟨_, He.frG_in, e⟩
  keeps := fun _ _ _ ⟨K, hK, c⟩ k => ⟨K, PySem.W.Frag.In.keeps hK k, c⟩
theorem obsCG_eq {n : Nat} {tab : PySem.W.Frag → Bool} {fn : List FnX} {g : Addr → Option Obj} {s : Shared} (h : ∀ a, g a = s.heap.get? a) : obsCG n tab fn g = (hookC n tab fn).obs s := by
  obtain rfl : g = s.heap.get? := funext h
  rfl
section
variable {K : PySem.W.Frag} {x : TbX} {fn : List FnX}
theorem fun_tc (c : SaysY x.tab fn K) (i : Nat) (m q : Str) (j : Nat) (h : fn[i]? = some (cF m j)) (e : ("Tree." : Str) ++ m = q) : ∃ fd, Fun K m q (cT j) (cAd "Tree" m K) fd := by
  subst e
  exact c.fun_ i h
end
theorem kb_rs {K : PySem.W.Frag} {x q : Str} {st : Stmt} {f : Addr} {fd : FuncData} (F : Fun K x q st f fd)
    (h : ∀ (kV doc pm : Value) (an : Option Addr) (cdv ct c r s : Value), bindArgs (PySem.W.fnOf x q (defArgs st) (defBody st) (defScope st) .none kV doc pm an cdv ct) ⟨[c], [("rows", r), ("schema", s)]⟩ = pure [(("cls" : Str), c), ("schema", s), ("rows", r)]) :
    KBinds K fd ["cls", "schema", "rows"] ["rows", "schema"] gRS gRS := by
  obtain ⟨oc, od, kV, doc, pm, an, cdv, ct, osl, rfl, lk, hcd⟩ := F.ex
  refine ⟨fun s us ws _ hl => ?_, fun r z => gRS_rel r z⟩
  match us, ws, hl with
  | [c], [r, s], _ => exact .of_eq (h _ _ _ _ _ _ c r s)
  | [], _, hl => simp [gRS] at hl
  | [_], [], hl => simp [gRS] at hl
  | [_], [_], hl => simp [gRS] at hl
  | [_], _ :: _ :: _ :: _, hl => simp [gRS] at hl
  | _ :: _ :: _, _, hl => simp [gRS] at hl
end Ks
set_option Elab.async false
set_option linter.all false
set_option maxRecDepth 100000
set_option maxHeartbeats 4000000
namespace Ks
open PySem PySem.Spec PyProof.Rows L2 Gd Kx LamX
abbrev sLw : Stmt := Kx.topS 67
theorem scLw : FnScope ["_law_cells", "_law_k", "_law_deal_here"] ["_law_cells"] (defScope sLw) := ⟨rfl, rfl, rfl, by decide +kernel, rfl, by decide +kernel, by decide +kernel⟩
theorem kb_rd {K : PySem.W.Frag} {x q : Str} {st : Stmt} {f : Addr} {fd : FuncData} (F : Fun K x q st f fd)
    (h : ∀ (kV doc pm : Value) (an : Option Addr) (cdv ct c r s : Value), bindArgs (PySem.W.fnOf x q (defArgs st) (defBody st) (defScope st) .none kV doc pm an cdv ct) ⟨[c], [("text", r), ("schema", s)]⟩ = pure [(("cls" : Str), c), ("schema", s), ("text", r)]) :
    KBinds K fd ["cls", "schema", "text"] ["text", "schema"] gRS gRS := by
  obtain ⟨oc, od, kV, doc, pm, an, cdv, ct, osl, rfl, lk, hcd⟩ := F.ex
  refine ⟨fun s us ws _ hl => ?_, fun r z => gRS_rel r z⟩
  match us, ws, hl with
  | [c], [r, s], _ => exact .of_eq (h _ _ _ _ _ _ c r s)
  | [], _, hl => simp [gRS] at hl
  | [_], [], hl => simp [gRS] at hl
  | [_], [_], hl => simp [gRS] at hl
  | [_], _ :: _ :: _ :: _, hl => simp [gRS] at hl
  | _ :: _ :: _, _, hl => simp [gRS] at hl
section
variable {P : Program} {w : World} {K : PySem.W.Frag} {mg : Str → Option Value} {base : Heap}
def spLaw (K : PySem.W.Frag) (T : List (Addr × Str)) : Sp := fun vs H Q _ => ∃ (a : Addr) (ns : List Int), vs = [.ref a] ∧ SqL K H a (ns.map V.int) ∧ ns.length ≤ 63 ∧ Tabs T H ∧ ∀ H', Q (.bl true) H'
theorem ok_law {f fn fe fr fg : Addr} {fd fdn fde fdr fdg : FuncData} {T : List (Addr × Str)} (F : Fun K "law" "law" sLw f fd) (ml : mg "len" = none) (mr : mg "range" = none) (mx : mg "max" = none) (mn : mg "min" = none)
    (GN : FnOk P w K mg base CX0 1 fn fdn ["_law_cells", "_law_k"] (spNum K)) (kn : PySem.W.keepIn K (.ref fn) = true) (bN : Binds K fdn ["_law_cells", "_law_k"] []) (gN : mg "_law_number" = some (.ref fn))
    (GE : FnOk P w K mg base CX0 1 fe fde ["_law_number_here"] spDeal) (ke : PySem.W.keepIn K (.ref fe) = true) (bE : Binds K fde ["_law_number_here"] []) (gE : mg "_law_deal" = some (.ref fe))
    (GR : Pr P w K mg base CX0 46 fr fdr ["_law_deal_here"] (spRgtD T)) (kr : PySem.W.keepIn K (.ref fr) = true) (bR : Binds K fdr ["_law_deal_here"] []) (gR : mg "_law_right" = some (.ref fr))
    (GG : Pr P w K mg base CX0 12 fg fdg ["_law_deal_here"] (spRgtT T)) (kg : PySem.W.keepIn K (.ref fg) = true) (bG : Binds K fdg ["_law_deal_here"] []) (gG : mg "_law_long_right" = some (.ref fg)) :
    Pr P w K mg base CX0 47 f fd ["_law_cells"] (spLaw K T) := by
  refine okG F scLw (fun vs H Q E h => ?_) (fun cv A ou s H vs Q E hG hr h => ?_)
  · obtain ⟨a, ns, rfl, _⟩ := h
    rfl
  obtain ⟨a, ns, rfl, hS, hl, hT, k⟩ := h
  have hr1 : Room 1 (A.deeper (envOfC "law" (defScope sLw) s.heap.objs.size f cv)) := hr.mono (by decide)
  have hr12 : Room 12 (A.deeper (envOfC "law" (defScope sLw) s.heap.objs.size f cv)) := hr.mono (by decide)
  refine ⟨_, pss_cons (ps_for PassesOwn.never rfl (pi_range1 rfl mr (pa_cons (pe_callB (call_max2 rfl) (by rfl) mx boot_max (pa_cons pe_int (pa_cons (pe_callB (call_min2 rfl) (by rfl) mn boot_min (pa_cons (pe_callB call_len_seq (by rfl) ml PySem.boot_len (pa_cons (pv 0) pa_nil)) (pa_cons pe_int pa_nil))) pa_nil))) pa_nil)) (pg_name (i := 1) scLw.nd rfl (.inl rfl))
      (pss_cons (ps_set (i := 2) scLw.nd rfl (.inl rfl) (pe_call GE hr1 (by rfl) gE ke bE .nil pass0 (pa_cons (pe_call GN hr1 (by rfl) gN kn bN .nil pass0 (pa_cons (pv 0) (pa_cons (pv 1) pa_nil))) pa_nil)))
      (pss_one (ps_if (PW.pt (pw_or (pt_not (pt_val (pe_callG GR hG hr (by rfl) gR kr bR .nil pass0 (pa_cons (pv 2) pa_nil)))) (pw_or1 (pt_not (pt_val (pe_callG GG hG hr12 (by rfl) gG kg bG .nil pass0 (pa_cons (pv 2) pa_nil))))))) (pss_one (ps_ret pe_bl)) pss_nil))))
    (pss_one (ps_ret pe_bl)), ?_⟩
  refine ⟨.ref a, rfl, a, ns.map V.int, rfl, .inl hS, _, _, rfl, _, _, rfl, _, rfl, ?_, ?_, ?_⟩
  · split <;> split <;> omega
  · rw [List.length_map]
    split <;> split <;> omega
  refine for_range (n := ((if (if (4 : Int) < ((ns.map V.int).length : Int) then (4 : Int) else ((ns.map V.int).length : Int)) > 2 then (if (4 : Int) < ((ns.map V.int).length : Int) then (4 : Int) else ((ns.map V.int).length : Int)) else 2) : Int).toNat) (fun i σ H' => ∃ o1 o2 : Option V, σ = [some (.ref a), o1, o2] ∧ SqL K H' a (ns.map V.int) ∧ Tabs T H') ⟨none, none, rfl, hS, hT⟩ ?_ ?_
  · rintro i σ H1 hi ⟨o1, o2, rfl, hS1, T1⟩
    have hi5 : i < 63 := by
      rw [List.length_map] at hi
      split at hi <;> (first | (split at hi <;> omega) | omega)
    refine ⟨.ref a, rfl, .int (0 + (i : Int)), rfl, a, ns, i, ?_, hS1, hl, fun z H2 s2 => ⟨z, rfl, fun p H3 s3 np D3 => ?_⟩⟩
    · rw [Int.zero_add]
      rfl
    have hS2 : SqL K H2 a (ns.map V.int) := SqL.ext hS1 s2
    refine ⟨.ref p, rfl, p, rfl, D3, (T1.ext s2).ext s3, fun H4 b4 D4 T4 => ⟨true, rfl, iteF ?_⟩⟩
    refine ⟨.ref p, rfl, p, rfl, D4, T4, fun H5 b5 T5 => ⟨true, rfl, iteF ?_⟩⟩
    refine ⟨_, _, rfl, ?_, T5⟩
    have b := b4.trans b5
    rcases hS2 with (h | ⟨o, h⟩) | h
    · exact .inl (.inl (b _ _ (fun e => by rw [e, np] at h; cases h) (fun _ z => by cases z) (s3 _ _ h)))
    · exact .inl (.inr ⟨o, b _ _ (fun e => by rw [e, np] at h; cases h) (fun _ z => by cases z) (s3 _ _ h)⟩)
    · exact .inr h
  · rintro σ H1 ⟨o1, o2, rfl, hS1, T1⟩
    exact k _
end
end Ks
set_option Elab.async false
set_option linter.all false
set_option maxRecDepth 100000
set_option maxHeartbeats 4000000
/-! A head by one run, as HY's, and of some defs the tables of their code, still empty. -/
namespace Gd
open PySem PySem.Spec PyProof.Rows L2
def obsZG (n : Nat) (tab : PySem.W.Frag → Bool) (fn : List FnX) (tf : List He.Defn) (g : Addr → Option Obj) : AlX :=
  ((obsY tab fn (He.frT g (He.asG g n))).1 && He.tabsB g tf (He.frT g (He.asG g n)), (obsY tab fn (He.frT g (He.asG g n))).2)
structure SaysZ (tab : PySem.W.Frag → Bool) (fn : List FnX) (tf : List He.Defn) (h : Heap) (K : PySem.W.Frag) : Prop where
  y : SaysY tab fn K
  hd : ∀ p ∈ tf, PySem.W.codeHdIn K (He.cT K p).1 (He.cT K p).2 = true
  out : ∀ p ∈ tf, K.lookup (He.cT K p).2 = none
  emp : ∀ p ∈ tf, h.get? (He.cT K p).2 = some { cls := .none, data := .fields #[] }
theorem saysZ_of {n : Nat} {tab : PySem.W.Frag → Bool} {fn : List FnX} {tf : List He.Defn} {h : Heap} (e : obsZG n tab fn tf h.get? = (true, fn.map FnX.val)) : SaysZ tab fn tf h (He.frT h.get? (He.asG h.get? n)) := by
  have e1 : ((obsY tab fn (He.frT h.get? (He.asG h.get? n))).1 && He.tabsB h.get? tf (He.frT h.get? (He.asG h.get? n))) = true := congrArg Prod.fst e
  have e2 : (obsY tab fn (He.frT h.get? (He.asG h.get? n))).2 = fn.map FnX.val := congrArg Prod.snd e
  obtain ⟨q1, q2⟩ := He.ba e1
  have all : ∀ p ∈ tf, PySem.W.codeHdIn (He.frT h.get? (He.asG h.get? n)) (He.cT (He.frT h.get? (He.asG h.get? n)) p).1 (He.cT (He.frT h.get? (He.asG h.get? n)) p).2 = true ∧ ∃ o, h.get? (He.cT (He.frT h.get? (He.asG h.get? n)) p).2 = some o ∧ He.emptyTab o = true := by
    intro p hp
    obtain ⟨z1, z2⟩ := He.ba (List.all_eq_true.mp q2 p hp)
    refine ⟨z1, ?_⟩
    split at z2
    · rename_i o eo
      exact ⟨o, eo, z2⟩
    · cases z2
  refine ⟨Prod.ext q1 e2, fun p hp => (all p hp).1, fun p hp => ?_, fun p hp => ?_⟩
  · obtain ⟨_, o, eo, em⟩ := all p hp
    exact He.frT_none eo em
  · obtain ⟨_, o, eo, em⟩ := all p hp
    rw [eo, He.emptyTab_eq em]
def hookZ (n : Nat) (tab : PySem.W.Frag → Bool) (fn : List FnX) (tf : List He.Defn) : PySem.W.Hook where
  α := AlX
  obs := fun s => obsZG n tab fn tf s.heap.get?
  val := fun _ => (true, fn.map FnX.val)
  says := fun _ h => ∃ K : PySem.W.Frag, K.In h ∧ SaysZ tab fn tf h K
  of := fun _ _ e => ⟨_, He.frT_in, saysZ_of e⟩
  keeps := fun _ _ _ ⟨K, hK, c⟩ k => ⟨K, PySem.W.Frag.In.keeps hK k, c.y, c.hd, c.out, fun p hp => k _ _ (c.emp p hp)⟩
theorem obsZG_eq {n : Nat} {tab : PySem.W.Frag → Bool} {fn : List FnX} {tf : List He.Defn} {g : Addr → Option Obj} {s : Shared} (h : ∀ a, g a = s.heap.get? a) : obsZG n tab fn tf g = (hookZ n tab fn tf).obs s := by
  obtain rfl : g = s.heap.get? := funext h
  rfl
end Gd
set_option Elab.async false
set_option linter.all false
set_option maxRecDepth 100000
set_option maxHeartbeats 4000000
namespace Gd
open PySem PySem.Spec PyProof.Rows L2
/-! a head with empty tables of code and the interpreter's own statics; errors without a field -/
def obsCZ (n : Nat) (tab : PySem.W.Frag → Bool) (fn : List FnX) (tf : List He.Defn) (g : Addr → Option Obj) : AlX :=
  ((obsY tab fn (He.frT g (He.asG g n ++ [PySem.cStatics]))).1 && He.tabsB g tf (He.frT g (He.asG g n ++ [PySem.cStatics])), (obsY tab fn (He.frT g (He.asG g n ++ [PySem.cStatics]))).2)
theorem saysCZ_of {n : Nat} {tab : PySem.W.Frag → Bool} {fn : List FnX} {tf : List He.Defn} {h : Heap} (e : obsCZ n tab fn tf h.get? = (true, fn.map FnX.val)) : SaysZ tab fn tf h (He.frT h.get? (He.asG h.get? n ++ [PySem.cStatics])) := by
  unfold obsCZ at e
  generalize He.asG h.get? n ++ [PySem.cStatics] = as at e
  have e1 : ((obsY tab fn (He.frT h.get? as)).1 && He.tabsB h.get? tf (He.frT h.get? as)) = true := congrArg Prod.fst e
  have e2 : (obsY tab fn (He.frT h.get? as)).2 = fn.map FnX.val := congrArg Prod.snd e
  obtain ⟨q1, q2⟩ := He.ba e1
  have all : ∀ p ∈ tf, PySem.W.codeHdIn (He.frT h.get? as) (He.cT (He.frT h.get? as) p).1 (He.cT (He.frT h.get? as) p).2 = true ∧ ∃ o, h.get? (He.cT (He.frT h.get? as) p).2 = some o ∧ He.emptyTab o = true := by
    intro p hp
    obtain ⟨z1, z2⟩ := He.ba (List.all_eq_true.mp q2 p hp)
    refine ⟨z1, ?_⟩
    split at z2
    · rename_i o eo
      exact ⟨o, eo, z2⟩
    · cases z2
  refine ⟨Prod.ext q1 e2, fun p hp => (all p hp).1, fun p hp => ?_, fun p hp => ?_⟩
  · obtain ⟨_, o, eo, em⟩ := all p hp
    exact He.frT_none eo em
  · obtain ⟨_, o, eo, em⟩ := all p hp
    rw [eo, He.emptyTab_eq em]
def hookCZ (n : Nat) (tab : PySem.W.Frag → Bool) (fn : List FnX) (tf : List He.Defn) : PySem.W.Hook where
  α := AlX
  obs := fun s => obsCZ n tab fn tf s.heap.get?
  val := fun _ => (true, fn.map FnX.val)
  says := fun _ h => ∃ K : PySem.W.Frag, K.In h ∧ SaysZ tab fn tf h K
  of := fun _ _ e => ⟨_, He.frT_in, saysCZ_of e⟩
  keeps := fun _ _ _ ⟨K, hK, c⟩ k => ⟨K, PySem.W.Frag.In.keeps hK k, c.y, c.hd, c.out, fun p hp => k _ _ (c.emp p hp)⟩
theorem obsCZ_eq {n : Nat} {tab : PySem.W.Frag → Bool} {fn : List FnX} {tf : List He.Defn} {g : Addr → Option Obj} {s : Shared} (h : ∀ a, g a = s.heap.get? a) : obsCZ n tab fn tf g = (hookCZ n tab fn tf).obs s := by
  obtain rfl : g = s.heap.get? := funext h
  rfl
def zroB (K : PySem.W.Frag) (nm : Str) (b : Nat) : Bool := (He.Fa.glo nm).ok K && (xclB K (He.ga K nm) b && (PySem.W.excIn K (He.ga K nm) (xtl b) (xnid b) && decide (PySem.W.typeIn K (.ref (He.ga K nm)) = some (.type "type"))))
end Gd
namespace Ks
open PySem PySem.Spec PyProof.Rows L2 Gd Kx
def xF (C : Str) (i : Nat) : FnX := ⟨mAd C "__init__", "__init__", C ++ ".__init__", inClass (Kx.topS i) 0⟩
end Ks
set_option Elab.async false
set_option linter.all false
set_option maxRecDepth 100000
set_option maxHeartbeats 4000000
namespace Gd
open PySem PySem.Spec PyProof.Rows L2
/-! a head with empty tables of code and the interpreter's own statics; errors without a field -/
theorem zro_of {K : PySem.W.Frag} {h : Heap} {mg : Str → Option Value} {nm : Str} {b : Nat} (X : K.In h) (G : h.Ns mainGlobals mg) (q : zroB K nm b = true) : Zro K mg nm (He.ga K nm) ∧ XC K (He.ga K nm) := by
  obtain ⟨q1, q⟩ := He.ba q
  obtain ⟨q2, q⟩ := He.ba q
  obtain ⟨q3, q4⟩ := He.ba q
  have T := xcl_of q2
  refine ⟨⟨He.glo_ok X G q1, ?_, T.kp, T.sB, of_decide_eq_true q4⟩, T⟩
  match b, q3 with
  | 0, q3 => exact ⟨_, _, _, _, PySem.F.excBase_ValueError, q3⟩
  | 1, q3 => exact ⟨_, _, _, _, PySem.F.excBase_LookupError, q3⟩
  | n + 2, q3 => exact ⟨_, _, _, _, PySem.F.excBase_ArithmeticError, q3⟩
end Gd
namespace Ks
open PySem PySem.Spec PyProof.Rows L2 Gd Kx
section
variable {K : PySem.W.Frag} {x : TbX} {fn : List FnX}
theorem fun_x (c : SaysY x.tab fn K) (i : Nat) (C : Str) (j : Nat) (h : fn[i]? = some (xF C j)) : ∃ fd, Fun K "__init__" (C ++ ".__init__") (inClass (Kx.topS j) 0) (He.ma K (He.ga K C) "__init__") fd := c.fun_ i h
/-- the code of a def -/
theorem code_of {x q : Str} {st : Stmt} {fd : FuncData} (F : Fun K x q st (He.ga K x) fd) : fd.code = .ref (He.codeOf K (x, none)) := by
  obtain ⟨oc, od, kV, doc, pm, an, cdv, ct, osl, rfl, lk, hcd⟩ := F.ex
  obtain ⟨c, rfl⟩ := He.codeIn_ref hcd
  have := He.codeOf_eq (K := K) (p := (x, none)) (c := c) lk rfl
  rw [this]
end
theorem kb_co {K : PySem.W.Frag} {x q : Str} {st : Stmt} {f : Addr} {fd : FuncData} (F : Fun K x q st f fd)
    (h : ∀ (kV doc pm : Value) (an : Option Addr) (cdv ct a b : Value), bindArgs (PySem.W.fnOf x q (defArgs st) (defBody st) (defScope st) .none kV doc pm an cdv ct) ⟨[], [("other", b), ("one", a)]⟩ = pure [(("one" : Str), a), ("other", b)]) :
    KBinds K fd ["one", "other"] ["other", "one"] gCO gCO := by
  obtain ⟨oc, od, kV, doc, pm, an, cdv, ct, osl, rfl, lk, hcd⟩ := F.ex
  refine ⟨fun s us ws _ hl => ?_, fun r z => gCO_rel r z⟩
  match us, ws, hl with
  | [], [b, a], _ => exact .of_eq (h _ _ _ _ _ _ a b)
  | [], [], hl => simp [gCO] at hl
  | [], [_], hl => simp [gCO] at hl
  | [], _ :: _ :: _ :: _, hl => simp [gCO] at hl
  | _ :: _, _, hl => simp [gCO] at hl
end Ks
set_option Elab.async false
set_option linter.all false
set_option maxRecDepth 100000
set_option maxHeartbeats 4000000
namespace Ks
open PySem PySem.Spec PyProof.Rows L2 Gd Kx
def ttt (K : PySem.W.Frag) : List Value := [.ref (He.ga K "TreeError"), .ref (He.ga K "StateError"), .ref (He.ga K "LimitError")]
def errB (K : PySem.W.Frag) : Bool := decide (PySem.W.kitOne K (.ref (He.ga K "InvalidText")) (.ref (He.ga K "InvalidText")) = some true) && (decide (PySem.W.kitOne K (.ref (He.ga K "NotASchema")) (.ref (He.ga K "InvalidText")) = some false) && (decide (PySem.W.kitOne K (.ref (He.ga K "NotASchema")) (.ref (He.ga K "NotASchema")) = some true) &&
  (decide (PySem.W.exmAny K (.ref (He.ga K "InvalidText")) (ttt K) = some true) && (decide (PySem.W.exmAny K (.ref (He.ga K "NotASchema")) (ttt K) = some true) && (decide (PySem.W.exmOne K (.ref (He.ga K "InvalidRows")) (.ref (He.ga K "InvalidRows")) = some true) &&
  (decide (PySem.W.kitOne K (.type "str") (.ref (He.ga K "Schema")) = some false) && (decide (PySem.W.kitOne K (.ref (He.ga K "Tree")) (.type "str") = some false) && decide ((He.cT K ("_law_right", none)).2 ≠ (He.cT K ("_law_long_right", none)).2))))))))
theorem scXI : FnScope ["self", "value"] ["self", "value"] (defScope (inClass (Kx.topS 7) 0)) := ⟨rfl, rfl, rfl, by decide +kernel, rfl, by decide +kernel, by decide +kernel⟩
theorem scXN : FnScope ["self", "value"] ["self", "value"] (defScope (inClass (Kx.topS 5) 0)) := ⟨rfl, rfl, rfl, by decide +kernel, rfl, by decide +kernel, by decide +kernel⟩
theorem scXR : FnScope ["self", "index"] ["self", "index"] (defScope (inClass (Kx.topS 12) 0)) := ⟨rfl, rfl, rfl, by decide +kernel, rfl, by decide +kernel, by decide +kernel⟩
def tx : TbX where
  glos := (["Schema", "Tree", "TreeError", "StateError", "LimitError", "is_name", "_is_one_of", "_check_kinds", "_is_constructor", "_check_constructors", "_check_trees", "is_integer", "is_number", "check_schema", "is_tree_of", "_check_fields", "_rows_below", "_is_row", "check_rows", "_number"] : List Str) ++ (["_rows_of_text", "_law_number", "_law_deal", "_law_pick", "_law_word", "_law_words", "_law_model", "_law_tree", "_law_rows", "_law_rows_of", "_law_line", "_law_told", "_law_sort", "_law_number_of", "_law_read", "_law_bent", "_law_right", "_law_long_right", "law"] : List Str)
  frees := ["isinstance", "str", "tuple", "len", "all", "enumerate", "range", "int", "abs", "repr", "bool", "max", "min", "sum", "zip", "list", "dict"]
  numb := [("MOST_KINDS", 4), ("MOST_CONSTRUCTORS", 6), ("MOST_FIELDS", 3), ("LONGEST_NAME", 8), ("MOST_ROWS", 200), ("MOST_DIGITS", 3)]
  pS := ["constructors"]
  mS := ["constructor", "place", "__eq__", "__contains__"]
  pT := ["schema", "rows", "fields", "size", "depth"]
  mT := ["__str__", "__len__", "__repr__", "__eq__"]
  more := fun K => cmB "Tree" "of_rows" K && cmB "Tree" "read" K && (xdB K ⟨"InvalidText", 0, "value"⟩ && (xdB K ⟨"NotASchema", 0, "value"⟩ && (xdB K ⟨"InvalidRows", 0, "index"⟩ && ((He.Fa.str "DIGITS" digS).ok K && errB K))))
def fn : List FnX := [gF "is_name" 23, gF "_is_one_of" 24, gF "_check_kinds" 25, gF "_is_constructor" 26, gF "_check_constructors" 27, gF "_check_trees" 28, gF "is_integer" 33, gF "is_number" 34, gF "check_schema" 35, gF "is_tree_of" 39, gF "_check_fields" 40, gF "_rows_below" 41, gF "_is_row" 42, gF "check_rows" 43, gF "_number" 44, gF "_rows_of_text" 45, gF "_law_number" 49, gF "_law_deal" 50, gF "_law_pick" 51, gF "_law_word" 52, gF "_law_words" 53, gF "_law_model" 54, gF "_law_tree" 55, gF "_law_rows" 56, gF "_law_rows_of" 57, gF "_law_line" 59, gF "_law_told" 60, gF "_law_sort" 61, gF "_law_number_of" 62, gF "_law_read" 63, gF "_law_bent" 64, gF "_law_right" 65, gF "_law_long_right" 66, gF "law" 67, sF "__init__" 0, sP "constructors" 3, sF "constructor" 7, sF "place" 8, sF "__eq__" 13, sF "__contains__" 12, tF "__init__" 0, tP "schema" 3, tP "rows" 4, tP "fields" 5, tP "size" 6, tP "depth" 7, tF "__str__" 11, tF "__len__" 12, tF "__repr__" 13, tF "__eq__" 14, xF "InvalidText" 7, xF "NotASchema" 5, xF "InvalidRows" 12, cF "of_rows" 1, cF "read" 2]
def tf : List He.Defn := [("_law_right", none), ("_law_long_right", none)]
abbrev R : PySem.W.OpenRow := PySem.W.OpenLaw.row PySem.Challenge.rw_fivetrees_k09_whole_tree_texts
abbrev hk : PySem.W.Hook := hookCZ 5 tx.tab fn tf
def ob (s : PySem.W.SharedT) : AlX := obsCZ 5 tx.tab fn tf (HandSHeadRun.getT s)
theorem ob_eq (s : PySem.W.SharedT) : ob s = hk.obs s.abs := obsCZ_eq (HandSHeadRun.getT_eq s)
end Ks
set_option Elab.async false
set_option linter.all false
set_option maxRecDepth 100000
set_option maxHeartbeats 4000000
namespace Ks
open PySem PySem.Spec PyProof.Rows L2 Gd Kx LamX
section
variable {P : Program} {w : World} {K : PySem.W.Frag} {mg : Str → Option Value} {base : Heap} {h : Heap}
theorem law_binds {f : Addr} {fd : FuncData} (F : Fun K "law" "law" sLw f fd) (s : Shared) (v : Value) : BindsTo s fd ⟨[v], []⟩ [("_law_cells", v)] := by
  obtain ⟨oc, od, kV, doc, pm, an, cdv, ct, osl, rfl, lk, hcd⟩ := F.ex
  exact .of_eq rfl
theorem facts {l : PySem.W.OpenLaw} {fa : Addr} (X : K.In h) (G : h.Ns mainGlobals mg) (hfa : mg ("law" : Str) = some (.ref fa)) (z : SaysZ tx.tab fn tf h K) : LawT l w K 47 63 "_law_cells" mg fa h := by
  have c := z.y
  have e := hfa.symm.trans (glo_t X G c (y := "law") (by decide +kernel))
  cases e
  obtain ⟨d_is_name, F_is_name⟩ := fun_g c 0 "is_name" 23 (by rfl)
  obtain ⟨d_is_one_of, F_is_one_of⟩ := fun_g c 1 "_is_one_of" 24 (by rfl)
  obtain ⟨d_check_kinds, F_check_kinds⟩ := fun_g c 2 "_check_kinds" 25 (by rfl)
  obtain ⟨d_is_constructor, F_is_constructor⟩ := fun_g c 3 "_is_constructor" 26 (by rfl)
  obtain ⟨d_check_constructors, F_check_constructors⟩ := fun_g c 4 "_check_constructors" 27 (by rfl)
  obtain ⟨d_check_trees, F_check_trees⟩ := fun_g c 5 "_check_trees" 28 (by rfl)
  obtain ⟨d_is_integer, F_is_integer⟩ := fun_g c 6 "is_integer" 33 (by rfl)
  obtain ⟨d_is_number, F_is_number⟩ := fun_g c 7 "is_number" 34 (by rfl)
  obtain ⟨d_check_schema, F_check_schema⟩ := fun_g c 8 "check_schema" 35 (by rfl)
  obtain ⟨d_is_tree_of, F_is_tree_of⟩ := fun_g c 9 "is_tree_of" 39 (by rfl)
  obtain ⟨d_check_fields, F_check_fields⟩ := fun_g c 10 "_check_fields" 40 (by rfl)
  obtain ⟨d_rows_below, F_rows_below⟩ := fun_g c 11 "_rows_below" 41 (by rfl)
  obtain ⟨d_is_row, F_is_row⟩ := fun_g c 12 "_is_row" 42 (by rfl)
  obtain ⟨d_check_rows, F_check_rows⟩ := fun_g c 13 "check_rows" 43 (by rfl)
  obtain ⟨d_number, F_number⟩ := fun_g c 14 "_number" 44 (by rfl)
  obtain ⟨d_rows_of_text, F_rows_of_text⟩ := fun_g c 15 "_rows_of_text" 45 (by rfl)
  obtain ⟨d_law_number, F_law_number⟩ := fun_g c 16 "_law_number" 49 (by rfl)
  obtain ⟨d_law_deal, F_law_deal⟩ := fun_g c 17 "_law_deal" 50 (by rfl)
  obtain ⟨d_law_pick, F_law_pick⟩ := fun_g c 18 "_law_pick" 51 (by rfl)
  obtain ⟨d_law_word, F_law_word⟩ := fun_g c 19 "_law_word" 52 (by rfl)
  obtain ⟨d_law_words, F_law_words⟩ := fun_g c 20 "_law_words" 53 (by rfl)
  obtain ⟨d_law_model, F_law_model⟩ := fun_g c 21 "_law_model" 54 (by rfl)
  obtain ⟨d_law_tree, F_law_tree⟩ := fun_g c 22 "_law_tree" 55 (by rfl)
  obtain ⟨d_law_rows, F_law_rows⟩ := fun_g c 23 "_law_rows" 56 (by rfl)
  obtain ⟨d_law_rows_of, F_law_rows_of⟩ := fun_g c 24 "_law_rows_of" 57 (by rfl)
  obtain ⟨d_law_line, F_law_line⟩ := fun_g c 25 "_law_line" 59 (by rfl)
  obtain ⟨d_law_told, F_law_told⟩ := fun_g c 26 "_law_told" 60 (by rfl)
  obtain ⟨d_law_sort, F_law_sort⟩ := fun_g c 27 "_law_sort" 61 (by rfl)
  obtain ⟨d_law_number_of, F_law_number_of⟩ := fun_g c 28 "_law_number_of" 62 (by rfl)
  obtain ⟨d_law_read, F_law_read⟩ := fun_g c 29 "_law_read" 63 (by rfl)
  obtain ⟨d_law_bent, F_law_bent⟩ := fun_g c 30 "_law_bent" 64 (by rfl)
  obtain ⟨d_law_right, F_law_right⟩ := fun_g c 31 "_law_right" 65 (by rfl)
  obtain ⟨d_law_long_right, F_law_long_right⟩ := fun_g c 32 "_law_long_right" 66 (by rfl)
  obtain ⟨d_law, F_law⟩ := fun_g c 33 "law" 67 (by rfl)
  obtain ⟨ds_init, S_init⟩ := fun_s c 34 "__init__" "Schema.__init__" 0 (by rfl) (by decide +kernel)
  obtain ⟨ds_constructors, S_constructors⟩ := fun_sp c 35 "constructors" "Schema.constructors" 3 (by rfl) (by decide +kernel)
  obtain ⟨ds_constructor, S_constructor⟩ := fun_s c 36 "constructor" "Schema.constructor" 7 (by rfl) (by decide +kernel)
  obtain ⟨ds_place, S_place⟩ := fun_s c 37 "place" "Schema.place" 8 (by rfl) (by decide +kernel)
  obtain ⟨ds_eq, S_eq⟩ := fun_s c 38 "__eq__" "Schema.__eq__" 13 (by rfl) (by decide +kernel)
  obtain ⟨ds_contains, S_contains⟩ := fun_s c 39 "__contains__" "Schema.__contains__" 12 (by rfl) (by decide +kernel)
  obtain ⟨dt_init, T_init⟩ := fun_t c 40 "__init__" "Tree.__init__" 0 (by rfl) (by decide +kernel)
  obtain ⟨dt_schema, T_schema⟩ := fun_tp c 41 "schema" "Tree.schema" 3 (by rfl) (by decide +kernel)
  obtain ⟨dt_rows, T_rows⟩ := fun_tp c 42 "rows" "Tree.rows" 4 (by rfl) (by decide +kernel)
  obtain ⟨dt_fields, T_fields⟩ := fun_tp c 43 "fields" "Tree.fields" 5 (by rfl) (by decide +kernel)
  obtain ⟨dt_size, T_size⟩ := fun_tp c 44 "size" "Tree.size" 6 (by rfl) (by decide +kernel)
  obtain ⟨dt_depth, T_depth⟩ := fun_tp c 45 "depth" "Tree.depth" 7 (by rfl) (by decide +kernel)
  obtain ⟨dt_str, T_str⟩ := fun_t c 46 "__str__" "Tree.__str__" 11 (by rfl) (by decide +kernel)
  obtain ⟨dt_len, T_len⟩ := fun_t c 47 "__len__" "Tree.__len__" 12 (by rfl) (by decide +kernel)
  obtain ⟨dt_repr, T_repr⟩ := fun_t c 48 "__repr__" "Tree.__repr__" 13 (by rfl) (by decide +kernel)
  obtain ⟨dt_eq, T_eq⟩ := fun_t c 49 "__eq__" "Tree.__eq__" 14 (by rfl) (by decide +kernel)
  obtain ⟨dx_InvalidText, X_InvalidText⟩ := fun_x c 50 "InvalidText" 7 (by rfl)
  obtain ⟨dx_NotASchema, X_NotASchema⟩ := fun_x c 51 "NotASchema" 5 (by rfl)
  obtain ⟨dx_InvalidRows, X_InvalidRows⟩ := fun_x c 52 "InvalidRows" 12 (by rfl)
  obtain ⟨dc_of_rows, C_of_rows⟩ := fun_tc c 53 "of_rows" "Tree.of_rows" 1 (by rfl) (by decide +kernel)
  obtain ⟨dc_read, C_read⟩ := fun_tc c 54 "read" "Tree.read" 2 (by rfl) (by decide +kernel)
  have b_is_name : Binds K d_is_name ["value"] [] := F_is_name.binds fun _ _ _ _ _ _ us hl => match us, hl with | [_], _ => rfl
  have g_is_name := glo_t X G c (y := "is_name") (by decide +kernel)
  have b_is_one_of : Binds K d_is_one_of ["value", "names"] [] := F_is_one_of.binds fun _ _ _ _ _ _ us hl => match us, hl with | [_, _], _ => rfl
  have g_is_one_of := glo_t X G c (y := "_is_one_of") (by decide +kernel)
  have b_check_kinds : Binds K d_check_kinds ["kinds"] [] := F_check_kinds.binds fun _ _ _ _ _ _ us hl => match us, hl with | [_], _ => rfl
  have g_check_kinds := glo_t X G c (y := "_check_kinds") (by decide +kernel)
  have b_is_constructor : Binds K d_is_constructor ["value", "kinds"] [] := F_is_constructor.binds fun _ _ _ _ _ _ us hl => match us, hl with | [_, _], _ => rfl
  have g_is_constructor := glo_t X G c (y := "_is_constructor") (by decide +kernel)
  have b_check_constructors : Binds K d_check_constructors ["constructors", "kinds"] [] := F_check_constructors.binds fun _ _ _ _ _ _ us hl => match us, hl with | [_, _], _ => rfl
  have g_check_constructors := glo_t X G c (y := "_check_constructors") (by decide +kernel)
  have b_check_trees : Binds K d_check_trees ["kinds", "constructors"] [] := F_check_trees.binds fun _ _ _ _ _ _ us hl => match us, hl with | [_, _], _ => rfl
  have g_check_trees := glo_t X G c (y := "_check_trees") (by decide +kernel)
  have b_is_integer : Binds K d_is_integer ["value"] [] := F_is_integer.binds fun _ _ _ _ _ _ us hl => match us, hl with | [_], _ => rfl
  have g_is_integer := glo_t X G c (y := "is_integer") (by decide +kernel)
  have b_is_number : Binds K d_is_number ["value", "least", "most"] [] := F_is_number.binds fun _ _ _ _ _ _ us hl => match us, hl with | [_, _, _], _ => rfl
  have g_is_number := glo_t X G c (y := "is_number") (by decide +kernel)
  have b_check_schema : Binds K d_check_schema ["schema"] [] := F_check_schema.binds fun _ _ _ _ _ _ us hl => match us, hl with | [_], _ => rfl
  have g_check_schema := glo_t X G c (y := "check_schema") (by decide +kernel)
  have b_is_tree_of : Binds K d_is_tree_of ["value", "schema", "kind"] [] := F_is_tree_of.binds fun _ _ _ _ _ _ us hl => match us, hl with | [_, _, _], _ => rfl
  have g_is_tree_of := glo_t X G c (y := "is_tree_of") (by decide +kernel)
  have b_check_fields : Binds K d_check_fields ["schema", "kinds", "fields"] [] := F_check_fields.binds fun _ _ _ _ _ _ us hl => match us, hl with | [_, _, _], _ => rfl
  have g_check_fields := glo_t X G c (y := "_check_fields") (by decide +kernel)
  have b_rows_below : Binds K d_rows_below ["name", "fields"] [] := F_rows_below.binds fun _ _ _ _ _ _ us hl => match us, hl with | [_, _], _ => rfl
  have g_rows_below := glo_t X G c (y := "_rows_below") (by decide +kernel)
  have b_is_row : Binds K d_is_row ["schema", "row", "kinds"] [] := F_is_row.binds fun _ _ _ _ _ _ us hl => match us, hl with | [_, _, _], _ => rfl
  have g_is_row := glo_t X G c (y := "_is_row") (by decide +kernel)
  have b_check_rows : Binds K d_check_rows ["schema", "rows"] [] := F_check_rows.binds fun _ _ _ _ _ _ us hl => match us, hl with | [_, _], _ => rfl
  have g_check_rows := glo_t X G c (y := "check_rows") (by decide +kernel)
  have b_number : Binds K d_number ["word"] [] := F_number.binds fun _ _ _ _ _ _ us hl => match us, hl with | [_], _ => rfl
  have g_number := glo_t X G c (y := "_number") (by decide +kernel)
  have b_rows_of_text : Binds K d_rows_of_text ["text"] [] := F_rows_of_text.binds fun _ _ _ _ _ _ us hl => match us, hl with | [_], _ => rfl
  have g_rows_of_text := glo_t X G c (y := "_rows_of_text") (by decide +kernel)
  have b_law_number : Binds K d_law_number ["_law_cells", "_law_k"] [] := F_law_number.binds fun _ _ _ _ _ _ us hl => match us, hl with | [_, _], _ => rfl
  have g_law_number := glo_t X G c (y := "_law_number") (by decide +kernel)
  have b_law_deal : Binds K d_law_deal ["_law_number_here"] [] := F_law_deal.binds fun _ _ _ _ _ _ us hl => match us, hl with | [_], _ => rfl
  have g_law_deal := glo_t X G c (y := "_law_deal") (by decide +kernel)
  have b_law_pick : Binds K d_law_pick ["_law_deal_here", "_law_many"] [] := F_law_pick.binds fun _ _ _ _ _ _ us hl => match us, hl with | [_, _], _ => rfl
  have g_law_pick := glo_t X G c (y := "_law_pick") (by decide +kernel)
  have b_law_word : Binds K d_law_word ["_law_deal_here", "_law_taken"] [] := F_law_word.binds fun _ _ _ _ _ _ us hl => match us, hl with | [_, _], _ => rfl
  have g_law_word := glo_t X G c (y := "_law_word") (by decide +kernel)
  have b_law_words : Binds K d_law_words ["_law_deal_here", "_law_many"] [] := F_law_words.binds fun _ _ _ _ _ _ us hl => match us, hl with | [_, _], _ => rfl
  have g_law_words := glo_t X G c (y := "_law_words") (by decide +kernel)
  have b_law_model : Binds K d_law_model ["_law_deal_here"] [] := F_law_model.binds fun _ _ _ _ _ _ us hl => match us, hl with | [_], _ => rfl
  have g_law_model := glo_t X G c (y := "_law_model") (by decide +kernel)
  have b_law_tree : Binds K d_law_tree ["_law_deal_here", "_law_model_here", "_law_kind", "_law_deep"] [] := F_law_tree.binds fun _ _ _ _ _ _ us hl => match us, hl with | [_, _, _, _], _ => rfl
  have g_law_tree := glo_t X G c (y := "_law_tree") (by decide +kernel)
  have b_law_rows : Binds K d_law_rows ["_law_done", "_law_tree_here"] [] := F_law_rows.binds fun _ _ _ _ _ _ us hl => match us, hl with | [_, _], _ => rfl
  have g_law_rows := glo_t X G c (y := "_law_rows") (by decide +kernel)
  have b_law_rows_of : Binds K d_law_rows_of ["_law_tree_here"] [] := F_law_rows_of.binds fun _ _ _ _ _ _ us hl => match us, hl with | [_], _ => rfl
  have g_law_rows_of := glo_t X G c (y := "_law_rows_of") (by decide +kernel)
  have b_law_line : Binds K d_law_line ["_law_rows_here"] [] := F_law_line.binds fun _ _ _ _ _ _ us hl => match us, hl with | [_], _ => rfl
  have g_law_line := glo_t X G c (y := "_law_line") (by decide +kernel)
  have b_law_told : Binds K d_law_told ["_law_act"] [] := F_law_told.binds fun _ _ _ _ _ _ us hl => match us, hl with | [_], _ => rfl
  have g_law_told := glo_t X G c (y := "_law_told") (by decide +kernel)
  have b_law_sort : Binds K d_law_sort ["_law_e"] [] := F_law_sort.binds fun _ _ _ _ _ _ us hl => match us, hl with | [_], _ => rfl
  have g_law_sort := glo_t X G c (y := "_law_sort") (by decide +kernel)
  have b_law_number_of : Binds K d_law_number_of ["_law_word_here"] [] := F_law_number_of.binds fun _ _ _ _ _ _ us hl => match us, hl with | [_], _ => rfl
  have g_law_number_of := glo_t X G c (y := "_law_number_of") (by decide +kernel)
  have b_law_read : Binds K d_law_read ["_law_model_here", "_law_line_here"] [] := F_law_read.binds fun _ _ _ _ _ _ us hl => match us, hl with | [_, _], _ => rfl
  have g_law_read := glo_t X G c (y := "_law_read") (by decide +kernel)
  have b_law_bent : Binds K d_law_bent ["_law_deal_here", "_law_line_here"] [] := F_law_bent.binds fun _ _ _ _ _ _ us hl => match us, hl with | [_, _], _ => rfl
  have g_law_bent := glo_t X G c (y := "_law_bent") (by decide +kernel)
  have b_law_right : Binds K d_law_right ["_law_deal_here"] [] := F_law_right.binds fun _ _ _ _ _ _ us hl => match us, hl with | [_], _ => rfl
  have g_law_right := glo_t X G c (y := "_law_right") (by decide +kernel)
  have b_law_long_right : Binds K d_law_long_right ["_law_deal_here"] [] := F_law_long_right.binds fun _ _ _ _ _ _ us hl => match us, hl with | [_], _ => rfl
  have g_law_long_right := glo_t X G c (y := "_law_long_right") (by decide +kernel)
  have bs_init : Binds K ds_init ["self", "kinds", "constructors"] [] := S_init.binds fun _ _ _ _ _ _ us hl => match us, hl with | [_, _, _], _ => rfl
  have bs_constructors : Binds K ds_constructors ["self"] [] := S_constructors.binds fun _ _ _ _ _ _ us hl => match us, hl with | [_], _ => rfl
  have bs_constructor : Binds K ds_constructor ["self", "name"] [] := S_constructor.binds fun _ _ _ _ _ _ us hl => match us, hl with | [_, _], _ => rfl
  have bs_place : Binds K ds_place ["self", "name"] [] := S_place.binds fun _ _ _ _ _ _ us hl => match us, hl with | [_, _], _ => rfl
  have bs_eq : Binds K ds_eq ["self", "other"] [] := S_eq.binds fun _ _ _ _ _ _ us hl => match us, hl with | [_, _], _ => rfl
  have bs_contains : Binds K ds_contains ["self", "value"] [] := S_contains.binds fun _ _ _ _ _ _ us hl => match us, hl with | [_, _], _ => rfl
  have bt_schema : Binds K dt_schema ["self"] [] := T_schema.binds fun _ _ _ _ _ _ us hl => match us, hl with | [_], _ => rfl
  have bt_rows : Binds K dt_rows ["self"] [] := T_rows.binds fun _ _ _ _ _ _ us hl => match us, hl with | [_], _ => rfl
  have bt_fields : Binds K dt_fields ["self"] [] := T_fields.binds fun _ _ _ _ _ _ us hl => match us, hl with | [_], _ => rfl
  have bt_size : Binds K dt_size ["self"] [] := T_size.binds fun _ _ _ _ _ _ us hl => match us, hl with | [_], _ => rfl
  have bt_depth : Binds K dt_depth ["self"] [] := T_depth.binds fun _ _ _ _ _ _ us hl => match us, hl with | [_], _ => rfl
  have bt_str : Binds K dt_str ["self"] [] := T_str.binds fun _ _ _ _ _ _ us hl => match us, hl with | [_], _ => rfl
  have bt_len : Binds K dt_len ["self"] [] := T_len.binds fun _ _ _ _ _ _ us hl => match us, hl with | [_], _ => rfl
  have bt_repr : Binds K dt_repr ["self"] [] := T_repr.binds fun _ _ _ _ _ _ us hl => match us, hl with | [_], _ => rfl
  have bt_eq : Binds K dt_eq ["self", "other"] [] := T_eq.binds fun _ _ _ _ _ _ us hl => match us, hl with | [_, _], _ => rfl
  have bc_of_rows : Binds K dc_of_rows ["cls", "schema", "rows"] [] := C_of_rows.binds fun _ _ _ _ _ _ us hl => match us, hl with | [_, _, _], _ => rfl
  have bc_read : Binds K dc_read ["cls", "schema", "text"] [] := C_read.binds fun _ _ _ _ _ _ us hl => match us, hl with | [_, _, _], _ => rfl
  have gC := glo_t X G c (y := "Schema") (by decide +kernel)
  have gTr := glo_t X G c (y := "Tree") (by decide +kernel)
  have T : TS0 mg := ts_t X G c (by decide +kernel) (by decide +kernel)
  have n_int : mg "int" = none := free_t X G c (by decide +kernel)
  have n_abs : mg "abs" = none := free_t X G c (by decide +kernel)
  have n_repr : mg "repr" = none := free_t X G c (by decide +kernel)
  have n_bool : mg "bool" = none := free_t X G c (by decide +kernel)
  have n_max : mg "max" = none := free_t X G c (by decide +kernel)
  have n_min : mg "min" = none := free_t X G c (by decide +kernel)
  have n_sum : mg "sum" = none := free_t X G c (by decide +kernel)
  have n_zip : mg "zip" = none := free_t X G c (by decide +kernel)
  have n_list : mg "list" = none := free_t X G c (by decide +kernel)
  have n_dict : mg "dict" = none := free_t X G c (by decide +kernel)
  have TI : TI0 mg := ⟨T.isi, T.str, T.len, T.all, He.str_ok X G (tb4 c).1, He.str_ok X G (tb4 c).2.1, He.int_ok X G (tb3 c (by decide +kernel))⟩
  have TW : TW0 mg := ⟨T.len, T.str, T.rng⟩
  have TXx : TsX mg := ⟨n_max, n_sum⟩
  have mM : ∃ t, mg "MOST_ROWS" = some (.int 200 t) := He.int_ok X G (tb3 c (by decide +kernel))
  have Z := scl_t c
  have ZT := tcl_t c
  have FS := sf_of c
  have FT := tf_of c
  have tw := two_t c
  obtain ⟨qcc, qm⟩ := He.ba (tb4 c).2.2.2.2.2
  obtain ⟨qI, qm⟩ := He.ba qm
  obtain ⟨qN, qm⟩ := He.ba qm
  obtain ⟨qR, qm⟩ := He.ba qm
  obtain ⟨qD, qm⟩ := He.ba qm
  obtain ⟨e1, qm⟩ := He.ba qm
  obtain ⟨e2, qm⟩ := He.ba qm
  obtain ⟨e3, qm⟩ := He.ba qm
  obtain ⟨e4, qm⟩ := He.ba qm
  obtain ⟨e5, qm⟩ := He.ba qm
  obtain ⟨e6, qm⟩ := He.ba qm
  obtain ⟨e7, qm⟩ := He.ba qm
  obtain ⟨e8, e9⟩ := He.ba qm
  have hne : (He.cT K ("_law_right", none)).2 ≠ (He.cT K ("_law_long_right", none)).2 := of_decide_eq_true e9
  have gT := glo_t X G c (y := "TreeError") (by decide +kernel)
  have gS := glo_t X G c (y := "StateError") (by decide +kernel)
  have gL := glo_t X G c (y := "LimitError") (by decide +kernel)
  have m1 : (("_law_right", none) : He.Defn) ∈ tf := List.mem_cons_self ..
  have m2 : (("_law_long_right", none) : He.Defn) ∈ tf := List.mem_cons_of_mem _ (List.mem_singleton.mpr rfl)
  have two : ∀ {p : Addr × Addr}, p ∈ [He.cT K ("_law_right", none), He.cT K ("_law_long_right", none)] → ∃ d, d ∈ tf ∧ p = He.cT K d := fun {p} hp => by
    rcases List.mem_cons.mp hp with rfl | hp
    · exact ⟨_, m1, rfl⟩
    · rw [List.mem_singleton.mp hp]
      exact ⟨_, m2, rfl⟩
  refine ⟨d_law, [He.cT K ("_law_right", none), He.cT K ("_law_long_right", none)], spLaw K [((He.cT K ("_law_right", none)).2, qLam), ((He.cT K ("_law_long_right", none)).2, qLng)], fun p hp => ?_, fun p hp => ?_, fun p hp => ?_, fun s v => law_binds F_law s v, fun H a ns hl hT hS => ?_, fun base KB GB hTB => ?_⟩
  · obtain ⟨d, hd, rfl⟩ := two hp
    exact z.emp _ hd
  · obtain ⟨d, hd, rfl⟩ := two hp
    exact z.out _ hd
  · obtain ⟨d, hd, rfl⟩ := two hp
    exact PySem.W.codeHd_of_K X (z.hd _ hd)
  · refine ⟨a, ns, rfl, hS, hl, fun x hx => ?_, fun _ => rfl⟩
    rcases List.mem_cons.mp hx with rfl | hx
    · exact TabS.nil (hT _ (List.mem_cons_self ..))
    · rw [List.mem_singleton.mp hx]
      exact TabS.nil (hT _ (List.mem_cons_of_mem _ (List.mem_singleton.mpr rfl)))
  have TB1 : TabB base mg (He.codeOf K ("_law_right", none)) (He.cT K ("_law_right", none)).2 := hTB _ (List.mem_cons_self ..)
  have TB2 : TabB base mg (He.codeOf K ("_law_long_right", none)) (He.cT K ("_law_long_right", none)).2 := hTB _ (List.mem_cons_of_mem _ (List.mem_singleton.mpr rfl))
  have u1 : ∀ p ∈ [((He.cT K ("_law_right", none)).2, qLam), ((He.cT K ("_law_long_right", none)).2, qLng)], p.1 = (He.cT K ("_law_right", none)).2 → p.2 = qLam := fun p hp e => by
    rcases List.mem_cons.mp hp with rfl | hp
    · rfl
    · rw [List.mem_singleton.mp hp] at e
      exact absurd e.symm hne
  have u2 : ∀ p ∈ [((He.cT K ("_law_right", none)).2, qLam), ((He.cT K ("_law_long_right", none)).2, qLng)], p.1 = (He.cT K ("_law_long_right", none)).2 → p.2 = qLng := fun p hp e => by
    rcases List.mem_cons.mp hp with rfl | hp
    · exact absurd e hne
    · rw [List.mem_singleton.mp hp]
  have GI : FnOk l.prog w K mg base CX0 1 _ d_is_name ["value"] (spIs K) := ok_is F_is_name TI
  have GO : FnOk l.prog w K mg base CX0 1 _ d_is_one_of ["value", "names"] (spOne K) := ok_one F_is_one_of T
  have GK : FnOk l.prog w K mg base CX0 2 _ d_check_kinds ["kinds"] spCk := ok_ck F_check_kinds T GI F_is_name.kp b_is_name g_is_name
  have GJ : FnOk l.prog w K mg base CX0 2 _ d_is_constructor ["value", "kinds"] spIsC := ok_isC F_is_constructor T GI F_is_name.kp b_is_name g_is_name GO F_is_one_of.kp b_is_one_of g_is_one_of
  have GC : FnOk l.prog w K mg base CX0 3 _ d_check_constructors ["constructors", "kinds"] spCc := ok_cc F_check_constructors T GJ F_is_constructor.kp b_is_constructor g_is_constructor
  have GT := ok_ct (P := l.prog) (w := w) (base := base) F_check_trees T
  have GN : FnOk l.prog w K mg base CX0 1 _ d_law_number ["_law_cells", "_law_k"] (spNum K) := ok_num F_law_number T.len n_int
  have GE : FnOk l.prog w K mg base CX0 1 _ d_law_deal ["_law_number_here"] spDeal := ok_deal F_law_deal n_abs n_int
  have GP : FnOk l.prog w K mg base CX0 1 _ d_law_pick ["_law_deal_here", "_law_many"] spPick := ok_pick F_law_pick n_int
  have GW : FnOk l.prog w K mg base CX0 2 _ d_law_word ["_law_deal_here", "_law_taken"] spWord := ok_word F_law_word TW GP F_law_pick.kp b_law_pick g_law_pick
  have GWs : FnOk l.prog w K mg base CX0 3 _ d_law_words ["_law_deal_here", "_law_many"] spWds := ok_wds F_law_words T.rng GW F_law_word.kp b_law_word g_law_word
  have GM : FnOk l.prog w K mg base CX0 4 _ d_law_model ["_law_deal_here"] spMdl := ok_mdl F_law_model T.rng T.tup T.len GP F_law_pick.kp b_law_pick g_law_pick GWs F_law_words.kp b_law_words g_law_words
  have Gini : FnOk l.prog w K mg base CX0 4 _ ds_init ["self", "kinds", "constructors"] (spIni (He.ga K "Schema")) := ok_ini S_init T Z GK F_check_kinds.kp b_check_kinds g_check_kinds GC F_check_constructors.kp b_check_constructors g_check_constructors GT F_check_trees.kp b_check_trees g_check_trees
  have Gpl : FnOk l.prog w K mg base CX0 2 _ ds_place ["self", "name"] (spPl (He.ga K "Schema")) := ok_pl S_place Z GO F_is_one_of.kp b_is_one_of g_is_one_of
  have Sc : Sch l.prog w K mg base (He.ga K "Schema") := ⟨Z, FS.ci, gC, ⟨_, _, FS.dm (y := "__eq__") (by decide +kernel), ok_eq S_eq T gC Z FS.ci, bs_eq⟩, ⟨_, _, FS.me "constructor" (by decide +kernel), ok_co S_constructor Z Gpl (FS.me "place" (by decide +kernel)) bs_place, bs_constructor⟩⟩
  have Tc : Tch l.prog w K mg base (He.ga K "Tree") := ⟨ZT, FT.ci, gTr, ⟨_, _, _, FT.pr "schema" (by decide +kernel), ok_gs T_schema ZT, bt_schema⟩, ⟨_, _, _, FT.pr "rows" (by decide +kernel), ok_gR T_rows ZT, bt_rows⟩, ⟨_, _, _, FT.pr "fields" (by decide +kernel), ok_gF T_fields ZT, bt_fields⟩,
    ⟨_, _, _, FT.pr "size" (by decide +kernel), ok_gz T_size ZT, bt_size⟩, ⟨_, _, _, FT.pr "depth" (by decide +kernel), ok_gd T_depth ZT, bt_depth⟩⟩
  have Gch := ok_chk F_check_schema T.isi Sc
  have Gto := ok_ito F_is_tree_of T.isi Sc Tc
  have Gcf := ok_cf F_check_fields T Gto F_is_tree_of.kp b_is_tree_of g_is_tree_of
  have Grb := ok_rb (CS := He.ga K "Schema") F_rows_below T mM Tc
  have mk := ok_mk T_init T TXx Sc Tc Gch F_check_schema.kp b_check_schema g_check_schema Gcf F_check_fields.kp b_check_fields g_check_fields Grb F_rows_below.kp b_rows_below g_rows_below
  have TCs : Tcs l.prog w K mg base (He.ga K "Tree") (He.ga K "Schema") := ⟨Tc, FT.nb, ⟨_, _, FT.dm (y := "__len__") (by decide +kernel), ok_lnT T_len T ZT, bt_len⟩, ⟨_, _, FT.dm (y := "__repr__") (by decide +kernel), ok_rpT T_repr T ZT, bt_repr⟩, ⟨_, _, FT.dm (y := "__str__") (by decide +kernel), ok_stT T_str T ZT, bt_str⟩,
    ⟨_, _, FT.dm (y := "__eq__") (by decide +kernel), ok_eqT T_eq T.isi Sc Tc, bt_eq⟩, FT.ne, FT.ci.mo⟩
  have GTr : FnOk l.prog w K mg base CX0 6 _ d_law_tree ["_law_deal_here", "_law_model_here", "_law_kind", "_law_deep"] (spTree 4) := ok_tree F_law_tree T g_law_tree b_law_tree GP F_law_pick.kp b_law_pick g_law_pick 4
  have GLr : FnOk l.prog w K mg base CX0 (1 + 41) _ d_law_rows ["_law_done", "_law_tree_here"] (spLr 41) := ok_lr F_law_rows T g_law_rows b_law_rows 41
  have GRo : FnOk l.prog w K mg base CX0 43 _ d_law_rows_of ["_law_tree_here"] (spRo 41) := ok_ro F_law_rows_of T.tup GLr F_law_rows.kp b_law_rows g_law_rows
  have TN : TsN mg := ⟨n_int, n_bool, n_zip⟩
  have Gcn : FnOk l.prog w K mg base CX0 2 _ ds_contains ["self", "value"] (spCn K (He.ga K "Schema")) := ok_cn S_contains Z GO F_is_one_of.kp b_is_one_of g_is_one_of
  have Gii : FnOk l.prog w K mg base CX0 1 _ d_is_integer ["value"] spIint := ok_iint F_is_integer T TN
  have Gnu : FnOk l.prog w K mg base CX0 2 _ d_is_number ["value", "least", "most"] spInum := ok_inum F_is_number Gii F_is_integer.kp b_is_integer g_is_integer
  have Gir : FnOk l.prog w K mg base CX0 4 _ d_is_row ["schema", "row", "kinds"] (spIrw (He.ga K "Schema")) := ok_irw F_is_row T TN Sc (FS.dm (y := "__contains__") (by decide +kernel)) Gcn bs_contains Gnu F_is_number.kp b_is_number g_is_number
  have Gcr : FnOk l.prog w K mg base CX0 5 _ d_check_rows ["schema", "rows"] (spCrw (He.ga K "Schema")) := ok_crw F_check_rows T mM Sc Gir F_is_row.kp b_is_row g_is_row
  have Gor : FnOk l.prog w K mg base CX0 7 _ dc_of_rows ["cls", "schema", "rows"] (spOfr (He.ga K "Tree") (He.ga K "Schema")) := ok_ofr C_of_rows T FT.mkr mk.1 Gch F_check_schema.kp b_check_schema g_check_schema Gcr F_check_rows.kp b_check_rows g_check_rows
  have cmo := cmB_ok (m := "of_rows") (K := K) (C := "Tree") (He.ba (He.ba (tb4 c).2.2.2.2.2).1).1
  have OF : Ofr l.prog w K mg base (He.ga K "Tree") (He.ga K "Schema") := ⟨_, _, _, _, cmo.1, cmo.2, Gor, bc_of_rows, kb_rs C_of_rows fun _ _ _ _ _ _ _ _ _ => rfl⟩
  have OI : One l.prog w K mg base "InvalidText" "value" (He.ga K "InvalidText") := xd_one X G qI X_InvalidText scXI rfl rfl rfl (fun _ => rfl) (fun _ _ _ _ _ _ us hl => match us, hl with | [_, _], _ => rfl) (fun _ _ _ _ _ _ _ _ => rfl)
  have OIH : OneH l.prog w K mg base "InvalidText" "value" (He.ga K "InvalidText") := xd_oneH X G qI X_InvalidText scXI rfl rfl rfl (fun _ => rfl) (fun _ _ _ _ _ _ us hl => match us, hl with | [_, _], _ => rfl)
  have ON : One l.prog w K mg base "NotASchema" "value" (He.ga K "NotASchema") := xd_one X G qN X_NotASchema scXN rfl rfl rfl (fun _ => rfl) (fun _ _ _ _ _ _ us hl => match us, hl with | [_, _], _ => rfl) (fun _ _ _ _ _ _ _ _ => rfl)
  have OR : One l.prog w K mg base "InvalidRows" "index" (He.ga K "InvalidRows") := xd_one X G qR X_InvalidRows scXR rfl rfl rfl (fun _ => rfl) (fun _ _ _ _ _ _ us hl => match us, hl with | [_, _], _ => rfl) (fun _ _ _ _ _ _ _ _ => rfl)
  have GiiV : FnOk l.prog w K mg base CX0 1 _ d_is_integer ["value"] spIintV := ok_iintV F_is_integer T TN
  have GnuV : FnOk l.prog w K mg base CX0 2 _ d_is_number ["value", "least", "most"] spInumV := ok_inumV F_is_number GiiV F_is_integer.kp b_is_integer g_is_integer
  have Gchx : FnOk l.prog w K mg base (CX l.prog w) 3 _ d_check_schema ["schema"] (spChkX K (He.ga K "Schema") (He.ga K "NotASchema")) := ok_chkX F_check_schema T.isi Sc ON (xd_ty qN)
  have Gnmb : FnOk l.prog w K mg base CX0 1 _ d_number ["word"] spNmb := ok_nmb F_number T n_int (He.int_ok X G (tb3 c (by decide +kernel))) (He.str_ok X G qD)
  have Grot : FnOk l.prog w K mg base CX0 2 _ d_rows_of_text ["text"] spRot := ok_rot F_rows_of_text T Gnmb F_number.kp b_number g_number
  have Giwo : FnOk l.prog w K mg base CX0 4 _ d_is_row ["schema", "row", "kinds"] (spIrwO (He.ga K "Schema")) := ok_irwO F_is_row T TN Sc (FS.dm (y := "__contains__") (by decide +kernel)) Gcn bs_contains GnuV F_is_number.kp b_is_number g_is_number
  have Gcwo : FnOk l.prog w K mg base (L2N.CX l.prog w) 5 _ d_check_rows ["schema", "rows"] (spCrwO (He.ga K "Schema") (He.ga K "InvalidRows")) := ok_crwO F_check_rows T mM Sc OR (xd_ty qR) Giwo F_is_row.kp b_is_row g_is_row
  have Gofx : FnOk l.prog w K mg base (L2N.CX l.prog w) 7 _ dc_of_rows ["cls", "schema", "rows"] (spOfrX (He.ga K "Tree") (He.ga K "Schema") (He.ga K "InvalidRows")) := ok_ofrX C_of_rows T FT.mkr mk.1 Gch F_check_schema.kp b_check_schema g_check_schema Gcwo F_check_rows.kp b_check_rows g_check_rows
  have cmr := cmB_ok (m := "read") (K := K) (C := "Tree") (He.ba qcc).2
  have Grd : FnOk l.prog w K mg base (CX l.prog w) 9 _ dc_read ["cls", "schema", "text"] (spRd K (He.ga K "Tree") (He.ga K "Schema") (He.ga K "NotASchema") (He.ga K "InvalidText")) := ok_rd C_read T OI OIH (xd_ty qI) (He.glo_ok X G (xd_glo qR)) (of_decide_eq_true e6) Gchx F_check_schema.kp b_check_schema g_check_schema Grot F_rows_of_text.kp b_rows_of_text g_rows_of_text cmo.1 cmo.2 Gofx bc_of_rows (FT.dm (y := "__str__") (by decide +kernel)) (ok_stT T_str T ZT) bt_str
  have GLl : FnOk l.prog w K mg base CX0 1 _ d_law_line ["_law_rows_here"] spLin := ok_lin F_law_line T
  have GNo : FnOk l.prog w K mg base CX0 1 _ d_law_number_of ["_law_word_here"] spNof := ok_nof F_law_number_of T n_int
  have GQ : FnOk l.prog w K mg base CX0 44 _ d_law_read ["_law_model_here", "_law_line_here"] spLrd := ok_lrd F_law_read T n_dict n_list GNo F_law_number_of.kp b_law_number_of g_law_number_of GLl F_law_line.kp b_law_line g_law_line GRo F_law_rows_of.kp b_law_rows_of g_law_rows_of
  have GB : FnOk l.prog w K mg base CX0 2 _ d_law_bent ["_law_deal_here", "_law_line_here"] spBnt := ok_bnt F_law_bent T GP F_law_pick.kp b_law_pick g_law_pick
  have GrpTP : FnP l.prog w K mg base 1 _ dt_repr ["self"] (spRpT (He.ga K "Tree") (He.ga K "Schema")) := ok_rpTP T_repr T ZT
  have GSr : FnE l.prog w K mg base 6 _ d_law_sort "_law_e" (spSrt (He.ga K "Tree") (He.ga K "Schema") (He.ga K "InvalidText") (He.ga K "NotASchema")) := ok_srt F_law_sort T.isi n_repr (He.glo_ok X G (xd_glo qI)) (He.glo_ok X G (xd_glo qN)) (xd_xc qI) (xd_xc qN) (xd_no qI) (xd_no qN) (of_decide_eq_true e1) (of_decide_eq_true e2) (of_decide_eq_true e3) (FT.dm (y := "__repr__") (by decide +kernel)) GrpTP bt_repr
  have ER' : ERk K mg (He.ga K "Tree") (He.ga K "Schema") (He.ga K "InvalidText") (He.ga K "NotASchema") := ⟨⟨_, _, _, gT, gS, gL, of_decide_eq_true e4, of_decide_eq_true e5⟩, of_decide_eq_true e7, of_decide_eq_true e8⟩
  have GR := ok_rgt F_law_right (code_of F_law_right) TB1 (List.mem_cons_self ..) u1 T n_repr TCs Sc OF ER' FS.mkr Gini bs_init cmr.1 cmr.2 Grd bc_read (kb_rd C_read fun _ _ _ _ _ _ _ _ _ => rfl) GM F_law_model.kp b_law_model g_law_model GP F_law_pick.kp b_law_pick g_law_pick GTr F_law_tree.kp b_law_tree g_law_tree GRo F_law_rows_of.kp b_law_rows_of g_law_rows_of GLl F_law_line.kp b_law_line g_law_line GB F_law_bent.kp b_law_bent g_law_bent GQ F_law_read.kp b_law_read g_law_read F_law_told b_law_told g_law_told GSr F_law_sort.kp b_law_sort g_law_sort
  have GG := ok_lng F_law_long_right (code_of F_law_long_right) TB2 (List.mem_cons_of_mem _ (List.mem_singleton.mpr rfl)) u2 T n_repr TCs Sc ER' FS.mkr Gini bs_init cmr.1 cmr.2 Grd bc_read GWs F_law_words.kp b_law_words g_law_words F_law_told b_law_told g_law_told GSr F_law_sort.kp b_law_sort g_law_sort
  exact ok_law F_law T.len T.rng n_max n_min GN F_law_number.kp b_law_number g_law_number GE F_law_deal.kp b_law_deal g_law_deal GR F_law_right.kp b_law_right g_law_right GG F_law_long_right.kp b_law_long_right g_law_long_right
end
end Ks
set_option Elab.async false
set_option linter.all false
set_option maxRecDepth 100000
set_option maxHeartbeats 4000000
/-! the same look at a state whose objects stand in a list: over a tree made of them -/
namespace Gd
open PySem PySem.Spec PyProof.Rows HandSHeadRun
def obsL (H : PySem.W.Hook) (ob : PySem.W.SharedT → H.α) (s : Shared) : H.α := match putAll s.heap.objs.toList .nil 0 with
  | some (t, n) => frNat n fun n => ob ⟨t, n, s.heap.life, s.gens, s.drawn, s.toks, s.os⟩
  | none => H.obs s
theorem obsL_eq {H : PySem.W.Hook} {ob : PySem.W.SharedT → H.α} (e : ∀ s, ob s = H.obs s.abs) (s : Shared) : obsL H ob s = H.obs s := by
  unfold obsL
  cases q : putAll s.heap.objs.toList .nil 0 with
  | none => rfl
  | some r =>
    obtain ⟨t, n⟩ := r
    show frNat n (fun n => ob ⟨t, n, s.heap.life, s.gens, s.drawn, s.toks, s.os⟩) = _
    rw [frNat_eq, e]
    have eh := putAll_heap q
    show H.obs (⟨PySem.W.absHeap t n s.heap.life, s.gens, s.drawn, s.toks, s.os⟩ : Shared) = _
    rw [eh]
def hookL (H : PySem.W.Hook) (ob : PySem.W.SharedT → H.α) (e : ∀ s, ob s = H.obs s.abs) : PySem.W.Hook where
  α := H.α
  obs := obsL H ob
  val := H.val
  says := H.says
  of := fun w s h => H.of w s ((obsL_eq e s).symm.trans h)
  keeps := H.keeps
end Gd
set_option Elab.async false
set_option linter.all false
set_option maxRecDepth 100000
set_option maxHeartbeats 4000000
open PySem PySem.W PySem.Calls PyProof.Rows
abbrev Ks.hkL : PySem.W.Hook := Gd.hookL Ks.hk Ks.ob Ks.ob_eq
set_option maxHeartbeats 0 in
theorem PySem.Challenge.cw_fivetrees_k09_whole_tree_texts_holds : PySem.Challenge.rw_fivetrees_k09_whole_tree_texts.Holds := by
  w_on; o_law
  o_head Ks.hkL
  case hw => w_witness2
  case hc =>
    refine Gd.walk_goT (l := PySem.Challenge.rw_fivetrees_k09_whole_tree_texts) (n := 63) (k := 47) (x := "_law_cells") rfl (by decide) (by kernel_rfl) ⟨rfl, by decide, by decide⟩ ?F
    intro w mg fa h Y G hmg0
    obtain ⟨K, KX, c⟩ := Y
    exact ⟨K, KX, Ks.facts (l := PySem.Challenge.rw_fivetrees_k09_whole_tree_texts) KX G hmg0 c⟩
