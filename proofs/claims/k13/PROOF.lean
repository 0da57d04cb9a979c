import PyProof.Rows.All
import Wide.All
import OpenK.AllK
import Wide.FinOn
import HandS.ForMost
import HandS.IsInst
import HandS.ExcInit
import KE.KExcInit
import KE.KExcIs
import HandS.ExcValue
import HandS.OwnEq
import HandS.Conv
import HandS.Property
import HandS.Strs
import HandS.MakeKw
import KE.GoesEnum
import HandS.Iter
import HandS.DictComp
import OpenK.KOps
import OpenK.KMeth
import HandS.FStr
import PyProof.InstNe
import PyProof.EqKinds
import PyProof.CallStr
import HandS.Star
import HandS.SortKw
import HandS.MakeKwOnly
import KE.DatumOrd
import KE.KDictKeyed
import KE.KDictSum
import KE.KIntText
import HandS.Deep
import HandS.TupAny
import KE.SortData
import KE.LtData
import HandS.ClsMeth
import HandS.Zip
import HandS.Text
import HandS.TryMany
import HandS.HotCalls
import PyProof.CallFns
import HandS.Head0
import HandS.Head1
import HandS.Head2
import HandS.HeadHook1
import HandS.Small
import HandS.WordsExc
import HandS.Lambda
import HandS.ExcInitHot
import HandS.SetFor
import HandS.Walk
import PyProof.StrLawsRepr
import PyProof.NeKinds
import HandS.TupMul
import HandS.HeadNt
import HandS.HeadHook4
import HandS.EndTab
import HandS.HeadEnd
import PySem.Challenge.RW_fivetrees_k13_great_trees
set_option Elab.async false
set_option linter.all false
set_option maxRecDepth 100000
set_option maxHeartbeats 4000000
/-! Promises of defs that are called while no repr is under way; repr of lists and tuples; a law's end over them. -/
namespace Gd
open PySem PySem.Spec PyProof.Rows L2

/-- as FnOk, for calls at which no repr is under way -/
structure Pr (P : Program) (w : World) (K : PySem.W.Frag) (mg : Str → Option Value) (base : Heap) (CX : CXT) (k : Nat) (f : Addr) (fd : FuncData) (ps : List Str) (sp : Sp) : Prop where
  size : ∀ us H Q E, sp us H Q E → us.length = ps.length
  go : ∀ (A : Around) (ou : List Env) (s : Shared) (H : Hp) (gs : Args) (us : List Value) (vs : List V) (Q : VK) (E : XK), A.guards = some [] → Room k A →
    Env0 P w K mg base A ou s H → BindsTo s fd gs (ps.zip us) → Vals vs us → sp vs H Q E → codeAny (model P w) A (.call (.ref f) gs) (CR CX ou P w H s Q E) s
theorem Pr.of {P : Program} {w : World} {K : PySem.W.Frag} {mg : Str → Option Value} {base : Heap} {CX : CXT} {k : Nat} {f : Addr} {fd : FuncData} {ps : List Str} {sp : Sp} (F : FnOk P w K mg base CX k f fd ps sp) : Pr P w K mg base CX k f fd ps sp :=
  ⟨F.len, fun A ou s H gs us vs Q E _ => F.run A ou s H gs us vs Q E⟩

theorem pr_of {CX : CXT} {P : Program} {w : World} {K : PySem.W.Frag} {mg : Str → Option Value} {base : Heap} {k : Nat} {f : Addr} {nm qn : Str} {pa : Arguments} {bd : List Stmt} {sc : Scope} {dV kV dc pm cv ct oc : Value} {an od : Option Addr}
    {osl : Array (Option Value)} {N ps : List Str} {sp : Sp} (lk : K.lookup f = some ⟨oc, od, .func (PySem.W.fnOf nm qn pa bd sc dV kV dc pm an cv ct), osl⟩) (hc : PySem.W.codeIn K cv qn = true) (S : FnScope N ps sc)
    (hl : ∀ us H Q E, sp us H Q E → us.length = ps.length)
    (hb : ∀ (A : Around) (ou : List Env) (s : Shared) (H : Hp) (vs : List V) (Q : VK) (E : XK), A.guards = some [] → Room k (A.deeper (envOfC qn sc s.heap.objs.size f cv)) → sp vs H Q E →
      ∃ t, PSs (cxOf CX P w K mg base N qn sc f cv A ou s H E) bd t ∧ t { nx := fun _ H' => Q .non H', rt := Q } (start N vs) H) :
    Pr P w K mg base CX (k + 1) f (PySem.W.fnOf nm qn pa bd sc dV kV dc pm an cv ct) ps sp := by
  constructor
  · exact hl
  intro A ou s H gs us vs Q E hG hR e0 hB hV hS
  have n1 := hl vs H Q E hS
  have inK : K.In s.heap := e0.mod.kin.keeps (fun b o e => (e0.bs b o e).left)
  have noL : s.heap.NoLimit := e0.mod.nolimit.keeps (fun b o e => (e0.bs b o e).left)
  have kinds : ∀ y ∈ ps.zip us, sc.names.lookup y.1 = some .local ∨ (sc.names.lookup y.1 = some .cell ∧ ((cellsFrom (s.heap.objs.size + 1) sc.names []).lookup y.1).isSome = true) := by
    rintro ⟨n, v⟩ hy
    cases S.par n (List.of_mem_zip hy).1 with
    | inl q => exact .inl q
    | inr q => exact .inr ⟨q, PySem.W.cellsFrom_some _ _ _ (.inl q)⟩
  refine codeAny_call_function hR.depth (inK _ _ lk) rfl S.co S.gen rfl (PySem.W.codeRec_of inK hc) (hB _ _ _ _ ?_)
  refine wpAny_newFunctionEnv_cells S.kind kinds fun ev he s2 y => ?_
  subst he
  refine ⟨noL.keeps y.toInCall.keep, codeAny_func ?_⟩
  obtain ⟨t, ht, hq⟩ := hb A ou s H vs Q E hG (hR.deeper _) hS
  have J0 : Inv (cxOf CX P w K mg base N qn sc f cv A ou s H E) [] (start N vs) H s2 := inv_start S hR.hd e0 n1 hV y
  refine wpAny_mono (ht.run [] s2 (start N vs) H _ J0 hq) (fun fl s3 h3 => ?_) fun _ _ z => z
  have fin : ∀ {τ : L2.St} {H' : Hp} {v : V} {u : Value}, Inv (cxOf CX P w K mg base N qn sc f cv A ou s H E) [] τ H' s3 → RelV v u → Q v H' → CE ou P w H s Q u s3 := by
    intro τ H' v u J rv q
    exact ⟨v, H', J.os, J.bare, J.base, J.hok, rv, q⟩
  match fl, h3 with
  | .ret u, ⟨v, τ, H', J, rv, q⟩ => exact fin J rv q
  | .next, ⟨τ, H', J, q⟩ => exact fin (v := V.non) (u := Value.none) J rfl q
  | .brk, ⟨_, _, _, q⟩ => exact False.elim q
  | .cont, ⟨_, _, _, q⟩ => exact False.elim q

section
variable {P : Program} {w : World} {K : PySem.W.Frag} {mg : Str → Option Value} {base : Heap}
/-- a def of the text, by its body -/
theorem okG {x qn : Str} {st : Stmt} {f : Addr} {fd : FuncData} {N ps : List Str} {k : Nat} {sp : Sp} (F : Fun K x qn st f fd) (S : FnScope N ps (defScope st)) (hl : ∀ us H Q E, sp us H Q E → us.length = ps.length)
    (hb : ∀ (cv : Value) (A : Around) (ou : List Env) (s : Shared) (H : Hp) (vs : List V) (Q : VK) (E : XK), A.guards = some [] → Room k (A.deeper (envOfC qn (defScope st) s.heap.objs.size f cv)) → sp vs H Q E →
      ∃ t, PSs (cxOf CX0 P w K mg base N qn (defScope st) f cv A ou s H E).nox (defBody st) t ∧ t { nx := fun _ H' => Q .non H', rt := Q } (start N vs) H) : Pr P w K mg base CX0 (k + 1) f fd ps sp := by
  obtain ⟨oc, od, kV, dc, pm, an, cv, ct, osl, rfl, lk, hc⟩ := F.ex
  refine pr_of lk hc S hl fun A ou s H vs Q E hG hR hS => ?_
  obtain ⟨t, h, q⟩ := hb cv A ou s H vs Q E hG hR hS
  exact ⟨t, h.nox, q⟩
end

section
variable {X : Cx} {CX : CXT} {k : Nat} {f C : Addr} {fd : FuncData} {ps ks : List Str} {sp : Sp} {dvs : List V} {ds : List Value} {E : XK} {x m : Str} {p pos apos : Pos} {e o : Expr} {es : List Expr} {kws : List Keyword} {ta : TE} {t tk : TA}
  {g : List Value → List Value → List Value} {gV : List V → List V → List V}
theorem run_pr {pins : List (Addr × Obj)} {σ : L2.St} {H : Hp} {s : Shared} {Q : VK} {us : List Value} {kw : List (Str × Value)} {ws : List Value} {zs : List V} (F : Pr X.prog X.w X.K X.mg X.base CX k f fd ps sp) (hG : X.A.guards = some []) (hR : Room k X.A) (hx : Passes CX X E)
    (I : Inv X pins σ H s) (hB : BindsTo s fd ⟨us, kw⟩ (ps.zip ws)) (hV : Vals zs ws) (h : sp zs H Q E) : wpAny (model X.prog X.w) X.A (call (.ref f) us kw) (EP X pins σ Q) X.xe s := by
  refine wpAny_call (codeAny_mono (F.go X.A X.stack s H ⟨us, kw⟩ ws zs Q E hG hR I.env0 hB hV h) fun r s' hq => ?_)
  match r, hq with
  | .error e, hq => exact hx pins σ H s e s' I hq
  | .ok (.ret u), hq => exact I.after hq
  | .ok .next, hq => exact False.elim hq
  | .ok .brk, hq => exact False.elim hq
  | .ok .cont, hq => exact False.elim hq
/-- f(e, ..) -/
theorem pe_callG (F : Pr X.prog X.w X.K X.mg X.base CX k f fd ps sp) (hG : X.A.guards = some []) (hR : Room k X.A) (hg : Gl X x) (hm : X.mg x = some (.ref f)) (hk : PySem.W.keepIn X.K (.ref f) = true) (hb : Binds X.K fd ps ds) (hd : Vals dvs ds) (hx : Passes CX X E)
    (ha : PA X (e :: es) t) (hdb : (x == ("__debug__" : Str)) = false := by decide) (he : starEach (e :: es) X.env = (false, eval e X.env) :: starEach es X.env := by rfl) (hpl : (backTo pos (starEach es X.env)).any (·.1) = false := by rfl) :
    PE X (.Call (.Name x p) (e :: es) [] pos) (tCall sp dvs E t) := by
  constructor
  intro pins s σ H Q I h
  refine wpAny_Call_Name_kw (ld_glob I hg hm ?_ hdb)
  refine PySem.W.callWith_K (h₀ := X.base) I.ok.mod.kin hk (thn (ha.run pos pins s σ H _ I h) fun us s2 z2 => ?_) he hpl
  obtain ⟨vs, H2, I2, r2, q2⟩ := z2
  refine ⟨I2.kIn, run_pr F hG hR hx I2 (hb s2 us I2.kIn ?_) (r2.append hd) q2⟩
  rw [← (r2.append hd).length]
  exact F.size _ _ _ _ q2
/-- f(k = v, ..): keywords alone -/
theorem pe_callGK0 (F : Pr X.prog X.w X.K X.mg X.base CX k f fd ps sp) (hG : X.A.guards = some []) (hR : Room k X.A) (hg : Gl X x) (hm : X.mg x = some (.ref f)) (hk : PySem.W.keepIn X.K (.ref f) = true) (hb : KBinds X.K fd ps ks g gV) (hx : Passes CX X E)
    (hkw : PK X kws tk) (hall : (backToKw pos (keywordEach kws X.env)).all (·.1.isSome) = true := by rfl) (hks : (backToKw pos (keywordEach kws X.env)).filterMap (·.1) = ks := by rfl)
    (hdb : (x == ("__debug__" : Str)) = false := by decide)
    (hpl : ((backTo pos (starEach [] X.env)).any (·.1) || (backToKw pos (keywordEach kws X.env)).any (·.1.isNone)) = false := by rfl) :
    PE X (.Call (.Name x p) [] kws pos) (tCallK sp gV E tNil tk) := by
  constructor
  intro pins s σ H Q I h
  refine wpAny_Call_Name_kw (ld_glob I hg hm ?_ hdb)
  refine PySem.W.callWith_KW0 (first := []) (h₀ := X.base) I.ok.mod.kin hk hall (thn (hkw.run pos pins s σ H _ I h) fun us s2 z2 => ?_) hpl
  obtain ⟨zs, H2, I2, r2, q2⟩ := z2
  refine ⟨I2.kIn, ?_⟩
  rw [hks]
  have rr : Vals (gV [] zs) (g [] us) := hb.rel .nil r2
  refine run_pr F hG hR hx I2 (hb.to s2 [] us I2.kIn ?_) rr q2
  rw [← rr.length]
  exact F.size _ _ _ _ q2
end

/-! ### repr of a list or a tuple of plain things -/
def rShow (K : PySem.W.Frag) : List V → Hp → VK → Prop := fun xs H Q => ∃ (a : Addr) (d : PyData), xs = [.ref a] ∧ Dp K H (.ref a) d ∧ d.showable = true ∧ d.hasDict = false ∧ d.depth ≤ 60 ∧ d.shown.length ≤ sizeLine ∧ Q (.str d.shown) H
theorem call_show {X : Cx} (hG : X.A.guards = some []) (hu : X.A.units + 64 < cLine) : CallR X (.builtin "repr") (rShow X.K) := by
  intro pins s σ H xs us Q I r h
  obtain ⟨a, d, rfl, hd, hs, hn, hz, hl, q⟩ := h
  have e1 := Vals.ref1 r
  subst e1
  obtain ⟨as, r1⟩ := Dp.reads I d (.ref a) (.ref a) hd rfl
  exact repr_of_reads' r1 hs (PyData.noDict_hsm hn) hG (by omega) (fun _ _ e => e) (fun h' u tk hk => ⟨.str d.shown, H, I.kept hk, ⟨_, rfl⟩, q⟩) hl

/-! ### a law's end -/
theorem law_go {P : Program} {w : World} {K : PySem.W.Frag} {mg mb : Str → Option Value} {CX : CXT} {k : Nat} {fa a : Addr} {fd : FuncData} {x : Str} {sp : Sp} {s1 : Shared} {vs : List Value} {ns : List Int}
    (KX : K.In s1.heap) (hm : s1.heap.Ns mainGlobals mg) (hb : s1.heap.Ns builtinsNs mb) (hbb : ∀ x : Str, x ≠ "__name__" → mb x = bootBuiltins x) (hlim : s1.heap.NoLimit) (hg : s1.gens = #[])
    (ha : s1.heap.get? a = some { cls := .type "list", data := .seq vs.toArray }) (hi : IntsAre vs ns) (hl : ns.length ≤ sizeLine) (hR : Room k callerA)
    (F : ∀ base : Heap, K.In base → base.Ns mainGlobals mg → Pr P w K mg base CX k fa fd [x] sp) (hbind : ∀ (s : Shared) (u : Value), BindsTo s fd ⟨[u], []⟩ [(x, u)])
    (hsp : ∀ H : Hp, Only H → SqL K H a (ns.map V.int) → sp [.ref a] H (fun v _ => v = .bl true) fun _ _ _ => False)
    (hCX : ∀ H e s', CX [] H s1 (fun _ _ _ => False) e s' → False) :
    codeAny (model P w) callerA (.call (.ref fa) ⟨[.ref a], []⟩) (fun r s' => r = .ok (.ret (.bool true)) ∧ OldK s1.heap s'.heap ∧ s'.os = s1.os ∧ AllBare s'.gens) s1 := by
  have rv := vals_ints hi
  have main : ∀ H : Hp, Only H → SqL K H a (ns.map V.int) → HOk P w H s1.heap → (∀ b, H b ≠ none → b = a) → (H a ≠ none → K.lookup a = none) →
      codeAny (model P w) callerA (.call (.ref fa) ⟨[.ref a], []⟩) (fun r s' => r = .ok (.ret (.bool true)) ∧ OldK s1.heap s'.heap ∧ s'.os = s1.os ∧ AllBare s'.gens) s1 := by
    intro H hO hS hok oa ok
    have only : ∀ {b : Addr}, H b ≠ none → b = a := fun {b} h => oa b h
    have none_of : ∀ {b : Addr}, b ≠ a → H b = none := by
      intro b hb
      rcases hO b with z | ⟨ob, xs, z⟩
      · exact z
      · exact absurd (only (by rw [z]; simp)) hb
    have stay : ∀ {b : Addr} {o : Obj}, s1.heap.get? b = some o → H b = none → (hidT s1.heap H).get? b = some o := fun e n => hidT_get e n
    have ns_of : ∀ {b : Addr} {m : Str → Option Value}, s1.heap.Ns b m → (hidT s1.heap H).Ns b m := by
      rintro b m ⟨o, es, ep, e, d, r⟩
      refine ⟨o, es, ep, stay e (none_of ?_), d, r⟩
      rintro rfl
      rw [ha] at e
      cases e
      exact absurd (show Data.seq vs.toArray 0 = Data.dict es ep from d) (by intro z; cases z)
    have inK : K.In (hidT s1.heap H) := by
      intro b o e
      refine stay (KX b o e) ?_
      rcases hO b with z | ⟨ob, xs, z⟩
      · exact z
      · have nz : H b ≠ none := by rw [z]; simp
        have e' := only nz
        subst e'
        rw [ok nz] at e
        cases e
    obtain ⟨mc, l1, l2⟩ := hlim
    have hM : Mod K mg (hidT s1.heap H) := ⟨inK, ns_of hm, ⟨mb, ns_of hb, hbb⟩, ⟨mc, ns_of l1, l2⟩⟩
    have e0 : Env0 P w K mg (hidT s1.heap H) callerA [] s1 H :=
      ⟨rfl, hM, fun b o e => of_hidT e, Nat.le_of_eq (hidT_size _ _), trivial, fun b z => by simp [frs] at z, hok, .of_eq hg⟩
    refine codeAny_mono ((F _ inK (ns_of hm)).go callerA [] s1 H ⟨[.ref a], []⟩ [.ref a] [.ref a] _ _ rfl hR e0 (hbind s1 (.ref a)) (.cons rfl .nil) (hsp H hO hS)) fun r s2 h => ?_
    match r, h with
    | .error e, h => exact (hCX H e s2 h).elim
    | .ok .next, h => exact False.elim h
    | .ok .brk, h => exact False.elim h
    | .ok .cont, h => exact False.elim h
    | .ok (.ret u), ⟨v, H', os, bare, un, hok', r', q⟩ =>
      have q' : v = .bl true := q
      subst q'
      have r2 : u = Value.bool true := r'
      subst r2
      refine ⟨rfl, OldK.of_keep fun b o e => ?_, os, bare⟩
      rcases hO b with z | ⟨ob, xs, z⟩
      · exact un.keep b o e z (by simp [frs]) (by simp)
      · have z2 := un.frzs b ob _ z
        have g1 := (hok b _ z).1
        have g2 := (hok' b _ z2).1
        rw [e] at g1
        cases g1
        exact g2
  cases hk : K.lookup a with
  | some o =>
    have e := KX a o hk
    rw [ha] at e
    cases e
    exact main (fun _ => none) (fun _ => .inl rfl) (.inr ⟨_, vs.toArray, _, hk, rfl, rfl, rfl, by rw [List.size_toArray, hi.length]; exact hl, by simpa using rv⟩) (fun b u z => by cases (show (none : Option HO) = some u from z)) (fun b z => absurd rfl z) fun z => absurd rfl z
  | none =>
    have at_ : (fun b => if b = a then some (HO.frz { cls := .type "list", data := .seq vs.toArray } (.lst (ns.map V.int))) else none) a = some (HO.frz { cls := .type "list", data := .seq vs.toArray } (.lst (ns.map V.int))) := if_pos rfl
    refine main (fun b => if b = a then some (HO.frz { cls := .type "list", data := .seq vs.toArray } (.lst (ns.map V.int))) else none) (fun b => ?_) (.inl (.inr ⟨_, at_⟩)) (fun b u z => ?_) (fun b z => ?_) fun _ => hk
    · by_cases hb : b = a
      · exact .inr ⟨_, _, if_pos hb⟩
      · exact .inl (if_neg hb)
    · by_cases hb : b = a
      · subst hb
        cases at_.symm.trans z
        exact ⟨ha, by rw [List.length_map]; exact hl, vs, _, rv, ha⟩
      · cases (if_neg hb).symm.trans z
    · by_cases hb : b = a
      · exact hb
      · exact absurd (if_neg hb) z

theorem walk_go {l : PySem.W.OpenLaw} {n k : Nat} {q : Program} {loose : List Str} {XP : (Str → Option Value) → Heap → Prop} {YP : World → Heap → Prop} {d : DefRec} {K : Params → PySem.W.Frag} {x : Str} {sp : PySem.W.Frag → Sp}
    (hn : l.most = some n) (hn2 : n ≤ sizeLine) (hdf : d.params.defaults = []) (hR : Room k callerA)
    (hY : ∀ (w : World) (h : Heap), YP w h → (K w.params).In h)
    (F : ∀ (w : World) (mg : Str → Option Value) (fa : Addr) (h : Heap), (K w.params).In h → h.Ns mainGlobals mg → mg d.name = some (.ref fa) →
      ∃ fd : FuncData, (∀ (s : Shared) (u : Value), BindsTo s fd ⟨[u], []⟩ [(x, u)]) ∧ ∀ base : Heap, (K w.params).In base → base.Ns mainGlobals mg → Pr l.prog w (K w.params) mg base CX0 k fa fd [x] (sp (K w.params)))
    (hsp : ∀ (K : PySem.W.Frag) (H : Hp) (a : Addr) (ns : List Int), ns.length ≤ n → SqL K H a (ns.map V.int) → sp K [.ref a] H (fun v _ => v = .bl true) fun _ _ _ => False) :
    PySem.W.WalkO q loose XP YP l.row.toRowW d [] (fun f vs => PySem.call f vs) := by
  refine Att.attach_call hn hdf fun w s0 s1 mg mb fa o pm cd doc a vs ns G Y ho hd hcd hmg hobj hints hlen hg => ?_
  obtain ⟨fd, hb, hF⟩ := F w mg fa _ (hY w _ Y) G.T.g hmg
  exact law_go (hY w _ Y) G.T.g G.T.b G.T.builtins G.T.nolimit hg hobj hints (Nat.le_trans hlen hn2) hR hF hb (fun H _ hS => hsp _ H a ns hlen hS) fun _ _ _ z => z
end Gd
/-! names: k02 _law_number _law_deal _law_pick -/
set_option Elab.async false
set_option linter.all false
set_option maxRecDepth 100000
set_option maxHeartbeats 4000000
namespace Kx
open PySem PySem.Spec PyProof.Rows L2 Gd
def topS (i : Nat) : Stmt := PySem.Challenge.pw_fivetrees_k13_great_trees.main.body.getD i (.Pass ⟨0, 0, 0, 0⟩)
abbrev sNum : Stmt := topS 55
abbrev sDeal : Stmt := topS 56
abbrev sPick : Stmt := topS 57
theorem scNum : FnScope ["_law_cells", "_law_k", "_law_mixed", "_law_one", "_law_more"] ["_law_cells", "_law_k"] (defScope sNum) := ⟨rfl, rfl, rfl, by decide +kernel, rfl, by decide +kernel, by decide +kernel⟩
theorem scDeal : FnScope ["_law_number_here"] ["_law_number_here"] (defScope sDeal) := ⟨rfl, rfl, rfl, by decide +kernel, rfl, by decide +kernel, by decide +kernel⟩
theorem scPick : FnScope ["_law_deal_here", "_law_many", "_law_digit", "_law_seed", "_law_turn"] ["_law_deal_here", "_law_many"] (defScope sPick) := ⟨rfl, rfl, rfl, by decide +kernel, rfl, by decide +kernel, by decide +kernel⟩
/-- three ints that deal on -/
def DealAt (H : Hp) (p : Addr) : Prop := ∃ a b c : Int, H p = some (.lst [.int a, .int b, .int c]) ∧ 0 ≤ b ∧ b < 2147483423
/-- all but p stands -/
def Sb (p : Addr) (H H' : Hp) : Prop := ∀ b o, b ≠ p → H b = some o → H' b = some o
theorem Sb.refl {p : Addr} {H : Hp} : Sb p H H := fun _ _ _ e => e
theorem Sb.trans {p : Addr} {H H1 H2 : Hp} (h : Sb p H H1) (h2 : Sb p H1 H2) : Sb p H H2 := fun b o n e => h2 b o n (h b o n e)
theorem Sb.of {p : Addr} {H H1 : Hp} (h : Same H H1) : Sb p H H1 := fun b o _ e => h b o e
theorem Sb.set {p : Addr} {H : Hp} {o : HO} : Sb p H (upd H p o) := fun b x n e => by rw [upd_ne n]; exact e
theorem same_new {H : Hp} {p : Addr} {o : HO} (h : H p = none) : Same H (upd H p o) := fun b x e => by rw [upd_ne (ne_of_none e h)]; exact e
theorem Sb.new {p q : Addr} {H : Hp} {o : HO} (h : H q = none) : Sb p H (upd H q o) := .of (same_new h)
theorem DealAt.keep {H H' : Hp} {p : Addr} (D : DealAt H p) (h : Same H H') : DealAt H' p := by
  obtain ⟨a, b, c, e, l⟩ := D
  exact ⟨a, b, c, h _ _ e, l⟩
/-- a made heap: all that stood but p stands, and a place that was free is free as long as nothing was made there -/
theorem Sb.free {p x : Addr} {H H' : Hp} (h : Sb p H H') (n : x ≠ p) (f : H' x = none) : H x = none := by
  cases e : H x with
  | none => rfl
  | some o =>
    have := h x o n e
    rw [f] at this
    cases this
section
variable {P : Program} {w : World} {K : PySem.W.Frag} {mg : Str → Option Value} {base : Heap}
def spNum (K : PySem.W.Frag) : Sp := fun vs H Q _ => ∃ (a : Addr) (ns : List Int) (k : Nat), vs = [.ref a, .int k] ∧ SqL K H a (ns.map V.int) ∧ ns.length ≤ 63 ∧ ∀ (z : Int) (H' : Hp), Same H H' → Q (.int z) H'
def spDeal : Sp := fun vs H Q _ => ∃ z : Int, vs = [.int z] ∧ ∀ (p : Addr) (H' : Hp), Same H H' → H p = none → DealAt H' p → Q (.ref p) H'
def spPick : Sp := fun vs H Q _ => ∃ (p : Addr) (m : Int), vs = [.ref p, .int m] ∧ DealAt H p ∧ 0 < m ∧ m < 1000000 ∧ ∀ (d : Int) (H' : Hp), 0 ≤ d → d < m → DealAt H' p → Sb p H H' → Q (.int d) H'
theorem ok_num {f : Addr} {fd : FuncData} (F : Fun K "_law_number" "_law_number" sNum f fd) (ml : mg "len" = none) (mi : mg "int" = none) : FnOk P w K mg base CX0 1 f fd ["_law_cells", "_law_k"] (spNum K) := by
  refine F.ok scNum (fun vs H Q E h => ?_) (fun cv A ou s H vs Q E hr h => ?_)
  · obtain ⟨a, ns, k, rfl, _⟩ := h
    rfl
  obtain ⟨a, ns, k, rfl, hS, hl, q⟩ := h
  refine ⟨_, pss_cons (ps_if (pt_cmpR op_lt (pv 1) (pe_callB call_len_seq (by rfl) ml PySem.boot_len (pa_cons (pv 0) pa_nil)) (nomark _))
      (pss_one (ps_ret (pe_callTy call_int1 (by rfl) mi boot_int (pa_cons (pe_ix ix_list (pv 0) (pv 1) (fun _ _ => rfl)) pa_nil)))) pss_nil)
    (pss_cons (ps_set (i := 2) scNum.nd rfl (.inl rfl) (pe_op op_mul pe_int (pe_op op_add (pv 1) pe_int)))
    (pss_cons (ps_for PassesOwn.never rfl (pi_list (pe_slice sl_list (pv 0) po_none (po_some pe_int))) (pg_name (i := 3) scNum.nd rfl (.inl rfl))
      (pss_cons (ps_set (i := 4) scNum.nd rfl (.inl rfl) (pe_op op_mod (pe_callTy call_int1 (by rfl) mi boot_int (pa_cons (pv 3) pa_nil)) pe_int))
      (pss_one (ps_set (i := 2) scNum.nd rfl (.inl rfl) (pe_op op_mod (pe_callTy call_int1 (by rfl) mi boot_int (pa_cons (pe_op op_add (pe_op op_add (pe_op op_mul (pv 2) pe_int) (pv 4)) (pv 1)) pa_nil)) pe_int)))))
    (pss_one (ps_ret (pv 2))))), ?_⟩
  refine ⟨.int k, rfl, .ref a, rfl, a, ns.map V.int, rfl, .inl hS, _, _, rfl, rfl, _, rfl, ite2 (fun e => ?_) (fun e => ?_)⟩
  · have hk : k < ns.length := by
      have := of_decide_eq_true e
      rw [List.length_map] at this
      omega
    refine ⟨.ref a, rfl, .int k, rfl, a, _, _, _, rfl, rfl, hS, atI_nat (j := k) (v := .int (ns[k])) (by rw [List.getElem?_map, List.getElem?_eq_getElem hk]; rfl), .inl ⟨_, rfl, ?_⟩⟩
    exact q _ H fun _ _ e => e
  refine ⟨.int k, rfl, _, _, rfl, rfl, _, _, rfl, rfl, .inl ⟨by decide, by decide⟩, ?_⟩
  refine ⟨.ref a, rfl, 6, rfl, a, _, rfl, hS, fun c nc => ?_⟩
  have s1 : Same H (upd H c (.lst (cutV (ns.map V.int) none (some 6)))) := same_new nc
  have hcut : ∃ ms : List Int, cutV (ns.map V.int) none (some 6) = ms.map V.int := by
    refine ⟨(ns.drop (HT.sIx ns.length 0 none)).take (HT.sIx ns.length ns.length (some 6) - HT.sIx ns.length 0 none), ?_⟩
    unfold cutV
    rw [List.length_map, List.map_take, List.map_drop]
  obtain ⟨ms, ems⟩ := hcut
  rw [ems] at s1 ⊢
  refine ⟨c, rfl, ⟨_, SqL.of upd_same⟩, for_list (K := K) (a := c) (xs := ms.map V.int) (fun i σ H2 => ∃ (z : Int) (o1 o2 : Option V), σ = [some (.ref a), some (.int k), some (.int z), o1, o2] ∧ H2 = upd H c (.lst (ms.map V.int)))
    ⟨_, none, none, rfl, rfl⟩ (fun i σ H2 _ ⟨_, _, _, _, e⟩ => by rw [e]; exact SqL.of upd_same) ?_ ?_⟩
  · rintro i y σ H2 hi ⟨z, o1, o2, rfl, rfl⟩
    obtain ⟨m, rfl⟩ : ∃ m, y = V.int m := by
      rw [List.getElem?_map] at hi
      cases e : ms[i]? with
      | none => rw [e] at hi; cases hi
      | some m => rw [e] at hi; exact ⟨m, (Option.some.inj hi).symm⟩
    refine ⟨.int m, rfl, .inl ⟨_, rfl, _, _, rfl, rfl, (by show (0 : Int) < 999983; decide), ?_⟩⟩
    refine ⟨_, rfl, _, _, rfl, rfl, .inr ⟨by decide, by decide⟩, _, rfl, _, _, rfl, rfl, _, rfl, _, _, rfl, rfl, .inl ⟨_, rfl, _, _, rfl, rfl, (by show (0 : Int) < 2147483423; decide), ?_⟩⟩
    exact ⟨_, _, _, rfl, rfl⟩
  · rintro σ H2 ⟨z, o1, o2, rfl, rfl⟩
    exact ⟨_, rfl, q z _ s1⟩
end
end Kx
set_option Elab.async false
set_option linter.all false
set_option maxRecDepth 100000
set_option maxHeartbeats 4000000
namespace Kx
open PySem PySem.Spec PyProof.Rows L2 Gd
section
variable {P : Program} {w : World} {K : PySem.W.Frag} {mg : Str → Option Value} {base : Heap}
theorem ok_deal {f : Addr} {fd : FuncData} (F : Fun K "_law_deal" "_law_deal" sDeal f fd) (ma : mg "abs" = none) (mi : mg "int" = none) : FnOk P w K mg base CX0 1 f fd ["_law_number_here"] spDeal := by
  refine F.ok scDeal (fun vs H Q E h => ?_) (fun cv A ou s H vs Q E hr h => ?_)
  · obtain ⟨z, rfl, _⟩ := h
    rfl
  obtain ⟨z, rfl, q⟩ := h
  refine ⟨_, pss_one (ps_ret (pe_lst (pa_cons (pe_ifExp (PW.pt (pw_or (pt_cmpR op_lt (pv 0) pe_int (nomark _)) (pw_or1 (pt_cmpR op_ge (pv 0) (pe_op op_pow pe_int pe_int) (nomark _)))))
      (pe_callB call_abs (by rfl) ma boot_abs (pa_cons (pv 0) pa_nil)) pe_int)
    (pa_cons (pe_op op_mod (pe_callTy call_int1 (by rfl) mi boot_int (pa_cons (pv 0) pa_nil)) pe_int) (pa_cons pe_int pa_nil))))), ?_⟩
  have fin : ∀ x : Int, (fun (x : V) (H1 : Hp) => tCons (tOp (rI (fun _ j => 0 < j) fun i j => .int (i % j)) (tCB (fun xs H Q => (∃ i, xs = [.int i] ∧ Q (.int i) H) ∨ ∃ k, xs = [.bl k] ∧ Q (.int (if k then 1 else 0)) H) (tCons (tVar 0) tNil)) (tC (.int 2147483423))) (tCons (tC (.int 0)) tNil) [some (.int z)] H1 fun xs H2 => (x :: xs).length ≤ sizeLine ∧ ∀ p, H2 p = none → Q (.ref p) (upd H2 p (.lst (x :: xs)))) (.int x) H := by
    intro x
    refine ⟨.int z, rfl, .inl ⟨_, rfl, _, _, rfl, rfl, (by show (0 : Int) < 2147483423; decide), (by show 3 ≤ sizeLine; decide), fun p hp => ?_⟩⟩
    exact q p _ (same_new hp) hp ⟨x, z % 2147483423, 0, upd_same, Int.emod_nonneg _ (by decide), Int.emod_lt_of_pos _ (by decide)⟩
  refine ⟨.int z, rfl, _, _, rfl, rfl, _, rfl, ite2 (fun e => iteT ?_) (fun e => ?_)⟩
  · exact ⟨.int z, rfl, _, rfl, fin _⟩
  · refine ⟨.int z, rfl, _, _, rfl, rfl, ⟨by decide, by decide, by decide⟩, _, _, rfl, rfl, _, rfl, ite2 (fun e => ?_) (fun e => ?_)⟩
    · exact ⟨.int z, rfl, _, rfl, fin _⟩
    · exact fin 0
theorem ok_pick {f : Addr} {fd : FuncData} (F : Fun K "_law_pick" "_law_pick" sPick f fd) (mi : mg "int" = none) : FnOk P w K mg base CX0 1 f fd ["_law_deal_here", "_law_many"] spPick := by
  refine F.ok scPick (fun vs H Q E h => ?_) (fun cv A ou s H vs Q E hr h => ?_)
  · obtain ⟨p, m, rfl, _⟩ := h
    rfl
  obtain ⟨p, m, rfl, ⟨a, b, c, hp, hb0, hb1⟩, m0, m1, q⟩ := h
  refine ⟨_, pss_cons (ps_asg (pe_op op_add (pe_ix ix_list (pv 0) pe_int (fun _ _ => rfl)) pe_int) (pg_sub (pv 0) pe_int set_list))
    (pss_cons (ps_if (pt_cmpR op_gt (pe_ix ix_list (pv 0) pe_int (fun _ _ => rfl)) pe_int (nomark _))
      (pss_cons (ps_set (i := 2) scPick.nd rfl (.inl rfl) (pe_op op_mod (pe_callTy call_int1 (by rfl) mi boot_int (pa_cons (pe_ix ix_list (pv 0) pe_int (fun _ _ => rfl)) pa_nil)) (pv 1)))
      (pss_cons (ps_asg (pe_op op_fdiv (pe_ix ix_list (pv 0) pe_int (fun _ _ => rfl)) (pv 1)) (pg_sub (pv 0) pe_int set_list))
      (pss_one (ps_ret (pv 2))))) pss_nil)
    (pss_cons (ps_par (i := 3) (j := 4) (by rfl) scPick.nd rfl rfl (by decide) rfl rfl (pa_cons (pe_callTy call_int1 (by rfl) mi boot_int (pa_cons (pe_ix ix_list (pv 0) pe_int (fun _ _ => rfl)) pa_nil)) (pa_cons (pe_callTy call_int1 (by rfl) mi boot_int (pa_cons (pe_ix ix_list (pv 0) pe_int (fun _ _ => rfl)) pa_nil)) pa_nil)) (by rfl))
    (pss_cons (ps_set (i := 3) scPick.nd rfl (.inl rfl) (pe_op op_mod (pe_callTy call_int1 (by rfl) mi boot_int (pa_cons (pe_op op_add (pe_op op_add (pe_op op_mul (pv 3) (pe_op op_add (pe_op op_add (pv 3) pe_int) (pe_op op_mul pe_int (pv 4)))) (pe_op op_mul pe_int (pv 4))) pe_int) pa_nil)) pe_int))
    (pss_cons (ps_asg (pv 3) (pg_sub (pv 0) pe_int set_list))
    (pss_one (ps_ret (pe_op op_mod (pe_callTy call_int1 (by rfl) mi boot_int (pa_cons (pe_op op_fdiv (pv 3) pe_int) pa_nil)) (pv 1)))))))), ?_⟩
  refine ⟨.ref p, rfl, p, _, _, .int c, rfl, rfl, SqL.of hp, rfl, _, _, rfl, rfl, .ref p, rfl, p, _, _, 2, rfl, rfl, hp, rfl, ?_⟩
  have h1 : upd H p (.lst [V.int a, .int b, .int (c + 1)]) p = some (.lst [V.int a, .int b, .int (c + 1)]) := upd_same
  have b1 : Sb p H (upd H p (.lst [V.int a, .int b, .int (c + 1)])) := .set
  refine ⟨.ref p, rfl, p, _, _, .int a, rfl, rfl, SqL.of h1, rfl, _, _, rfl, rfl, _, rfl, ite2 (fun e => ?_) (fun e => ?_)⟩
  · refine ⟨.ref p, rfl, p, _, _, .int a, rfl, rfl, SqL.of h1, rfl, .inl ⟨_, rfl, .int m, rfl, _, _, rfl, rfl, m0, ?_⟩⟩
    refine ⟨.ref p, rfl, p, _, _, .int a, rfl, rfl, SqL.of h1, rfl, .int m, rfl, _, _, rfl, rfl, ⟨m0, by omega⟩, .ref p, rfl, p, _, _, 0, rfl, rfl, h1, rfl, ?_⟩
    refine ⟨.int (a % m), rfl, ?_⟩
    exact q _ _ (Int.emod_nonneg _ (by omega)) (Int.emod_lt_of_pos _ m0) ⟨a / m, b, c + 1, upd_same, hb0, hb1⟩ (b1.trans .set)
  · refine ⟨.ref p, rfl, p, _, _, .int b, rfl, rfl, SqL.of h1, rfl, .inl ⟨_, rfl, .ref p, rfl, p, _, _, .int (c + 1), rfl, rfl, SqL.of h1, rfl, .inl ⟨_, rfl, _, _, rfl, ?_⟩⟩⟩
    refine ⟨.int b, rfl, .int b, rfl, _, _, rfl, rfl, .int (c + 1), rfl, _, _, rfl, rfl, .inl ⟨by decide, by decide⟩, _, _, rfl, rfl, _, _, rfl, rfl, .inl ⟨by omega, by omega⟩, ?_⟩
    refine ⟨.int (c + 1), rfl, _, _, rfl, rfl, .inl ⟨by decide, by decide⟩, _, _, rfl, rfl, _, _, rfl, rfl, .inl ⟨_, rfl, _, _, rfl, rfl, (by show (0 : Int) < 2147483423; decide), ?_⟩⟩
    refine ⟨_, rfl, .ref p, rfl, p, _, _, 1, rfl, rfl, h1, rfl, ?_⟩
    refine ⟨_, rfl, _, _, rfl, rfl, ⟨by decide, by decide⟩, .inl ⟨_, rfl, .int m, rfl, _, _, rfl, rfl, m0, ?_⟩⟩
    exact q _ _ (Int.emod_nonneg _ (by omega)) (Int.emod_lt_of_pos _ m0) ⟨a, _, c + 1, upd_same, Int.emod_nonneg _ (by decide), Int.emod_lt_of_pos _ (by decide)⟩ (b1.trans .set)
end
end Kx
set_option Elab.async false
set_option linter.all false
set_option maxRecDepth 100000
set_option maxHeartbeats 4000000
namespace Kx
open PySem PySem.Spec PyProof.Rows L2 Gd
abbrev sIs : Stmt := topS 26
theorem scIs : FnScope ["value", "sign"] ["value"] (defScope sIs) := ⟨rfl, rfl, rfl, by decide +kernel, rfl, by decide +kernel, by decide +kernel⟩
def lets : Str := Str.ofString "abcdefghijklmnopqrstuvwxyz"
def signs : Str := Str.ofString "abcdefghijklmnopqrstuvwxyz0123456789"
def digs : Str := Str.ofString "0123456789"
def inL (c : Nat) : Bool := decide (c ∈ lets.cps.toList)
def inN (c : Nat) : Bool := decide (c ∈ signs.cps.toList)
def inD (c : Nat) : Bool := decide (c ∈ digs.cps.toList)
theorem signs_eq : signs.cps.toList = lets.cps.toList ++ digs.cps.toList := by decide +kernel
theorem inN_eq (c : Nat) : inN c = (inL c || inD c) := by
  unfold inN inL inD
  rw [signs_eq]
  by_cases h1 : c ∈ lets.cps.toList <;> by_cases h2 : c ∈ digs.cps.toList <;> simp [h1, h2]
def nmL : List Nat → Bool
  | [] => false
  | c :: r => decide ((c :: r).length ≤ 8) && inL c && (c :: r).all inN
def nmS (z : Str) : Bool := nmL z.cps.toList
theorem len_list (z : Str) : z.cps.toList.length = z.length := by simp [Str.length]
theorem nmL_cons (c : Nat) (r : List Nat) : nmL (c :: r) = (decide ((c :: r).length ≤ 8) && inL c && (c :: r).all inN) := rfl
theorem nm_long {z : Str} (h : ¬ z.length ≤ 8) : nmS z = false := by
  have ez := len_list z
  unfold nmS
  cases ec : z.cps.toList with
  | nil => rfl
  | cons c r => rw [nmL_cons, ← ec, ez, decide_eq_false h]; rfl
theorem nm_short {z : Str} {c : Nat} {r : List Nat} (ec : z.cps.toList = c :: r) (h : z.length ≤ 8) : nmS z = (inL c && z.cps.toList.all inN) := by
  have ez := len_list z
  unfold nmS
  rw [ec, nmL_cons, ← ec, ez, decide_eq_true h]; rfl
theorem nm_empty {z : Str} (h : z.length = 0) : nmS z = false := by
  have ez := len_list z
  unfold nmS
  cases ec : z.cps.toList with
  | nil => rfl
  | cons c r => rw [ec] at ez; simp at ez; omega
theorem ne_cons {z : Str} (h : 1 ≤ z.length) : ∃ c r, z.cps.toList = c :: r := by
  have ez := len_list z
  cases ec : z.cps.toList with
  | nil => rw [ec] at ez; simp at ez; omega
  | cons c r => exact ⟨c, r, rfl⟩
/-- a comprehension over a text's signs -/
theorem lc_str {x : Str} {g : TG} {tt : TT} {te : TE} {vs : List Nat} {σ : L2.St} {H1 : Hp} {D : Addr} {Qd : Hp → Prop} (Pv : Nat → Hp → Prop) (h0 : Pv 0 (upd H1 D (.lst [])))
    (hs : ∀ i c H, x.cps.toList[i]? = some c → Pv i H → g (.str ⟨#[c]⟩) (wipe σ vs) H fun τ H2 => wipe τ vs = wipe σ vs ∧ tt τ H2 fun b H3 =>
      if b = true then te τ H3 fun y H4 => ∃ acc, H4 D = some (.lst acc) ∧ acc.length < sizeLine ∧ Pv (i + 1) (upd H4 D (.lst (acc ++ [y]))) else Pv (i + 1) H3) (hd : ∀ H, Pv x.cps.toList.length H → Qd H) :
    ∃ W : Nat → Nat → Hp → Prop, (∃ m, W 0 m (upd H1 D (.lst []))) ∧ ∀ i m H, W i m H →
      ((Its x).stop i H ∧ Qd H) ∨ ((Its x).go i H ∧ ∃ Nx : Hp → Prop, (∀ H', Nx H' → ∃ m', m' < m ∧ W (i + 1) m' H') ∧ ∀ v H', (Its x).yld i H v H' → g v (wipe σ vs) H' fun τ H2 => wipe τ vs = wipe σ vs ∧ tt τ H2 fun b H3 =>
        if b = true then te τ H3 fun y H4 => ∃ acc, H4 D = some (.lst acc) ∧ acc.length < sizeLine ∧ Nx (upd H4 D (.lst (acc ++ [y]))) else Nx H3) := by
  have el : x.cps.toList.length = x.cps.size := Array.length_toList
  refine ⟨fun i m H => i + m = x.cps.toList.length ∧ Pv i H, ⟨_, Nat.zero_add _, h0⟩, fun i m H ⟨e, p⟩ => ?_⟩
  cases m with
  | zero =>
    have e2 : i = x.cps.toList.length := e
    exact .inl ⟨(by show x.cps.size ≤ i; omega), hd H (e2 ▸ p)⟩
  | succ m =>
    refine .inr ⟨(by show i < x.cps.size; omega), Pv (i + 1), fun H' p' => ⟨m, Nat.lt_succ_self m, by omega, p'⟩, ?_⟩
    rintro v H' ⟨rfl, c, hc, rfl⟩
    exact hs i c _ (by rw [Array.getElem?_toList]; exact hc) p
theorem yes_of {σ : L2.St} {H : Hp} {Q : Bool → Hp → Prop} (h : Q true H) : tYes σ H Q := h
theorem yes_if {σ : L2.St} {H : Hp} {A B : Hp → Prop} (h : A H) : tYes σ H (fun b H3 => if b = true then A H3 else B H3) := yes_of (iteT (A := A H) (B := B H) h)
/-- the same: one name as the target, no test -/
theorem lc_strY {x : Str} {j : Nat} {te : TE} {vs : List Nat} {σ : L2.St} {H1 : Hp} {D : Addr} {Qd : Hp → Prop} (Pv : Nat → Hp → Prop) (hw : ∀ v, wipe ((wipe σ vs).set j (some v)) vs = wipe σ vs) (h0 : Pv 0 (upd H1 D (.lst [])))
    (hs : ∀ i c H, x.cps.toList[i]? = some c → Pv i H → te ((wipe σ vs).set j (some (.str ⟨#[c]⟩))) H fun y H4 => ∃ acc, H4 D = some (.lst acc) ∧ acc.length < sizeLine ∧ Pv (i + 1) (upd H4 D (.lst (acc ++ [y]))))
    (hd : ∀ H, Pv x.cps.toList.length H → Qd H) : ∃ W : Nat → Nat → Hp → Prop, (∃ m, W 0 m (upd H1 D (.lst []))) ∧ ∀ i m H, W i m H →
      ((Its x).stop i H ∧ Qd H) ∨ ((Its x).go i H ∧ ∃ Nx : Hp → Prop, (∀ H', Nx H' → ∃ m', m' < m ∧ W (i + 1) m' H') ∧ ∀ v H', (Its x).yld i H v H' → gName j v (wipe σ vs) H' fun τ H2 => wipe τ vs = wipe σ vs ∧ tYes τ H2 fun b H3 =>
        if b = true then te τ H3 fun y H4 => ∃ acc, H4 D = some (.lst acc) ∧ acc.length < sizeLine ∧ Nx (upd H4 D (.lst (acc ++ [y]))) else Nx H3) :=
  lc_str Pv h0 (fun i c H e p => ⟨hw _, yes_if (hs i c H e p)⟩) hd
section
variable {P : Program} {w : World} {K : PySem.W.Frag} {mg : Str → Option Value} {base : Heap}
/-- what the top holds that is_name reads -/
structure TI0 (mg : Str → Option Value) : Prop where
  isi : mg "isinstance" = none
  str : mg "str" = none
  len : mg "len" = none
  all : mg "all" = none
  LET : ∃ t, mg "LETTERS" = some (.str lets t)
  SIG : ∃ t, mg "NAME_SIGNS" = some (.str signs t)
  LON : ∃ t, mg "LONGEST_NAME" = some (.int 8 t)
def spIs (K : PySem.W.Frag) : Sp := fun vs H Q _ => ∃ v, vs = [v] ∧
  ((∃ z, v = .str z ∧ z.length ≤ 1000 ∧ ∀ H', Same H H' → Q (.bl (nmS z)) H') ∨ (∃ t, TyX K H v t ∧ PySem.W.kitOne K t (.type "str") = some false ∧ Q (.bl false) H))
theorem ok_is {f : Addr} {fd : FuncData} (F : Fun K "is_name" "is_name" sIs f fd) (T : TI0 mg) : FnOk P w K mg base CX0 1 f fd ["value"] (spIs K) := by
  refine F.ok scIs (fun vs H Q E h => ?_) (fun cv A ou s H vs Q E hr h => ?_)
  · obtain ⟨v, rfl, _⟩ := h
    rfl
  obtain ⟨v, rfl, h⟩ := h
  obtain ⟨t1, mL⟩ := T.LET
  obtain ⟨t2, mS⟩ := T.SIG
  obtain ⟨t3, mN⟩ := T.LON
  refine ⟨_, pss_cons (ps_if (PW.pt (pw_or (pt_not (pt_val (pe_callB call_isi (by rfl) T.isi boot_isinstance (pa_cons (pv 0) (pa_cons (pe_bltn (v := .ty "str") (by rfl) T.str boot_str rfl) pa_nil)))))
        (pw_or1 (pt_not (pt_chain op_le op_le pe_int (pe_callB call_len_str (by rfl) T.len PySem.boot_len (pa_cons (pv 0) pa_nil)) (pe_glob (v := .int 8) (by rfl) mN ⟨_, rfl⟩))))))
      (pss_one (ps_ret pe_bl)) pss_nil)
    (pss_one (ps_ret (pe_and (pe_cmpR op_in_sign (pe_ix ix_str (pv 0) pe_int (fun _ _ => rfl)) (pe_glob (v := .str lets) (by rfl) mL ⟨_, rfl⟩) rfl)
      (pe_one (pe_callB (cr_all rfl) (by rfl) T.all boot_all (pa_cons (pe_lc (own := [("sign", 1)]) (g := gName 1) (tt := tYes) rfl scIs.nd (pi_str (pv 0)) (blkOk_by (own := [("sign", 1)]) (N := ["value", "sign"]) (sc := defScope sIs) (by decide +kernel))
        (fun _ _ _ _ _ => pg_name (i := 1) scIs.nd rfl (Or.inl rfl)) (fun _ _ _ _ _ => pts_nil) (fun _ _ _ _ _ => pe_cmpR op_in_sign (pv 1) (pe_glob (v := .str signs) (by rfl) mS ⟨_, rfl⟩) rfl)) pa_nil)))))), ?_⟩
  rcases h with ⟨z, rfl, hz, q⟩ | ⟨t, ty, ek, q⟩
  · refine ⟨.str z, rfl, .str z, .ty "str", _, _, true, rfl, .ty "str", .base (.str z), kit_ty (by decide +kernel), _, rfl, iteF ?_⟩
    have ez := len_list z
    refine ⟨.str z, rfl, z, rfl, small1000 hz |> Nat.le_of_lt, ?_⟩
    refine ⟨_, _, rfl, rfl, _, rfl, ite2 (fun e1 => ?_) (fun e1 => ?_)⟩
    · have h1 : 1 ≤ z.length := by have := of_decide_eq_true e1; omega
      refine ⟨_, _, rfl, rfl, _, rfl, ite2 (fun e2 => ?_) (fun e2 => ?_)⟩
      · -- longer than eight
        have h2 : ¬ z.length ≤ 8 := fun h => by
          have e3 : decide ((z.length : Int) ≤ 8) = true := decide_eq_true (by omega)
          rw [e3] at e2
          cases e2
        have eq : nmS z = false := nm_long h2
        have q2 := q H fun _ _ e => e
        rw [eq] at q2
        exact q2
      · have h2 : z.length ≤ 8 := by
          by_cases h : z.length ≤ 8
          · exact h
          · refine absurd ?_ e2
            rw [decide_eq_false (show ¬ (z.length : Int) ≤ 8 by omega)]
            rfl
        obtain ⟨c, r, ec⟩ := ne_cons h1
        have en : nmS z = (inL c && z.cps.toList.all inN) := nm_short ec h2
        refine ⟨.str z, rfl, z, 0, c, rfl, rfl, Nat.le_of_lt (small1000 hz), atI_nat (j := 0) (by rw [ec]; rfl), c, lets, rfl, rfl, _, rfl, ite2 (fun e3 => ?_) (fun e3 => ?_)⟩
        · refine ⟨.str z, rfl, z, rfl, fun D nD => lc_strY (x := z) (fun i H2 => Same H H2 ∧ H2 D = some (.lst ((z.cps.toList.take i).map fun c => V.bl (inN c)))) (fun _ => rfl) ⟨same_new nD, upd_same⟩ ?_ ?_⟩
          · rintro i y H2 hi ⟨s2, eD⟩
            refine ⟨_, rfl, y, signs, rfl, rfl, _, eD, ?_, ?_, ?_⟩
            · rw [List.length_map, List.length_take]
              exact small1000 (by omega)
            · intro b o e
              rw [upd_ne (ne_of_none e nD)]
              exact s2 b o e
            · rw [upd_same, List.take_add_one, hi]
              simp [inN]
          · rintro H2 ⟨s2, eD⟩
            rw [List.take_length] at eD
            refine ⟨D, z.cps.toList.map inN, rfl, SqL.of (by rw [eD, List.map_map]; rfl), ?_⟩
            have q2 := q H2 s2
            rw [en] at q2
            have : (inL c && z.cps.toList.all inN) = (z.cps.toList.map inN).all id := by
              rw [show inL c = true from e3, Bool.true_and, List.all_map]
              rfl
            rw [this] at q2
            exact q2
        · have q2 := q H fun _ _ e => e
          rw [en, show inL c = false from Bool.eq_false_iff.mpr e3, Bool.false_and] at q2
          exact q2
    · have h1 : z.length = 0 := by
        by_cases h : z.length = 0
        · exact h
        · exact absurd (decide_eq_true (by omega)) e1
      have eq : nmS z = false := nm_empty h1
      have q2 := q H fun _ _ e => e
      rw [eq] at q2
      exact ⟨_, rfl, iteT q2⟩
  · refine ⟨v, rfl, v, .ty "str", t, .type "str", false, rfl, .ty "str", ty, ek, _, rfl, iteT (iteT q)⟩
end
end Kx
/-! names: k02 _law_word -/
set_option Elab.async false
set_option linter.all false
set_option maxRecDepth 100000
set_option maxHeartbeats 4000000
namespace Kx
open PySem PySem.Spec PyProof.Rows L2 Gd
abbrev sWord : Stmt := topS 58
theorem scWord : FnScope ["_law_deal_here", "_law_taken", "_law_letters", "_law_way", "_law_word_here", "_law_k", "_law_tail"] ["_law_deal_here", "_law_taken"] (defScope sWord) := ⟨rfl, rfl, rfl, by decide +kernel, rfl, by decide +kernel, by decide +kernel⟩
/-! ### names -/
theorem str_app (x y : Str) : (x ++ y).cps.toList = x.cps.toList ++ y.cps.toList := by rw [PySem.Str.cps_append, Array.toList_append]
theorem nm_of {z : Str} {c : Nat} {r : List Nat} (e : z.cps.toList = c :: r) (hc : inL c = true) (hr : ∀ d ∈ r, inN d = true) (hl : r.length ≤ 7) : nmS z = true := by
  unfold nmS
  rw [e, nmL_cons, hc, List.all_cons, inN_eq c, hc, Bool.true_or, List.all_eq_true.mpr hr, decide_eq_true (by rw [List.length_cons]; omega)]
  rfl
theorem nm_len {z : Str} (h : nmS z = true) : 1 ≤ z.length ∧ z.length ≤ 8 := by
  refine ⟨?_, ?_⟩
  · by_cases h0 : z.length = 0
    · rw [nm_empty h0] at h
      cases h
    · omega
  · by_cases h8 : z.length ≤ 8
    · exact h8
    · rw [nm_long h8] at h
      cases h
def wk (k : Nat) : Str := Str.ofString "w" ++ ((toString (k : Int) : String) : Str)
theorem wk_nm : ∀ k : _root_.Fin 50, nmS (wk k.1) = true := by decide +kernel
theorem wk_len : ∀ k : _root_.Fin 50, (wk k.1).length ≤ 3 ∧ ((toString ((k.1 : Nat) : Int) : String) : Str).length ≤ 3 := by decide +kernel
theorem wk_nd : ((List.range 50).map wk).Nodup := by decide +kernel
theorem nd_le : ∀ (l ts : List Str), l.Nodup → (∀ x ∈ l, x ∈ ts) → l.length ≤ ts.length
  | [], _, _, _ => Nat.zero_le _
  | x :: r, ts, nd, h => by
    have hx : x ∈ ts := h x (List.mem_cons_self ..)
    have nd2 := List.nodup_cons.mp nd
    have := nd_le r (ts.erase x) nd2.2 fun y hy => (List.mem_erase_of_ne (fun e => nd2.1 (by rw [← e]; exact hy))).mpr (h y (List.mem_cons_of_mem _ hy))
    rw [List.length_erase_of_mem hx] at this
    have p : 0 < ts.length := List.length_pos_of_mem hx
    rw [List.length_cons]
    omega
theorem wk_new {ts : List Str} (hl : ts.length ≤ 40) (h : ∀ j, j < ts.length → wk j ∈ ts) : wk ts.length ∉ ts := by
  intro hm
  have nd : ((List.range (ts.length + 1)).map wk).Nodup := by
    have e : (List.range 50).map wk = (List.range (ts.length + 1)).map wk ++ ((List.range' (ts.length + 1) (49 - ts.length)).map wk) := by
      rw [← List.map_append]
      congr 1
      have : (50 : Nat) = (ts.length + 1) + (49 - ts.length) := by omega
      rw [this, List.range_eq_range', List.range_eq_range', ← List.range'_append_1]
      simp
    have n := wk_nd
    rw [e] at n
    exact (List.nodup_append.mp n).1
  have := nd_le _ ts nd fun x hx => by
    obtain ⟨j, hj, rfl⟩ := List.mem_map.mp hx
    have hj := List.mem_range.mp hj
    by_cases e : j = ts.length
    · rw [e]; exact hm
    · exact h j (by omega)
  rw [List.length_map, List.length_range] at this
  omega
theorem inV_str (z : Str) (ts : List Str) : inV (.str z) (ts.map V.str) = decide (z ∈ ts) := by
  unfold inV
  rw [List.any_map]
  induction ts with
  | nil => rfl
  | cons t r ih =>
    rw [List.any_cons, ih]
    by_cases e : t = z
    · subst e
      simp [eqV]
    · have : ¬ z = t := fun q => e q.symm
      simp [eqV, e, this]
theorem all_flat (ts : List Str) : (ts.map V.str).all flatV = true := by
  rw [List.all_map, List.all_eq_true]
  intro x _
  rfl
def words7 : List Str := [Str.ofString "kind", Str.ofString "make", Str.ofString "a", Str.ofString "b", Str.ofString "ab", Str.ofString "one", Str.ofString "x0"]
theorem words7_nm : ∀ z ∈ words7, nmS z = true := by decide +kernel
theorem sign_L : ∀ d : _root_.Fin 26, ∃ c, signs.cps.toList[d.1]? = some c ∧ inL c = true := by decide +kernel
theorem sign_N {d : Nat} (h : d < 36) : ∃ c, signs.cps.toList[d]? = some c ∧ inN c = true := by
  have hl : d < signs.cps.toList.length := by
    rw [show signs.cps.toList.length = 36 by decide +kernel]
    exact h
  exact ⟨_, List.getElem?_eq_getElem hl, decide_eq_true (List.getElem_mem hl)⟩
theorem join_signs : ∀ cs : List Nat, (Txt.join (Str.ofString "") (cs.map fun c => (⟨#[c]⟩ : Str))).cps.toList = cs := by
  intro cs
  rw [TL.join_eq]
  induction cs with
  | nil => rfl
  | cons c r ih =>
    cases r with
    | nil => rfl
    | cons d r =>
      show (((⟨#[c]⟩ : Str) ++ Str.ofString "") ++ Str.join (Str.ofString "") (((d :: r).map fun c => (⟨#[c]⟩ : Str)))).cps.toList = _
      rw [str_app, ih]
      rfl
theorem ones_sum : ∀ cs : List Nat, ((cs.map fun c => (⟨#[c]⟩ : Str)).map (·.length)).sum = cs.length
  | [] => rfl
  | c :: r => by
    rw [List.map_cons, List.map_cons, List.sum_cons, ones_sum r]
    show 1 + r.length = r.length + 1
    omega
end Kx
set_option Elab.async false
set_option linter.all false
set_option maxRecDepth 100000
set_option maxHeartbeats 4000000
namespace Kx
open PySem PySem.Spec PyProof.Rows L2 Gd
/-- a comprehension over a range: one name as the target, no test -/
theorem lc_rangeY {n j : Nat} {te : TE} {vs : List Nat} {σ : L2.St} {H1 : Hp} {D : Addr} {Qd : Hp → Prop} (Pv : Nat → Hp → Prop) (hw : ∀ v, wipe ((wipe σ vs).set j (some v)) vs = wipe σ vs) (h0 : Pv 0 (upd H1 D (.lst [])))
    (hs : ∀ i H, i < n → Pv i H → te ((wipe σ vs).set j (some (.int (0 + (i : Int))))) H fun y H4 => ∃ acc, H4 D = some (.lst acc) ∧ acc.length < sizeLine ∧ Pv (i + 1) (upd H4 D (.lst (acc ++ [y]))))
    (hd : ∀ H, Pv n H → Qd H) : ∃ W : Nat → Nat → Hp → Prop, (∃ m, W 0 m (upd H1 D (.lst []))) ∧ ∀ i m H, W i m H →
      ((Itr 0 n).stop i H ∧ Qd H) ∨ ((Itr 0 n).go i H ∧ ∃ Nx : Hp → Prop, (∀ H', Nx H' → ∃ m', m' < m ∧ W (i + 1) m' H') ∧ ∀ v H', (Itr 0 n).yld i H v H' → gName j v (wipe σ vs) H' fun τ H2 => wipe τ vs = wipe σ vs ∧ tYes τ H2 fun b H3 =>
        if b = true then te τ H3 fun y H4 => ∃ acc, H4 D = some (.lst acc) ∧ acc.length < sizeLine ∧ Nx (upd H4 D (.lst (acc ++ [y]))) else Nx H3) :=
  lc_range Pv h0 (fun i H e p => ⟨hw _, yes_if (hs i H e p)⟩) hd
/-- what follows a statement, shown once -/
theorem seq_join {t u : TS} {D : Ends} {σ : L2.St} {H : Hp} (R : L2.St → Hp → Prop) (hR : ∀ σ H, R σ H → u D σ H) (h : (∀ σ H, R σ H → u D σ H) → t { D with nx := u D } σ H) : tSeq t u D σ H := h hR
section
variable {P : Program} {w : World} {K : PySem.W.Frag} {mg : Str → Option Value} {base : Heap}
structure TW0 (mg : Str → Option Value) : Prop where
  len : mg "len" = none
  str : mg "str" = none
  range : mg "range" = none
def spWord : Sp := fun vs H Q _ => ∃ (p q : Addr) (ts : List Str), vs = [.ref p, .ref q] ∧ DealAt H p ∧ H q = some (.lst (ts.map V.str)) ∧ q ≠ p ∧ ts.length ≤ 40 ∧
  ∀ (z : Str) (H' : Hp), nmS z = true → z ∉ ts → DealAt H' p → Sb p H H' → Q (.str z) H'
theorem ok_word {f fp : Addr} {fd fdp : FuncData} (F : Fun K "_law_word" "_law_word" sWord f fd) (T : TW0 mg) (GP : FnOk P w K mg base CX0 1 fp fdp ["_law_deal_here", "_law_many"] spPick) (kp : PySem.W.keepIn K (.ref fp) = true)
    (bP : Binds K fdp ["_law_deal_here", "_law_many"] []) (gP : mg "_law_pick" = some (.ref fp)) : FnOk P w K mg base CX0 2 f fd ["_law_deal_here", "_law_taken"] spWord := by
  refine F.ok scWord (fun vs H Q E h => ?_) (fun cv A ou s H vs Q E hr h => ?_)
  · obtain ⟨p, q, ts, rfl, _⟩ := h
    rfl
  obtain ⟨p, q, ts, rfl, hD, hq, nqp, hl, k⟩ := h
  refine ⟨_, pss_cons (ps_set (i := 2) scWord.nd rfl (.inr rfl) pe_str)
    (pss_cons (ps_par (i := 3) (j := 4) (by rfl) scWord.nd rfl rfl (by decide) rfl rfl
      (pa_cons (pe_call GP hr (by rfl) gP kp bP .nil pass0 (pa_cons (pv 0) (pa_cons pe_int pa_nil)))
      (pa_cons (pe_ix ix_list (pe_lst (pa_cons pe_str (pa_cons pe_str (pa_cons pe_str (pa_cons pe_str (pa_cons pe_str (pa_cons pe_str (pa_cons pe_str pa_nil))))))))
        (pe_call GP hr (by rfl) gP kp bP .nil pass0 (pa_cons (pv 0) (pa_cons pe_int pa_nil))) (fun _ _ => rfl)) pa_nil)) (by rfl))
    (pss_cons (ps_if (pt_cmpR op_gt (pv 3) pe_int (nomark _))
      (pss_cons (ps_setLc (i := 6) (own := [("_law_k", 5)]) (g := gName 5) (tt := tYes) (by rfl) scWord.nd rfl rfl (sw_true rfl rfl rfl (by decide +kernel))
          (pi_range1 rfl T.range (pa_cons (pe_ix ix_list (pe_lst (pa_cons pe_int (pa_cons pe_int (pa_cons pe_int pa_nil)))) (pe_op op_sub (pv 3) pe_int) (fun _ _ => rfl)) pa_nil))
          (blkOk_by (own := [("_law_k", 5)]) (N := ["_law_deal_here", "_law_taken", "_law_letters", "_law_way", "_law_word_here", "_law_k", "_law_tail"]) (sc := defScope sWord) (by decide +kernel))
          (fun _ _ _ _ _ => pg_name (i := 5) scWord.nd rfl (Or.inl rfl)) (fun _ _ _ _ _ => pts_nil)
          (fun _ _ _ _ _ => pe_ix ix_str (pv 2) (pe_call GP hr (by rfl) gP kp bP .nil pass0 (pa_cons (pv 0) (pa_cons pe_int pa_nil))) (fun _ _ => rfl)))
      (pss_one (ps_set (i := 4) scWord.nd rfl (.inl rfl) (pe_op op_add_str (pe_ix ix_str (pv 2) (pe_call GP hr (by rfl) gP kp bP .nil pass0 (pa_cons (pv 0) (pa_cons pe_int pa_nil))) (fun _ _ => rfl)) (pe_join pe_str (pv 6)))))) pss_nil)
    (pss_cons (ps_for PassesOwn.never rfl (pi_range1 rfl T.range (pa_cons (pe_op op_add (pe_callB call_len_seq (by rfl) T.len PySem.boot_len (pa_cons (pv 1) pa_nil)) pe_int) pa_nil)) (pg_name (i := 5) scWord.nd rfl (.inl rfl))
      (pss_cons (ps_if (pt_cmpR op_notIn_seq (pv 4) (pv 1) (by rfl)) (pss_one (ps_ret (pv 4))) pss_nil)
      (pss_one (ps_set (i := 4) scWord.nd rfl (.inl rfl) (pe_op op_add_str pe_str (pe_callTy call_str_int (by rfl) T.str boot_str (pa_cons (pv 5) pa_nil)))))))
    (pss_one (ps_ret (pv 4)))))), ?_⟩
  refine ⟨.ref p, rfl, p, 4, rfl, hD, by decide, by decide, fun d1 H1 l1 u1 D1 b1 => ?_⟩
  have q1 : H1 q = some (.lst (ts.map V.str)) := b1 q _ nqp hq
  refine ⟨(by show 7 ≤ sizeLine; decide), fun L nL => ?_⟩
  have nLp : L ≠ p := by
    obtain ⟨_, _, _, e, _⟩ := D1
    exact fun e2 => by rw [e2, e] at nL; cases nL
  have s1 : Same H1 (upd H1 L (.lst [V.str "kind", .str "make", .str "a", .str "b", .str "ab", .str "one", .str "x0"])) := same_new nL
  refine ⟨.ref p, rfl, p, 7, rfl, D1.keep s1, by decide, by decide, fun d2 H2 l2 u2 D2 b2 => ?_⟩
  have L2 : H2 L = some (.lst [V.str "kind", .str "make", .str "a", .str "b", .str "ab", .str "one", .str "x0"]) := b2 L _ nLp upd_same
  have q2 : H2 q = some (.lst (ts.map V.str)) := b2 q _ nqp (s1 q _ q1)
  have B2 : Sb p H H2 := b1.trans ((Sb.of s1).trans b2)
  obtain ⟨z0, e0, h0⟩ : ∃ z, ([V.str "kind", .str "make", .str "a", .str "b", .str "ab", .str "one", .str "x0"])[d2.toNat]? = some (V.str z) ∧ nmS z = true := by
    have hd : d2.toNat < words7.length := by show d2.toNat < 7; omega
    refine ⟨words7[d2.toNat], ?_, words7_nm _ (List.getElem_mem hd)⟩
    show (words7.map V.str)[d2.toNat]? = _
    rw [List.getElem?_map, List.getElem?_eq_getElem hd]
    rfl
  refine ⟨L, _, d2, .str z0, rfl, rfl, SqL.of L2, at_of (j := d2.toNat) (by omega) e0, V.int d1, .str z0, rfl, ?_⟩
  dsimp only
  refine seq_join (fun σ H3 => ∃ (z : Str) (o5 o6 : Option V), σ = [some (.ref p), some (.ref q), some (.str signs), some (.int d1), some (.str z), o5, o6] ∧ nmS z = true ∧ DealAt H3 p ∧ Sb p H H3) ?_ fun rest => ?_
  · rintro σ H3 ⟨z, o5, o6, rfl, hz, D3, B3⟩
    have q3 := B3 q _ nqp hq
    refine ⟨.ref q, rfl, q, ts.map V.str, rfl, .inl (SqL.of q3), _, _, rfl, rfl, _, rfl, ?_, ?_, ?_⟩
    · rw [List.length_map]; omega
    · rw [List.length_map]; omega
    have en : (((ts.map V.str).length : Int) + 1).toNat = ts.length + 1 := by rw [List.length_map]; omega
    rw [en]
    refine for_range (n := ts.length + 1) (fun i σ H' => ∃ (z : Str) (o5 : Option V), σ = [some (.ref p), some (.ref q), some (.str signs), some (.int d1), some (.str z), o5, o6] ∧ nmS z = true ∧ H' = H3 ∧ (i = 0 ∨ z = wk (i - 1)) ∧ ∀ j, j + 1 < i → wk j ∈ ts)
      ⟨z, o5, rfl, hz, rfl, .inl rfl, fun j h => by omega⟩ ?_ ?_
    · rintro i σ H' hi ⟨z, o5, rfl, hz, rfl, hw, hj⟩
      refine ⟨.str z, rfl, .ref q, rfl, q, ts.map V.str, rfl, .inl (SqL.of q3), rfl, all_flat ts, _, rfl, ?_⟩
      rw [inV_str]
      by_cases hm : z ∈ ts
      · rw [decide_eq_true hm]
        have hi2 : i < 50 := by omega
        have n3 : (Str.ofString (toString (i : Int))).length ≤ 3 := (wk_len ⟨i, hi2⟩).2
        refine iteF ⟨_, rfl, _, rfl, ?_, _, _, rfl, rfl, ?_, wk i, some (.int (0 + (i : Int))), ?_, wk_nm ⟨i, hi2⟩, rfl, .inr rfl, fun j h => ?_⟩
        · have : ((0 : Int) + i).natAbs = i := by omega
          rw [this]
          exact Nat.lt_of_le_of_lt (Nat.log2_le_self i) (by omega)
        · rw [Int.zero_add]
          exact Nat.le_of_lt (small1000 (by show 1 + _ ≤ 1000; omega))
        · rw [Int.zero_add]
          rfl
        · by_cases e : j + 1 < i
          · exact hj j e
          · have e2 : j = i - 1 := by omega
            subst e2
            rcases hw with h0 | hw
            · omega
            · rw [← hw]; exact hm
      · rw [decide_eq_false hm]
        exact iteT ⟨.str z, rfl, k z _ hz hm D3 B3⟩
    · rintro σ H' ⟨z, o5, rfl, hz, rfl, hw, hj⟩
      have ez : z = wk ts.length := by
        rcases hw with h | h
        · omega
        · exact h
      subst ez
      exact ⟨_, rfl, k _ _ hz (wk_new hl fun j h => hj j (by omega)) D3 B3⟩
  refine ⟨_, rfl, _, _, rfl, rfl, _, rfl, ite2 (fun e => ?_) (fun e => ?_)⟩
  · have hd1 : 0 < d1 := of_decide_eq_true e
    -- the range's length
    refine ⟨(by show 3 ≤ sizeLine; decide), fun M nM => ?_⟩
    have nMp : M ≠ p := by
      obtain ⟨_, _, _, e, _⟩ := D2
      exact fun e2 => by rw [e2, e] at nM; cases nM
    have s3 : Same H2 (upd H2 M (.lst [V.int 1, .int 2, .int 7])) := same_new nM
    obtain ⟨n, en, hn⟩ : ∃ n : Nat, ([V.int 1, .int 2, .int 7])[(d1 - 1).toNat]? = some (V.int n) ∧ n ≤ 7 := by
      have : d1 = 1 ∨ d1 = 2 ∨ d1 = 3 := by omega
      rcases this with rfl | rfl | rfl
      · exact ⟨1, rfl, by omega⟩
      · exact ⟨2, rfl, by omega⟩
      · exact ⟨7, rfl, by omega⟩
    refine ⟨.int d1, rfl, _, _, rfl, rfl, M, _, d1 - 1, .int n, rfl, rfl, SqL.of upd_same, at_of (j := (d1 - 1).toNat) (by omega) en, _, rfl, by omega, by omega, fun D nD => ?_⟩
    have nDp : D ≠ p := by
      obtain ⟨_, _, _, e, _⟩ := D2
      exact fun e2 => by rw [e2, s3 _ _ e] at nD; cases nD
    have B3 : Sb p H (upd (upd H2 M (.lst [V.int 1, .int 2, .int 7])) D (.lst [])) := B2.trans ((Sb.of s3).trans (.new nD))
    refine lc_rangeY (n := n) (fun i H4 => ∃ cs : List Nat, DealAt H4 p ∧ Sb p H H4 ∧ H4 D = some (.lst ((cs.map fun c => (⟨#[c]⟩ : Str)).map V.str)) ∧ cs.length = i ∧ ∀ c ∈ cs, inN c = true) (fun _ => rfl)
      ⟨[], (D2.keep s3).keep (same_new nD), B3, upd_same, rfl, fun c h => by cases h⟩ ?_ ?_
    · rintro i H4 hi ⟨cs, D4, B4, e4, l4, n4⟩
      refine ⟨.str signs, rfl, .ref p, rfl, p, 36, rfl, D4, by decide, by decide, fun d5 H5 l5 u5 D5 b5 => ?_⟩
      obtain ⟨c, ec, nc⟩ := sign_N (d := d5.toNat) (by omega)
      have e5 := b5 D _ nDp e4
      refine ⟨signs, d5, c, rfl, rfl, by decide +kernel, by rw [show d5 = ((d5.toNat : Nat) : Int) by omega]; exact atI_nat ec, _, e5, ?_, cs ++ [c], ?_, ?_, ?_, ?_, ?_⟩
      · rw [List.length_map, List.length_map]
        exact small1000 (by omega)
      · obtain ⟨x, y, u, e, l⟩ := D5
        exact ⟨x, y, u, by rw [upd_ne nDp.symm]; exact e, l⟩
      · intro b o n e
        by_cases eb : b = D
        · subst eb
          exact absurd (B2.trans (Sb.of s3) b o n e) (by rw [nD]; simp)
        · rw [upd_ne eb]
          exact b5 b o n (B4 b o n e)
      · rw [upd_same, List.map_append, List.map_append]
        rfl
      · rw [List.length_append, l4]
        rfl
      · intro x hx
        rcases List.mem_append.mp hx with h | h
        · exact n4 x h
        · rw [List.mem_singleton.mp h]; exact nc
    · rintro H4 ⟨cs, D4, B4, e4, l4, n4⟩
      refine ⟨.str signs, rfl, .ref p, rfl, p, 26, rfl, D4, by decide, by decide, fun d5 H5 l5 u5 D5 b5 => ?_⟩
      obtain ⟨c, ec, nc⟩ := sign_L ⟨d5.toNat, by omega⟩
      have e5 := b5 D _ nDp e4
      refine ⟨signs, d5, c, rfl, rfl, by decide +kernel, by rw [show d5 = ((d5.toNat : Nat) : Int) by omega]; exact atI_nat ec, ⟨_, rfl⟩, .ref D, rfl, _, D, _, rfl, rfl, .inl (SqL.of e5), ?_, _, _, rfl, rfl, ?_, ?_⟩
      · rw [ones_sum, List.length_map]
        show cs.length + cs.length * 0 ≤ 16777216
        omega
      · have := len_list (Txt.join (Str.ofString "") (cs.map fun c => (⟨#[c]⟩ : Str)))
        rw [join_signs] at this
        rw [← this]
        exact Nat.le_of_lt (small1000 (by show 1 + _ ≤ 1000; omega))
      · refine rest _ _ ⟨_, _, _, rfl, nm_of (c := c) (r := cs) ?_ nc n4 (by omega), D5, B4.trans b5⟩
        rw [str_app, join_signs]
        rfl
  · exact rest _ _ ⟨z0, none, none, rfl, h0, D2, B2⟩
end
end Kx
set_option Elab.async false
set_option linter.all false
set_option maxRecDepth 100000
set_option maxHeartbeats 4000000
/-! Exceptions of own classes as values: made (by place and by name), their fields read, their classes asked. -/
namespace Gd
open PySem PySem.Spec PyProof.Rows L2
open PySem.W (excInitIn excOver excTail)

/-- what is asked of an exception class of one's own over the built-in class B -/
structure XC (K : PySem.W.Frag) (C : Addr) : Prop where
  base : ∃ (B nid iid : String) (tl : List Value), ExcBaseFacts B nid iid tl ∧ StoreFacts B tl "object.__setattr__" "object" ∧ excInitIn K C tl nid = true ∧ excOver K C tl = true
  hd : PySem.W.hasDictIn K C = true
  sa : PySem.W.findIn K (.ref C) "__setattr__" = some (some (.builtin "object.__setattr__"))
  ga : PySem.W.findIn K (.ref C) "__getattribute__" = some (some (.builtin "BaseException.__getattribute__"))
  gg : PySem.W.findIn K (.ref C) "__getattr__" = some none
  sB : PySem.W.subIn K (.ref C) (.type "BaseException") = some true
  ca : PySem.W.findIn K (.ref C) "__class__" = some (some (.builtin "object.__class__"))
  cn : PySem.W.specialIn K (.builtin "object.__class__") "__get__" = some (some (.builtin "getset_descriptor.__get__"))
  ct : PySem.W.takesIn K (.builtin "object.__class__") = some true
  mo : PySem.W.mroIn K C (.type "object") = some true
  kp : PySem.W.keepIn K (.ref C) = true
/-- its instance at a, with these fields -/
def ErrAt (H : Hp) (a C : Addr) (fs : List (Str × V)) : Prop := ∃ d, H a = some (exo a C (some d)) ∧ H d = some (exd d fs)
theorem ErrAt.keep {H H' : Hp} {a C : Addr} {fs : List (Str × V)} (h : ErrAt H a C fs) (s : Same H H') : ErrAt H' a C fs := by
  obtain ⟨d, h1, h2⟩ := h
  exact ⟨d, s _ _ h1, s _ _ h2⟩

/-! ### the first store of a field, a further one -/
section
variable {prog : Program} {w : World} {A : Around} {E : Value → Shared → Prop} {R : Result → Shared → Prop} {hp : Heap} {g : Array GenState} {d : Drawn} {t : Nat} {os : OsState}
theorem store_first {K : PySem.W.Frag} {name : Str} {tk : Tok} {v : Value} {x C t1 : Addr} {B : String} {tl : List Value} (SF : StoreFacts B tl "object.__setattr__" "object") (X : K.In hp)
    (hx : hp.get? x = some { cls := .ref C, data := .fields #[.ref t1, .none, .none, .none, .bool false, .none] }) (ho : excOver K C tl = true) (hd : PySem.W.hasDictIn K C = true) (ht : PySem.W.takerIn K C name = some none)
    (hq : ∀ h' tk' dx, (∀ b o, b ≠ x → hp.get? b = some o → h'.get? b = some o) → hp.objs.size ≤ dx → dx ≠ x → h'.get? x = some { cls := .ref C, dict := some dx, data := .fields #[.ref t1, .none, .none, .none, .bool false, .none] } →
      h'.Ns1 dx (fun y => if y = name then some v else none) → R (.ok (.ret .none)) ⟨h', g, d, tk', os⟩) :
    codeAny (model prog w) A (.call (.builtin "object.__setattr__") ⟨[.ref x, .str name tk, v], []⟩) R ⟨hp, g, d, t, os⟩ := by
  refine PySem.W.osa_openX (od := none) SF X ⟨hx, rfl, rfl, trivial⟩ ho ht fun b => ?_
  obtain ⟨cd, hc, hd'⟩ := PySem.W.any_some hd
  have hxs : x ≠ hp.objs.size := Nat.ne_of_lt (Heap.lt_size hx)
  refine wpAny_bind (wpAny_pure (wpAny_bind (PySem.W.instanceDict_exc (c2 := .none) hx (PySem.W.looks_clsIn X hc) hd' ?_)))
  show wpAny _ _ (Builtin.ObjectAttr.storeInDict hp.objs.size (.str name tk) name v) _ _ _
  refine HandSPX.store_in_new ?_ ?_
  · exact ⟨_, #[], _, (Heap.get?_update_ne _ _ _ _ hxs.symm).trans (Heap.get?_push_at rfl rfl), rfl, fun e he => absurd he (by simp), fun _ => rfl⟩
  · intro h' tk' hn' hs
    have hx2 : (hp.push (PySem.W.dictOf [] 0)).get? x = some { cls := .ref C, data := .fields #[.ref t1, .none, .none, .none, .bool false, .none] } := Heap.get?_push_of_some _ hx
    refine hq h' tk' hp.objs.size (fun b o hb q => ?_) (Nat.le_refl _) hxs.symm ?_ hn'
    · exact (hs.2 b (Nat.ne_of_lt (Heap.lt_size q))).trans ((Heap.get?_update_ne _ _ _ _ hb).trans (Heap.get?_push_of_some _ q))
    · exact (hs.2 x hxs).trans (Heap.get?_update_self _ hx2 rfl)
end

section
variable {X : Cx} {pins : List (Addr × Obj)} {σ : L2.St} {H : Hp} {s : Shared} {a C dx : Addr} {f : Str} {y : V} {u : Value} {fs : List (Str × V)} {Q : Unit → Shared → Prop} {E : Value → Shared → Prop} {A : Around}
/-- self.f = y on an exception without a dict -/
theorem est_first (T : XC X.K C) (I : Inv X pins σ H s) (e : H a = some (exo a C none)) (ht : PySem.W.takerIn X.K C f = some none) (ry : RelV y u)
    (h : ∀ dx s', H dx = none → dx ≠ a → Inv X pins σ (upd (upd H dx (exd dx [(f, y)])) a (exo a C (some dx))) s' → Q () s') : wpAny (model X.prog X.w) A (setAttr (.ref a) f u) Q E s := by
  obtain ⟨B, nid, iid, tl, FB, SF, hin, hov⟩ := T.base
  obtain ⟨t1, ho⟩ := exo_at I.hok e
  obtain ⟨hp, g, d, t, os⟩ := s
  refine PySem.W.set_plain I.kIn (ox := { cls := .ref C, dict := none, data := .fields #[.ref t1, .none, .none, .none, .bool false, .none] }) (od := none) ⟨ho, rfl, rfl, trivial⟩ T.sa ?_
  refine store_first SF I.kIn ho hov T.hd ht fun h' tk' dx k dn dne hx hn => ?_
  have n1 : H dx = none := I.hok.fresh dn
  have old : ∀ {b : Addr} {o : Obj}, hp.get? b = some o → b ≠ dx := by
    intro b o q z
    have := Heap.lt_size q
    rw [z] at this
    exact absurd dn (Nat.not_le.mpr this)
  have offA : ∀ {b : Addr}, H b = none → b ≠ a := by
    intro b n z
    rw [z, e] at n
    cases n
  have onA : ∀ {b : Addr} {o : HO}, H b = some o → o ≠ exo a C none → b ≠ a := by
    intro b o q n z
    rw [z, e] at q
    exact n (Option.some.inj q).symm
  have un : Un X.fs [] H (upd (upd H dx (exd dx [(f, y)])) a (exo a C (some dx))) hp h' := by
    constructor
    · intro b o q n _ _
      exact k b o (offA n) q
    · intro b o q n _ _
      exact ⟨o.slots, k b o (offA n) q⟩
    · intro b o q n _
      rw [upd_ne (offA n), upd_ne (old q)]
      exact n
    · intro b o q _
      by_cases hb : b = a
      · subst hb
        exact ⟨_, hx⟩
      · exact ⟨o, k b o hb q⟩
    · intro b xs q
      rw [upd_ne (onA q (fun z => exo_tup z.symm)), upd_ne (ne_of_none q n1)]
      exact q
    · intro b o v q
      rw [upd_ne (onA q (fun z => exo_frz z.symm)), upd_ne (ne_of_none q n1)]
      exact q
    · intro b ps q
      refine ⟨#[], ?_⟩
      rw [upd_ne (onA q (fun z => exo_tbl z.symm)), upd_ne (ne_of_none q n1), q]
      simp
  refine h dx _ n1 dne (I.un (t' := tk') un fun b o q => ?_)
  by_cases hb : b = a
  · subst hb
    rw [upd_same] at q
    cases q
    exact exo_ok hx
  rw [upd_ne hb] at q
  by_cases hd : b = dx
  · subst hd
    rw [upd_same] at q
    cases q
    exact exd_ok hn (relO_put (fs := []) ry fun g => True.intro)
  rw [upd_ne hd] at q
  refine (I.hok b o q).stay (fun c v hc z => k c v ?_ z) (fun c hc => ?_) fun c xs hc => ?_
  · rcases hc with hc | hc
    · rw [hc]
      exact hb
    · exact onA hc (fun z => exo_own z.symm)
  · rw [upd_ne (onA hc (fun z => exo_own z.symm)), upd_ne (ne_of_none hc n1)]
    exact hc
  · rw [upd_ne (onA hc (fun z => exo_tup z.symm)), upd_ne (ne_of_none hc n1)]
    exact hc
end
end Gd
set_option Elab.async false
set_option linter.all false
set_option maxRecDepth 100000
set_option maxHeartbeats 4000000
namespace PySem
namespace Gk
open PySem.W PySem.Calls PyProof.Rows PySem.HandSPX
open Builtin Builtin.ObjectAttr
section
variable {M : Model} {A : Around} {E : Value → Shared → Prop} {h : Heap} {g : Array GenState} {d : Drawn} {t : Nat} {os : OsState}
variable {nm q : Str} {C N : Addr} {bs bm bmB : List Value} {hdct : Bool} {sn : List Str} {sub : List Value} {ab : Bool} {col : Option Bool} {dd : Option Addr} {k0 k1 k2 k3 k5 : Option Value} {B newId initId : String}
theorem check_kw (F : ExcBaseFacts B newId initId bmB) (hT : ∀ X : String, bm.contains (.type X) = bmB.contains (.type X)) {rest : List Value} {kw : List (Str × Value)} {Q : Unit → Shared → Prop}
    (hC : h.get? C = some (excClassObj nm q C N bs bm hdct sn sub ab col dd k0 k1 k2 k3 k5 newId)) (hq : Q () ⟨h, g, d, t, os⟩) : wpAny M A (checkBuiltinCall newId ⟨.ref C :: rest, kw⟩) Q E ⟨h, g, d, t, os⟩ := by
  have c1 : (Value.ref C :: bm).contains (.type B) = true := by rw [List.contains_cons, hT, F.hasB, Bool.or_true]
  have c2 := F.noStar
  simp only [checkBuiltinCall, F.newKind, F.newSplit, F.newRow]
  repeat (first | refine wpAny_loadPart_at hC ?_ | (refine wpAny_isSubtype_exc hC ?_; rw [c1]) | refine wpAny_staticBase_exc hC ?_ | refine wpAny_madeBy_exc hC ?_ | simp only [bne_self_eq_false, Bool.false_eq_true, if_false] | wp_step)
  exact hq
end
section
variable {prog : Program} {w : World} {A : Around} {E : Value → Shared → Prop} {R : Result → Shared → Prop} {h : Heap} {g : Array GenState} {d : Drawn} {t : Nat} {os : OsState}
variable {nm q : Str} {C N : Addr} {bs bm bmB : List Value} {hdct : Bool} {sn : List Str} {sub : List Value} {ab : Bool} {col : Option Bool} {dd : Option Addr} {k0 k1 k2 k3 k5 : Option Value} {B newId initId : String}
theorem new_kw (F : ExcBaseFacts B newId initId bmB) (hT : ∀ X : String, bm.contains (.type X) = bmB.contains (.type X)) {rest : List Value} {kw : List (Str × Value)}
    (hC : h.get? C = some (excClassObj nm q C N bs bm hdct sn sub ab col dd k0 k1 k2 k3 k5 newId))
    (hq : R (.ok (.ret (.ref (h.objs.size + 1)))) ⟨(h.push (PySem.W.kdv_tup rest)).push (excO C h.objs.size), g, d, t, os⟩) (hrest : rest.length ≤ sizeLine) :
    codeAny (model prog w) A (.builtin newId ⟨.ref C :: rest, kw⟩) R ⟨h, g, d, t, os⟩ := by
  have e0 := F.ends
  have c1 : (Value.ref C :: bm).contains (.type B) = true := by rw [List.contains_cons, hT, F.hasB, Bool.or_true]
  have c2 : (Value.ref C :: bm).contains (.type "AttributeError") = false := by rw [List.contains_cons, hT, F.noAttr]; rfl
  have c3 : (Value.ref C :: bm).contains (.type "NameError") = false := by rw [List.contains_cons, hT, F.noName]; rfl
  refine codeAny_builtinAt F.entry ?_
  unfold Builtin.«BaseException.__new__»
  refine wpAt_bind ?_
  show wpAt _ _ _ (stack >>= _) _ _ _
  refine wpAt_bind (wpAt_stack fun p below => wpAt_of_wpAny ?_)
  wp_walk
  refine wpAt_of_wpAny ?_
  rw [F.owner]
  repeat (first | with_reducible refine wpAny_madeHere_exc F.canon hC ?_ | with_reducible refine wpAny_loadPart_at hC ?_ | (with_reducible refine wpAny_isSubtype_exc hC ?_; first | rw [c1] | rw [c2] | rw [c3]) | wp_step)
  show R _ _
  rw [Heap.size_push]
  exact hq
theorem type_call_kw (F : ExcBaseFacts B newId initId bmB) (hT : ∀ X : String, bm.contains (.type X) = bmB.contains (.type X)) {rest : List Value} {kw : List (Str × Value)} {fI : Addr} {Q : Fin → Shared → Prop}
    (hC : h.get? C = some (excClassObj nm q C N bs bm hdct sn sub ab col dd k0 k1 k2 k3 k5 newId))
    (hi : W.Looks (model prog w) h (typeLookup (.ref C) "__init__") (some (.ref fI))) (hb : ∀ self, W.Looks (model prog w) h (bindSpecial (.ref fI) self) (.ref fI, [self])) (hrest : rest.length ≤ sizeLine)
    (hq : codeAny (model prog w) A (.call (.ref fI) ⟨.ref (h.objs.size + 1) :: rest, kw⟩)
      (fun r s' => match r with | .ok (.ret v) => v = .none ∧ Q (.done (.ret (.ref (h.objs.size + 1)))) s' | .ok _ => False | .error e => E e s')
      ⟨(h.push (W.kdv_tup rest)).push (excO C h.objs.size), g, d, t, os⟩) :
    wpAny (model prog w) A (Builtin.«type.__call__» ⟨.ref C :: rest, kw⟩) Q E ⟨h, g, d, t, os⟩ := by
  repeat (first | with_reducible refine wpAny_loadPart_at hC ?_ | with_reducible refine wpAny_madeBy_exc hC ?_ | wp_step)
  refine codeAny_call_builtin_code (Code.quiet_builtin _ F.quiet) (check_kw F hT hC ?_)
  refine new_kw F hT hC ?_ hrest
  show wpAny _ _ _ _ _ _
  have k : ∀ b o, h.get? b = some o → ((h.push (W.kdv_tup rest)).push (excO C h.objs.size)).get? b = some o := fun b o e => Heap.get?_push_of_some _ (Heap.get?_push_of_some _ e)
  have g1 := k _ _ hC
  have g2 : ((h.push (W.kdv_tup rest)).push (excO C h.objs.size)).get? (h.objs.size + 1) = some (excO C h.objs.size) := by heap_get
  have c1 : (Value.ref C :: bm).contains (.ref C) = true := by simp
  have i1 := hi.keeps k
  have b1 := (hb (.ref (h.objs.size + 1))).keeps k
  unfold isInstance
  repeat (first | with_reducible refine wpAny_loadPart_at g2 ?_ | (with_reducible refine wpAny_isSubtype_exc g1 ?_; rw [c1]) | wp_step)
  show wpAny _ _ (typeLookup (.ref C) _) _ _ _
  refine i1.at ?_
  refine wpAny_holding (wpAny_bind (b1.at ?_))
  refine wpAny_bind (wpAny_call (codeAny_mono hq fun r s' z => ?_))
  rcases r with e | (v | _ | _ | _) <;> first | exact z | exact z.elim | skip
  obtain ⟨rfl, z⟩ := z
  first
    | exact wpAny_pure (wpAny_pure z)
    | (wp_walk; exact z)
theorem call_kw (F : ExcBaseFacts B newId initId bmB) (hT : ∀ X : String, bm.contains (.type X) = bmB.contains (.type X)) {rest : List Value} {kw : List (Str × Value)} {fI : Addr}
    (hC : h.get? C = some (excClassObj nm q C N bs bm hdct sn sub ab col dd k0 k1 k2 k3 k5 newId))
    (hi : W.Looks (model prog w) h (typeLookup (.ref C) "__init__") (some (.ref fI))) (hb : ∀ self, W.Looks (model prog w) h (bindSpecial (.ref fI) self) (.ref fI, [self])) (hrest : rest.length ≤ sizeLine)
    (hq : codeAny (model prog w) (A.under (.builtin "type.__call__" ⟨.ref C :: rest, kw⟩)) (.call (.ref fI) ⟨.ref (h.objs.size + 1) :: rest, kw⟩) (W.InitBack (h.objs.size + 1) R)
      ⟨(h.push (W.kdv_tup rest)).push (excO C h.objs.size), g, d, t, os⟩) :
    codeAny (model prog w) A (.call (.ref C) ⟨rest, kw⟩) R ⟨h, g, d, t, os⟩ := by
  have f1 := tc_lookup
  have f2 := tc_bind (.ref C)
  have hTy : (⟨h, g, d, t, os⟩ : Shared).TypeIs (.ref C) "type" := ⟨_, hC, rfl⟩
  refine codeAny_of_tree ?_
  show wpAny _ _ (callAny (.ref C) _) _ _ _
  repeat (any_goals (first | assumption | with_reducible refine wpAny_loadPart_at hC ?_ | wp_step))
  refine ⟨rfl, ?_⟩
  refine codeAny_call_builtin_at (Code.quiet_builtin _ (by decide +kernel)) entry_typeCall (wpAny_check_type_call_sub hC (type_call_kw F hT hC hi hb hrest ?_))
  refine codeAny_mono hq fun r s' z => ?_
  rcases r with e | (v | _ | _ | _) <;> exact z
end
end Gk
end PySem
set_option Elab.async false
set_option linter.all false
set_option maxRecDepth 100000
set_option maxHeartbeats 4000000
namespace Gd
open PySem PySem.Spec PyProof.Rows L2
open PySem.W (excInitIn excOver excTail)
section
variable {X : Cx} {pins : List (Addr × Obj)} {σ : L2.St} {H : Hp} {s : Shared} {a C dx : Addr} {f : Str} {y : V} {u : Value} {fs : List (Str × V)} {E : Value → Shared → Prop} {A : Around}
/-- self.f = y, a further field -/
theorem est_more {Q : Unit → Shared → Prop} (T : XC X.K C) (I : Inv X pins σ H s) (e : H a = some (exo a C (some dx))) (ed : H dx = some (exd dx fs)) (hl : fs.length ≤ 900) (ht : PySem.W.takerIn X.K C f = some none) (ry : RelV y u)
    (h : ∀ s', Inv X pins σ (upd H dx (exd dx ((f, y) :: fs))) s' → Q () s') : wpAny (model X.prog X.w) A (setAttr (.ref a) f u) Q E s := by
  obtain ⟨B, nid, iid, tl, FB, SF, hin, hov⟩ := T.base
  obtain ⟨t1, ho⟩ := exo_at I.hok e
  obtain ⟨mA, hns, rel⟩ := exd_at I.hok ed
  have hw := within_of rel
  obtain ⟨hp, g, d, t, os⟩ := s
  obtain ⟨oD, _, _, hoD, _, _⟩ := hns.count hw
  have inst : PySem.W.InstAt hp a { cls := .ref C, dict := some dx, data := .fields #[.ref t1, .none, .none, .none, .bool false, .none] } C (some oD) := ⟨ho, rfl, rfl, hoD⟩
  refine PySem.W.set_plain I.kIn inst T.sa ?_
  refine PySem.W.osa_openX (s := ⟨hp, g, d, t + 1, os⟩) SF I.kIn inst hov ht fun b => ?_
  obtain ⟨cd, hc, hd'⟩ := PySem.W.any_some T.hd
  refine wpAny_bind (wpAny_pure (wpAny_bind (wpAny_bind (wpAny_loadPart ho (wpAny_bind ((PySem.W.looks_clsIn (h := hp) I.kIn hc).at ?_))))))
  rw [hd']
  refine wpAny_pure (a := some dx) ?_
  refine PySem.OEX.store_in_old hns hw (by rw [List.length_map]; omega) fun h' tk' hn hs => ?_
  have hd : ∃ o, h'.get? dx = some o := by
    obtain ⟨o, _, _, e', _⟩ := hn
    exact ⟨o, e'⟩
  exact h _ (I.write (t' := tk') (x := dx) (e := dx) (o := exd dx ((f, y) :: fs)) (by rw [ed]; exact True.intro) (.inl rfl) (fun b o hb ho => (hs.2 b hb).trans ho) hd (exd_ok hn (relO_put ry rel)))
end
/-- self.f = e in an exception's __init__ -/
def tEst (K : PySem.W.Frag) (f : Str) (to te : TE) : TS := fun D σ H => te σ H fun y H1 => to σ H1 fun x H2 => ∃ a C : Addr, x = .ref a ∧ XC K C ∧ PySem.W.takerIn K C f = some none ∧
  ((H2 a = some (exo a C none) ∧ ∀ dx, H2 dx = none → dx ≠ a → D.nx σ (upd (upd H2 dx (exd dx [(f, y)])) a (exo a C (some dx)))) ∨
    ∃ (dx : Addr) (fs : List (Str × V)), H2 a = some (exo a C (some dx)) ∧ H2 dx = some (exd dx fs) ∧ fs.length ≤ 900 ∧ D.nx σ (upd H2 dx (exd dx ((f, y) :: fs))))
theorem ps_est {X : Cx} {o e : Expr} {to te : TE} {f : Str} {p' pos : Pos} (ho : PE X o to) (he : PE X e te) (hs : swapsWith e (some (.Attribute o f p')) pos.line X.env = pure false := by rfl) : PS X (.Assign [.Attribute o f p'] e pos) (tEst X.K f to te) := by
  constructor
  intro pins s σ H D I h
  refine plainObj_wpAny_Assign_Attribute (thn (he.run pins s σ H _ I h) fun v s1 z1 => ?_) hs
  obtain ⟨y, H1, I1, r1, q1⟩ := z1
  refine thn (ho.run pins s1 σ H1 _ I1 q1) fun u s2 z2 => ?_
  obtain ⟨x, H2, I2, r2, a, C, ex, T, ht, q⟩ := z2
  subst ex
  have eu : u = Value.ref a := r2
  subst eu
  rcases q with ⟨ea, q⟩ | ⟨dx, fs, ea, ed, hl, q⟩
  · exact est_first T I2 ea ht r1 fun dx s' n ne J => ⟨σ, _, J, q dx n ne⟩
  · exact est_more T I2 ea ed hl ht r1 fun s' J => ⟨σ, _, J, q⟩

/-! ### C(e, ..), C(k = v, ..): the instance as a value -/
section
variable {X : Cx} {CX : CXT} {k : Nat} {f C : Addr} {fd : FuncData} {ps ks : List Str} {sp : Sp} {E : XK} {x : Str} {p pos : Pos} {e : Expr} {es : List Expr} {kws : List Keyword} {t tk : TA}
/-- C(..) whose __init__ is the def at f -/
structure Ini (K : PySem.W.Frag) (C f : Addr) : Prop where
  xc : XC K C
  at_ : PySem.W.findIn K (.ref C) "__init__" = some (some (.ref f))
  ty : PySem.W.typeIn K (.ref f) = some (.type "function")
def tErr (C : Addr) (sp : Sp) (dvs : List V) (E : XK) (t : TA) : TE := fun σ H Q => t σ H fun vs H1 => vs.length ≤ 1000 ∧ ∀ a, H1 a = none → sp (.ref a :: (vs ++ dvs)) (upd H1 a (exo a C none)) (fun v H2 => v = .non ∧ Q (.ref a) H2) E
theorem run_err {pins : List (Addr × Obj)} {σ : L2.St} {H : Hp} {s : Shared} {Q : VK} {us ws : List Value} {kw : List (Str × Value)} {zs : List V} (N : Ini X.K C f) (F : FnOk X.prog X.w X.K X.mg X.base CX k f fd ps sp) (hR : Room (k + 1) X.A) (hx : Passes CX X E)
    (I : Inv X pins σ H s) (hl : us.length ≤ sizeLine) (hB : ∀ (s' : Shared) (self : Value), X.K.In s'.heap → BindsTo s' fd ⟨self :: us, kw⟩ (ps.zip (self :: ws))) (hV : Vals zs ws)
    (h : ∀ a, H a = none → sp (.ref a :: zs) (upd H a (exo a C none)) (fun v H2 => v = .non ∧ Q (.ref a) H2) E) : wpAny (model X.prog X.w) X.A (call (.ref C) us kw) (EP X pins σ Q) X.xe s := by
  obtain ⟨B, nid, iid, tl, FB, SF, hin, hov⟩ := N.xc.base
  obtain ⟨hp, g, dr, t0, os⟩ := s
  obtain ⟨nm, N', qn, bs, bm, hdct, sn, sub, ab, col, dd, k0, k1, k2, k3, k5, hC, hT⟩ := PySem.W.excInit_of I.kIn hin
  have le1 : hp.objs.size ≤ hp.objs.size + 1 := Nat.le_succ _
  have n1 : H (hp.objs.size + 1) = none := I.hok.fresh le1
  have q1 := h (hp.objs.size + 1) n1
  have kk : ∀ b o, hp.get? b = some o → ((hp.push (PySem.W.kdv_tup us)).push (PySem.HandSPX.excO C hp.objs.size)).get? b = some o := fun b o e => Heap.get?_push_of_some _ (Heap.get?_push_of_some _ e)
  have g1 : ((hp.push (PySem.W.kdv_tup us)).push (PySem.HandSPX.excO C hp.objs.size)).get? (hp.objs.size + 1) = some (PySem.HandSPX.excO C hp.objs.size) := by heap_get
  have I2 : Inv X pins σ (upd H (hp.objs.size + 1) (exo (hp.objs.size + 1) C none)) ⟨(hp.push (PySem.W.kdv_tup us)).push (PySem.HandSPX.excO C hp.objs.size), g, dr, t0, os⟩ :=
    I.laid (t' := t0) (a := hp.objs.size + 1) (o := exo (hp.objs.size + 1) C none) (h' := (hp.push (PySem.W.kdv_tup us)).push (PySem.HandSPX.excO C hp.objs.size)) kk le1 (exo_ok g1)
  have r2 : Vals (V.ref (hp.objs.size + 1) :: zs) (Value.ref (hp.objs.size + 1) :: ws) := .cons rfl hV
  have hR2 : Room k (X.A.under (.builtin "type.__call__" ⟨.ref C :: us, kw⟩)) := by
    have d1 : (X.A.under (.builtin "type.__call__" ⟨.ref C :: us, kw⟩)).depth = X.A.depth + 1 := by
      first | rfl | simp [Around.under, Code.weight, Code.isCreation, Code.isGuard, Code.isCaller, Code.frames, Code.isFrame, guardIds]
    have d2 : (X.A.under (.builtin "type.__call__" ⟨.ref C :: us, kw⟩)).units = X.A.units + 1 := by
      first | rfl | simp [Around.under, Code.cUnits, Code.frames, Code.isFrame]
    exact ⟨hR.hd, by have := hR.dp; rw [d1]; omega, by have := hR.un; rw [d2]; omega⟩
  have e0 := I2.env0
  have e1 : Env0 X.prog X.w X.K X.mg X.base (X.A.under (.builtin "type.__call__" ⟨.ref C :: us, kw⟩)) X.stack ⟨(hp.push (PySem.W.kdv_tup us)).push (PySem.HandSPX.excO C hp.objs.size), g, dr, t0, os⟩ (upd H (hp.objs.size + 1) (exo (hp.objs.size + 1) C none)) :=
    ⟨by first | exact e0.frames | (simpa [Around.under, Code.envs, Code.isFrame, pushEnvs] using e0.frames), e0.mod, e0.bs, e0.bsz, e0.funs, e0.frf, e0.hok, e0.bare⟩
  refine wpAny_call (PySem.Gk.call_kw FB hT hC (PySem.W.looks_findIn I.kIn N.at_) (fun self => PySem.W.bind_fn I.kIn self N.ty) hl
    (codeAny_mono (F.run _ X.stack _ _ ⟨Value.ref (hp.objs.size + 1) :: us, kw⟩ (Value.ref (hp.objs.size + 1) :: ws) _ _ E hR2 e1 (hB _ _ I2.kIn) r2 q1) fun r s' hq' => ?_))
  match r, hq' with
  | .error er, hq' => exact hx pins σ _ _ er s' I2 hq'
  | .ok (.ret u), hq' =>
    obtain ⟨v, H', I3, rv, ev, q3⟩ := I2.after hq'
    subst ev
    exact ⟨rv, ⟨V.ref (hp.objs.size + 1), H', I3, rfl, q3⟩⟩
  | .ok .next, hq' => exact False.elim hq'
  | .ok .brk, hq' => exact False.elim hq'
  | .ok .cont, hq' => exact False.elim hq'
theorem pe_err (N : Ini X.K C f) (F : FnOk X.prog X.w X.K X.mg X.base CX k f fd ps sp) (hR : Room (k + 1) X.A) (hg : Gl X x) (hm : X.mg x = some (.ref C)) (hb : Binds X.K fd ps []) (hx : Passes CX X E)
    (ha : PA X (e :: es) t) (hdb : (x == ("__debug__" : Str)) = false := by decide) (he : starEach (e :: es) X.env = (false, eval e X.env) :: starEach es X.env := by rfl) (hpl : (backTo pos (starEach es X.env)).any (·.1) = false := by rfl) :
    PE X (.Call (.Name x p) (e :: es) [] pos) (tErr C sp [] E t) := by
  constructor
  intro pins s σ H Q I h
  refine wpAny_Call_Name_kw (ld_glob I hg hm ?_ hdb)
  refine PySem.W.callWith_K (h₀ := X.base) I.ok.mod.kin N.xc.kp (thn (ha.run pos pins s σ H _ I h) fun us s2 z2 => ?_) he hpl
  obtain ⟨vs, H2, I2, r2, hz, q2⟩ := z2
  have el : us.length ≤ sizeLine := by
    rw [← Paired.length r2, sizeLine_eq]
    omega
  refine ⟨I2.kIn, ?_⟩
  have len : ∀ self : Value, ((self :: us) ++ ([] : List Value)).length = ps.length := fun self => by
    have q3 := F.len _ _ _ _ (q2 _ (I2.hok.fresh (Nat.le_refl _)))
    rw [List.append_nil] at q3 ⊢
    rw [← q3, List.length_cons, List.length_cons, ← Paired.length r2]
  refine run_err (ws := us) (zs := vs ++ []) N F hR hx I2 el (fun s' self ki => ?_) (by rw [List.append_nil]; exact r2) q2
  have := hb s' (self :: us) ki (len self)
  rw [List.append_nil] at this
  exact this
/-- how the keywords of C(k = v, ..) reach the parameters behind self -/
structure SBinds (K : PySem.W.Frag) (fd : FuncData) (ps ks : List Str) (g : List Value → List Value) (gV : List V → List V) : Prop where
  to : ∀ (s : Shared) (self : Value) (ws : List Value), K.In s.heap → ws.length = ks.length → BindsTo s fd ⟨[self], ks.zip ws⟩ (ps.zip (self :: g ws))
  rel : ∀ {zs : List V} {ws : List Value}, Vals zs ws → Vals (gV zs) (g ws)
def tErrK (C : Addr) (sp : Sp) (n : Nat) (gV : List V → List V) (E : XK) (tk : TA) : TE := fun σ H Q => tk σ H fun zs H1 => zs.length = n ∧ ∀ a, H1 a = none → sp (.ref a :: gV zs) (upd H1 a (exo a C none)) (fun v H2 => v = .non ∧ Q (.ref a) H2) E
theorem pe_errK {g : List Value → List Value} {gV : List V → List V} (N : Ini X.K C f) (F : FnOk X.prog X.w X.K X.mg X.base CX k f fd ps sp) (hR : Room (k + 1) X.A) (hg : Gl X x) (hm : X.mg x = some (.ref C)) (hb : SBinds X.K fd ps ks g gV) (hx : Passes CX X E)
    (hkw : PK X kws tk) (hall : (backToKw pos (keywordEach kws X.env)).all (·.1.isSome) = true := by rfl) (hks : (backToKw pos (keywordEach kws X.env)).filterMap (·.1) = ks := by rfl)
    (hdb : (x == ("__debug__" : Str)) = false := by decide)
    (hpl : ((backTo pos (starEach [] X.env)).any (·.1) || (backToKw pos (keywordEach kws X.env)).any (·.1.isNone)) = false := by rfl) :
    PE X (.Call (.Name x p) [] kws pos) (tErrK C sp ks.length gV E tk) := by
  constructor
  intro pins s σ H Q I h
  refine wpAny_Call_Name_kw (ld_glob I hg hm ?_ hdb)
  refine PySem.W.callWith_KW0 (first := []) (h₀ := X.base) I.ok.mod.kin N.xc.kp hall (thn (hkw.run pos pins s σ H _ I h) fun us s2 z2 => ?_) hpl
  obtain ⟨zs, H2, I2, r2, hz, q2⟩ := z2
  refine ⟨I2.kIn, ?_⟩
  rw [hks]
  have el : us.length = ks.length := by rw [← Paired.length r2]; exact hz
  exact run_err (us := []) (ws := g us) (zs := gV zs) N F hR hx I2 (Nat.zero_le _) (fun s' self ki => hb.to s' self us ki el) (hb.rel r2) q2
end
end Gd
set_option Elab.async false
set_option linter.all false
set_option maxRecDepth 100000
set_option maxHeartbeats 4000000
namespace Gd
open PySem PySem.Spec PyProof.Rows L2
open PySem.W (excInitIn excOver excTail)
theorem ErrAt.obj {P : Program} {w : World} {H : Hp} {h : Heap} {a C : Addr} {fs : List (Str × V)} (hok : HOk P w H h) (e : ErrAt H a C fs) :
    ∃ (ox od : Obj) (mA : Str → Option Value), PySem.W.InstAt h a ox C (some od) ∧ (∀ name, PySem.W.lookIn name od = some (mA name)) ∧ ∀ f, RelO (fs.lookup f) (mA f) := by
  obtain ⟨d, e1, e2⟩ := e
  obtain ⟨t1, ho⟩ := exo_at hok e1
  obtain ⟨mA, hns, rel⟩ := exd_at hok e2
  obtain ⟨od, hod, hl⟩ := lookIn_ns hns
  exact ⟨_, od, mA, ⟨ho, rfl, rfl, hod⟩, hl, rel⟩
/-- e.f of such an instance -/
def tEf (K : PySem.W.Frag) (f : Str) (te : TE) : TE := fun σ H Q => te σ H fun x H1 => ∃ (a C : Addr) (fs : List (Str × V)) (v : V), x = .ref a ∧ XC K C ∧ PySem.W.findIn K (.ref C) f = some none ∧ ErrAt H1 a C fs ∧ fs.lookup f = some v ∧ Q v H1
theorem pe_ef {X : Cx} {e : Expr} {te : TE} {pos : Pos} {f : Str} (he : PE X e te) (hb : attributeBase e f X.env (eval e X.env) = eval e X.env := by rfl) : PE X (.Attribute e f pos) (tEf X.K f te) := by
  constructor
  intro pins s σ H Q I h
  refine attr_of hb (thn (he.run pins s σ H _ I h) fun u s1 z => ?_)
  obtain ⟨x, H1, I1, rx, a, C, fs, v, ex, T, hno, ea, l, q⟩ := z
  subst ex
  have eu : u = Value.ref a := rx
  subst eu
  obtain ⟨ox, od, mA, J, hl, rel⟩ := ea.obj I1.hok
  obtain ⟨u2, hu, ru⟩ := RelO.some_of (v := v) (o := mA f) (by rw [← l]; exact rel f)
  exact HandSPX.exc_get I1.kIn J T.ga T.gg T.sB (PySem.W.findObj_own T.hd hno rfl (by rw [hl, hu])) (handed_of ru) ⟨v, H1, I1.tok _, ru, q⟩
/-- isinstance(e, c) of such an instance, or of one without fields -/
def rIsX (K : PySem.W.Frag) : List V → Hp → VK → Prop := fun xs H Q => ∃ (a C : Addr) (c : V) (u : Value) (b : Bool), xs = [.ref a, c] ∧ ClsV c u ∧ XC K C ∧ ((∃ fs, ErrAt H a C fs) ∨ H a = some (ExO (.ref C) a)) ∧ PySem.W.kitOne K (.ref C) u = some b ∧ Q (.bl b) H
theorem call_isX {X : Cx} : CallR X (.builtin "isinstance") (rIsX X.K) := by
  intro pins s σ H xs us Q I r h
  obtain ⟨a, C, c, u, b, rfl, k, T, ea, e, q⟩ := h
  obtain ⟨u1, u2, rfl, r1, r2⟩ := vals2 r
  have e2 := k.eq r2
  subst e2
  have e1 : u1 = Value.ref a := r1
  subst e1
  have hcl : (PySem.W.clsIn X.K C).isSome = true := by
    obtain ⟨cd, hc, _⟩ := PySem.W.any_some T.hd
    rw [hc]
    rfl
  rcases ea with ⟨fs, ea⟩ | ea
  · obtain ⟨ox, od, mA, J, hl, rel⟩ := ea.obj I.hok
    exact PySem.W.kia_one (PySem.W.kitx_exc hcl T.ga T.gg T.sB T.ca T.cn T.ct T.mo) I.kIn J e (fun z => nomatch z) fun tk => ⟨.bl b, H, I.tok tk, rfl, q⟩
  · obtain ⟨⟨oe, vs, ho, hz, hd, _⟩, _, _⟩ := (show ObjOk X.prog X.w H s.heap a (ExO (.ref C) a) from I.hok a _ ea)
    have J : PySem.W.InstAt s.heap a oe C none := by
      obtain ⟨oc, od, oda, osl⟩ := oe
      obtain ⟨h1, h2⟩ := hz
      dsimp only at h1 h2 hd
      subst h1 h2 hd
      exact ⟨ho, rfl, rfl, trivial⟩
    exact PySem.W.kia_one (PySem.W.kitx_exc hcl T.ga T.gg T.sB T.ca T.cn T.ct T.mo) I.kIn J e (fun z => nomatch z) fun tk => ⟨.bl b, H, I.tok tk, rfl, q⟩
/-- C() of a class without an __init__ of its own -/
theorem pe_err0 {X : Cx} {C : Addr} {bmB : List Value} {B nid iid : String} {x : Str} {p pos : Pos} (F : ExcBaseFacts B nid iid bmB) (q : PySem.W.excIn X.K C bmB nid = true) (gC : X.mg x = some (.ref C)) (kC : PySem.W.keepIn X.K (.ref C) = true) (hg : Gl X x)
    (hdb : (x == ("__debug__" : Str)) = false := by decide) : PE X (.Call (.Name x p) [] [] pos) (fun _ H Q => ∀ a, H a = none → Q (.ref a) (upd H a (ExO (.ref C) a))) := by
  constructor
  intro pins s σ H Q I h
  refine wpAny_Call_Name_kw (ld_glob I hg gC ?_ hdb)
  refine PySem.W.callWith_K0 I.kIn kC ?_
  show wpAny _ _ (call (.ref C) []) _ _ _
  obtain ⟨bm, N, nm, qn, bs, hdct, sn, sub, ab, col, dd, k0, k1, k2, k3, k5, mN, hC, hN, hni, T⟩ := exc_obj I.kIn q
  refine wpAny_call_exc_subT F T hC hN hni (fun h' a hm => ?_) (Nat.zero_le _)
  have hn : H a = none := I.hok.gone hm.new
  obtain ⟨t, ht, _, _⟩ := hm.there
  exact ⟨.ref a, upd H a (ExO (.ref C) a), I.laidN hm.keeps hm.new hn (exO_ok ht ⟨rfl, rfl⟩ rfl rfl rfl (show 4 < 6 by decide)), rfl, h a hn⟩
/-! ### list.count of a bool among bools -/
theorem countU {us : List Value} {bs : List Bool} (r : Vals (bs.map V.bl) us) : us.countP (eqU (.bl true)) = bs.count true := by
  induction bs generalizing us with
  | nil => cases r; rfl
  | cons b bs ih =>
    cases r with
    | cons r1 r2 =>
      rw [List.countP_cons, List.count_cons, ih r2, eqU_of r1 rfl]
      cases b <;> rfl
theorem mt_bcount {X : Cx} : MtR X "list.count" (fun x xs H Q => ∃ (p : Addr) (bs : List Bool), x = .ref p ∧ xs = [.bl true] ∧ SqL X.K H p (bs.map V.bl) ∧ Q (.int (bs.count true : Nat)) H) := by
  intro pins s σ H x xs v us Q I rx rxs h
  obtain ⟨p, bs, rfl, rfl, hs, q⟩ := h
  cases rx
  obtain ⟨u, rfl, ru⟩ := rxs.one
  obtain ⟨its, rv, ⟨⟨cls, dd, data, sl⟩, n, ho, hc, hdn, hd⟩, hlen⟩ := I.list hs
  simp only at hc hd
  subst hc hd
  have fl : (bs.map V.bl).all flatV = true := by
    rw [List.all_map, List.all_eq_true]
    intro b _
    rfl
  refine call_meets PySem.F.slot_list_count ⟨_, ho, rfl⟩ PySem.F.entry_list_count (PySem.F.args_list_count_2 _ _)
    (SeqAt.list_countAt p its.toArray n dd sl u (eqU (.bl true))) ⟨ho, fun y hy => mem_eqAt ru rfl rv fl y (by simpa using hy), ?_⟩
  have ec : its.toArray.toList.countP (eqU (.bl true)) = bs.count true := countU rv
  refine ⟨.int (bs.count true : Nat), H, I.tok _, ⟨s.toks, ?_⟩, q⟩
  show Value.int ((its.toArray.toList.countP (eqU (.bl true)) : Nat) : Int) s.toks = Value.int ((bs.count true : Nat) : Int) s.toks
  rw [ec]
end Gd
set_option Elab.async false
set_option linter.all false
set_option maxRecDepth 100000
set_option maxHeartbeats 4000000
namespace Gd
open PySem PySem.Spec PyProof.Rows L2
theorem PE.imp {X : Cx} {e : Expr} {t t' : TE} (h : PE X e t) (q : ∀ σ H Q, t' σ H Q → t σ H Q) : PE X e t' := ⟨fun pins s σ H Q I z => h.run pins s σ H Q I (q σ H Q z)⟩
theorem PA.imp {X : Cx} {es : List Expr} {t t' : TA} (h : PA X es t) (q : ∀ σ H Q, t' σ H Q → t σ H Q) : PA X es t' := ⟨fun pos pins s σ H Q I z => h.run pos pins s σ H Q I (q σ H Q z)⟩
theorem same_rfl {H : Hp} : Same H H := fun _ _ e => e

/-! ### a class with one field, with two -/
def spI1 (C : Addr) (f : Str) : Sp := fun vs H Q _ => ∃ (a : Addr) (v : V), vs = [.ref a, v] ∧ H a = some (exo a C none) ∧ ∀ d, H d = none → d ≠ a → Q .non (upd (upd H d (exd d [(f, v)])) a (exo a C (some d)))
def spI2 (C : Addr) (f g : Str) : Sp := fun vs H Q _ => ∃ (a : Addr) (v u : V), vs = [.ref a, v, u] ∧ H a = some (exo a C none) ∧ ∀ d, H d = none → d ≠ a → Q .non (upd (upd (upd H d (exd d [(f, v)])) a (exo a C (some d))) d (exd d [(g, u), (f, v)]))
section
variable {P : Program} {w : World} {K : PySem.W.Frag} {mg : Str → Option Value} {base : Heap}
theorem ok_i1 {qn f : Str} {st : Stmt} {fa C : Addr} {fd : FuncData} {p1 p2 p3 p4 : Pos} (F : Fun K "__init__" qn st fa fd) (S : FnScope ["self", f] ["self", f] (defScope st)) (hb : defBody st = [.Assign [.Attribute (.Name "self" p1) f p2] (.Name f p3) p4])
    (hd : (f == ("__debug__" : Str)) = false) (hc : (f == ("__classdict__" : Str)) = false) (hs : ∀ env : Env, swapsWith (.Name f p3) (some (.Attribute (.Name "self" p1) f p2)) p4.line env = pure false) (T : XC K C) (ht : PySem.W.takerIn K C f = some none) : FnOk P w K mg base CX0 1 fa fd ["self", f] (spI1 C f) := by
  refine F.ok S (fun vs H Q E h => ?_) (fun cv A ou s H vs Q E hr h => ?_)
  · obtain ⟨a, v, rfl, _⟩ := h
    rfl
  obtain ⟨a, v, rfl, ea, q⟩ := h
  rw [hb]
  refine ⟨_, pss_one (ps_est (pe_var (i := 0) rfl ((S.par "self" (List.Mem.head _)).elim (fun z => .inl z) (fun z => .inr (.inl z)))) (pe_var (i := 1) rfl ((S.par f (.tail _ (List.Mem.head _))).elim (fun z => .inl z) (fun z => .inr (.inl z))) hd hc) (hs _)), ?_⟩
  exact ⟨v, rfl, .ref a, rfl, a, C, rfl, T, ht, .inl ⟨ea, q⟩⟩
theorem ok_i2 {qn f g : Str} {st : Stmt} {fa C : Addr} {fd : FuncData} {p1 p2 p3 p4 p5 p6 p7 p8 : Pos} (F : Fun K "__init__" qn st fa fd) (S : FnScope ["self", f, g] ["self", f, g] (defScope st))
    (hb : defBody st = [.Assign [.Attribute (.Name "self" p1) f p2] (.Name f p3) p4, .Assign [.Attribute (.Name "self" p5) g p6] (.Name g p7) p8])
    (hd : (f == ("__debug__" : Str)) = false) (hc : (f == ("__classdict__" : Str)) = false) (hd2 : (g == ("__debug__" : Str)) = false) (hc2 : (g == ("__classdict__" : Str)) = false)
    (hs : ∀ env : Env, swapsWith (.Name f p3) (some (.Attribute (.Name "self" p1) f p2)) p4.line env = pure false) (hs2 : ∀ env : Env, swapsWith (.Name g p7) (some (.Attribute (.Name "self" p5) g p6)) p8.line env = pure false)
    (T : XC K C) (ht : PySem.W.takerIn K C f = some none) (ht2 : PySem.W.takerIn K C g = some none) : FnOk P w K mg base CX0 1 fa fd ["self", f, g] (spI2 C f g) := by
  refine F.ok S (fun vs H Q E h => ?_) (fun cv A ou s H vs Q E hr h => ?_)
  · obtain ⟨a, v, u, rfl, _⟩ := h
    rfl
  obtain ⟨a, v, u, rfl, ea, q⟩ := h
  have v0 : ∀ {x : Str}, x ∈ (["self", f, g] : List Str) → Vis (defScope st) x := fun h => (S.par _ h).elim (fun z => .inl z) (fun z => .inr (.inl z))
  rw [hb]
  refine ⟨_, pss_cons (ps_est (pe_var (i := 0) rfl (v0 (by simp))) (pe_var (i := 1) rfl (v0 (by simp)) hd hc) (hs _)) (pss_one (ps_est (pe_var (i := 0) rfl (v0 (by simp))) (pe_var (i := 2) rfl (v0 (by simp)) hd2 hc2) (hs2 _))), ?_⟩
  refine ⟨v, rfl, .ref a, rfl, a, C, rfl, T, ht, .inl ⟨ea, fun d hd hda => ?_⟩⟩
  refine ⟨u, rfl, .ref a, rfl, a, C, rfl, T, ht2, .inr ⟨d, [(f, v)], upd_same, ?_, Nat.le_of_ble_eq_true rfl, q d hd hda⟩⟩
  rw [upd_ne hda, upd_same]
/-- what the law knows of a class with one field (two) -/
structure One (P : Program) (w : World) (K : PySem.W.Frag) (mg : Str → Option Value) (base : Heap) (nm f : Str) (C : Addr) : Prop where
  gl : mg nm = some (.ref C)
  ini : ∃ (fa : Addr) (fd : FuncData), Ini K C fa ∧ FnOk P w K mg base CX0 1 fa fd ["self", f] (spI1 C f) ∧ Binds K fd ["self", f] [] ∧ SBinds K fd ["self", f] [f] (fun x => x) (fun x => x)
  no : PySem.W.findIn K (.ref C) f = some none
structure Two (P : Program) (w : World) (K : PySem.W.Frag) (mg : Str → Option Value) (base : Heap) (nm f g : Str) (C : Addr) : Prop where
  gl : mg nm = some (.ref C)
  ini : ∃ (fa : Addr) (fd : FuncData), Ini K C fa ∧ FnOk P w K mg base CX0 1 fa fd ["self", f, g] (spI2 C f g) ∧ Binds K fd ["self", f, g] [] ∧ SBinds K fd ["self", f, g] [g, f] (fun x => x.reverse) (fun x => x.reverse)
  nof : PySem.W.findIn K (.ref C) f = some none
  nog : PySem.W.findIn K (.ref C) g = some none
theorem One.xc {nm f : Str} {C : Addr} (O : One P w K mg base nm f C) : XC K C := by
  obtain ⟨_, _, N, _⟩ := O.ini
  exact N.xc
theorem Two.xc {nm f g : Str} {C : Addr} (O : Two P w K mg base nm f g C) : XC K C := by
  obtain ⟨_, _, N, _⟩ := O.ini
  exact N.xc
end
theorem made1 {H : Hp} {a d C : Addr} {f : Str} {v : V} (ha : H a = none) (hd : upd H a (exo a C none) d = none) (n : d ≠ a) :
    Same H (upd (upd (upd H a (exo a C none)) d (exd d [(f, v)])) a (exo a C (some d))) ∧ ErrAt (upd (upd (upd H a (exo a C none)) d (exd d [(f, v)])) a (exo a C (some d))) a C [(f, v)] := by
  rw [upd_ne n] at hd
  refine ⟨fun b o e => ?_, d, upd_same, ?_⟩
  · rw [upd_ne (ne_of_none e ha), upd_ne (ne_of_none e hd), upd_ne (ne_of_none e ha)]
    exact e
  · rw [upd_ne n, upd_same]
theorem made2 {H : Hp} {a d C : Addr} {f g : Str} {v u : V} (ha : H a = none) (hd : upd H a (exo a C none) d = none) (n : d ≠ a) :
    Same H (upd (upd (upd (upd H a (exo a C none)) d (exd d [(f, v)])) a (exo a C (some d))) d (exd d [(g, u), (f, v)])) ∧ ErrAt (upd (upd (upd (upd H a (exo a C none)) d (exd d [(f, v)])) a (exo a C (some d))) d (exd d [(g, u), (f, v)])) a C [(g, u), (f, v)] := by
  rw [upd_ne n] at hd
  refine ⟨fun b o e => ?_, d, ?_, upd_same⟩
  · rw [upd_ne (ne_of_none e hd), upd_ne (ne_of_none e ha), upd_ne (ne_of_none e hd), upd_ne (ne_of_none e ha)]
    exact e
  · rw [upd_ne n.symm, upd_same]
/-- C(x), C(f = x), x a name: a new instance -/
def tOne (C : Addr) (f : Str) (j : Nat) : TE := fun σ H Q => ∃ v, σ[j]? = some (some v) ∧ ∀ a H', Same H H' → H a = none → ErrAt H' a C [(f, v)] → Q (.ref a) H'
def tTwo (C : Addr) (f g : Str) (i j : Nat) : TE := fun σ H Q => ∃ v u, σ[i]? = some (some v) ∧ σ[j]? = some (some u) ∧ ∀ a H', Same H H' → H a = none → ErrAt H' a C [(g, u), (f, v)] → Q (.ref a) H'
section
variable {X : Cx} {nm f g : Str} {C : Addr} {e e2 : Expr} {i j : Nat} {p pos k1 k2 : Pos}
theorem pe_one (O : One X.prog X.w X.K X.mg X.base nm f C) (hR : Room 2 X.A) (hg : Gl X nm) (he : PE X e (tVar j)) (hdb : (nm == ("__debug__" : Str)) = false := by decide) (hs : starEach [e] X.env = (false, eval e X.env) :: starEach [] X.env := by rfl)
    (hpl : (backTo pos (starEach [] X.env)).any (·.1) = false := by rfl) : PE X (.Call (.Name nm p) [e] [] pos) (tOne C f j) := by
  obtain ⟨fa, fd, N, F, b, sb⟩ := O.ini
  refine PE.imp (pe_err N F hR hg O.gl b pass0 (pa_cons he pa_nil hs) hdb hs hpl) fun σ H Q z => ?_
  obtain ⟨v, hv, q⟩ := z
  refine ⟨v, hv, Nat.le_of_ble_eq_true rfl, fun a ha => ⟨a, v, rfl, upd_same, fun d hd hda => ⟨rfl, ?_⟩⟩⟩
  obtain ⟨m1, m2⟩ := made1 (f := f) (v := v) ha hd hda
  exact q a _ m1 ha m2
theorem pe_oneK (O : One X.prog X.w X.K X.mg X.base nm f C) (hR : Room 2 X.A) (hg : Gl X nm) (he : PE X e (tVar j)) (hdb : (nm == ("__debug__" : Str)) = false := by decide)
    (hall : (backToKw pos (keywordEach [⟨some f, e, k1⟩] X.env)).all (·.1.isSome) = true := by rfl) (hks : (backToKw pos (keywordEach [⟨some f, e, k1⟩] X.env)).filterMap (·.1) = [f] := by rfl)
    (hpl : ((backTo pos (starEach [] X.env)).any (·.1) || (backToKw pos (keywordEach [⟨some f, e, k1⟩] X.env)).any (·.1.isNone)) = false := by rfl) : PE X (.Call (.Name nm p) [] [⟨some f, e, k1⟩] pos) (tOne C f j) := by
  obtain ⟨fa, fd, N, F, b, sb⟩ := O.ini
  refine PE.imp (pe_errK N F hR hg O.gl sb pass0 (pk_cons he pk_nil) hall hks hdb hpl) fun σ H Q z => ?_
  obtain ⟨v, hv, q⟩ := z
  refine ⟨v, hv, rfl, fun a ha => ⟨a, v, rfl, upd_same, fun d hd hda => ⟨rfl, ?_⟩⟩⟩
  obtain ⟨m1, m2⟩ := made1 (f := f) (v := v) ha hd hda
  exact q a _ m1 ha m2
theorem pe_two (O : Two X.prog X.w X.K X.mg X.base nm f g C) (hR : Room 2 X.A) (hg : Gl X nm) (he : PE X e (tVar i)) (he2 : PE X e2 (tVar j)) (hdb : (nm == ("__debug__" : Str)) = false := by decide) (hs : starEach [e, e2] X.env = (false, eval e X.env) :: starEach [e2] X.env := by rfl)
    (hs2 : starEach [e2] X.env = (false, eval e2 X.env) :: starEach [] X.env := by rfl) (hpl : (backTo pos (starEach [e2] X.env)).any (·.1) = false := by rfl) : PE X (.Call (.Name nm p) [e, e2] [] pos) (tTwo C f g i j) := by
  obtain ⟨fa, fd, N, F, b, sb⟩ := O.ini
  refine PE.imp (pe_err N F hR hg O.gl b pass0 (pa_cons he (pa_cons he2 pa_nil hs2) hs) hdb hs hpl) fun σ H Q z => ?_
  obtain ⟨v, u, hv, hu, q⟩ := z
  refine ⟨v, hv, u, hu, Nat.le_of_ble_eq_true rfl, fun a ha => ⟨a, v, u, rfl, upd_same, fun d hd hda => ⟨rfl, ?_⟩⟩⟩
  obtain ⟨m1, m2⟩ := made2 (f := f) (g := g) (v := v) (u := u) ha hd hda
  exact q a _ m1 ha m2
theorem pe_twoK (O : Two X.prog X.w X.K X.mg X.base nm f g C) (hR : Room 2 X.A) (hg : Gl X nm) (he : PE X e (tVar i)) (he2 : PE X e2 (tVar j)) (hdb : (nm == ("__debug__" : Str)) = false := by decide)
    (hall : (backToKw pos (keywordEach [⟨some g, e2, k1⟩, ⟨some f, e, k2⟩] X.env)).all (·.1.isSome) = true := by rfl) (hks : (backToKw pos (keywordEach [⟨some g, e2, k1⟩, ⟨some f, e, k2⟩] X.env)).filterMap (·.1) = [g, f] := by rfl)
    (hpl : ((backTo pos (starEach [] X.env)).any (·.1) || (backToKw pos (keywordEach [⟨some g, e2, k1⟩, ⟨some f, e, k2⟩] X.env)).any (·.1.isNone)) = false := by rfl) : PE X (.Call (.Name nm p) [] [⟨some g, e2, k1⟩, ⟨some f, e, k2⟩] pos) (tTwo C f g i j) := by
  obtain ⟨fa, fd, N, F, b, sb⟩ := O.ini
  refine PE.imp (pe_errK N F hR hg O.gl sb pass0 (pk_cons he2 (pk_cons he pk_nil)) hall hks hdb hpl) fun σ H Q z => ?_
  obtain ⟨v, u, hv, hu, q⟩ := z
  refine ⟨u, hu, v, hv, rfl, fun a ha => ⟨a, v, u, rfl, upd_same, fun d hd hda => ⟨rfl, ?_⟩⟩⟩
  obtain ⟨m1, m2⟩ := made2 (f := f) (g := g) (v := v) (u := u) ha hd hda
  exact q a _ m1 ha m2
end
/-! ### a row of such: instances of Cs with the field f holding v -/
abbrev Er (H : Hp) (f : Str) (v : V) (x : V) (C : Addr) : Prop := ∃ a, x = .ref a ∧ ErrAt H a C [(f, v)]
abbrev Errs (H : Hp) (f : Str) (v : V) (xs : List V) (Cs : List Addr) : Prop := Paired (Er H f v) xs Cs
theorem Errs.keep {H H' : Hp} {f : Str} {v : V} {xs : List V} {Cs : List Addr} (h : Errs H f v xs Cs) (s : Same H H') : Errs H' f v xs Cs :=
  Paired.mapP h fun x C ⟨a, e, k⟩ => ⟨a, e, k.keep s⟩
theorem Errs.app {H : Hp} {f : Str} {v : V} : ∀ {xs : List V} {Cs : List Addr} {ys : List V} {Ds : List Addr}, Errs H f v xs Cs → Errs H f v ys Ds → Errs H f v (xs ++ ys) (Cs ++ Ds)
  | _, _, _, _, .nil, h => h
  | _, _, _, _, .cons r t, h => .cons r (Errs.app t h)
def tOnes (f : Str) (j : Nat) (Cs : List Addr) : TA := fun σ H Q => ∃ v, σ[j]? = some (some v) ∧ ∀ xs H', Same H H' → Errs H' f v xs Cs → Q xs H'
theorem po_nil1 {X : Cx} {f : Str} {j : Nat} : PA X [] (tOnes f j []) := PA.imp pa_nil fun σ H Q ⟨v, _, q⟩ => q [] H same_rfl .nil
theorem po_cons1 {X : Cx} {f : Str} {j : Nat} {C : Addr} {Cs : List Addr} {e : Expr} {es : List Expr} (he : PE X e (tOne C f j)) (hr : PA X es (tOnes f j Cs)) (hs : starEach (e :: es) X.env = (false, eval e X.env) :: starEach es X.env := by rfl) :
    PA X (e :: es) (tOnes f j (C :: Cs)) :=
  PA.imp (pa_cons he hr hs) fun σ H Q ⟨v, hv, q⟩ => ⟨v, hv, fun a H1 s1 n1 e1 => ⟨v, hv, fun xs H2 s2 e2 => q _ H2 (s1.trans s2) (.cons ⟨a, rfl, e1.keep s2⟩ e2)⟩⟩
/-! ### isinstance asked of one name, for a row of classes -/
def IsAt (K : PySem.W.Frag) (H : Hp) (x : V) (C : Addr) : Prop := ∃ a, x = .ref a ∧ XC K C ∧ ((∃ fs, ErrAt H a C fs) ∨ H a = some (ExO (.ref C) a))
theorem IsAt.keep {K : PySem.W.Frag} {H H' : Hp} {x : V} {C : Addr} (h : IsAt K H x C) (s : Same H H') : IsAt K H' x C := by
  obtain ⟨a, e, T, q⟩ := h
  refine ⟨a, e, T, ?_⟩
  rcases q with ⟨fs, q⟩ | q
  · exact .inl ⟨fs, q.keep s⟩
  · exact .inr (s _ _ q)
def tIss (K : PySem.W.Frag) (j : Nat) (us : List Value) : TA := fun σ H Q => ∃ (x : V) (C : Addr) (bs : List Bool), σ[j]? = some (some x) ∧ IsAt K H x C ∧ us.map (PySem.W.kitOne K (.ref C)) = bs.map some ∧ Q (bs.map V.bl) H
theorem pi_nil1 {X : Cx} {j : Nat} : PA X [] (tIss X.K j []) := PA.imp pa_nil fun σ H Q ⟨x, C, bs, _, _, e, q⟩ => by
  cases bs with
  | nil => exact q
  | cons b r => cases e
theorem pi_cons1 {X : Cx} {j : Nat} {e c : Expr} {cv : V} {u : Value} {us : List Value} {es : List Expr} {p pos : Pos} (hg : Gl X "isinstance") (hm : X.mg "isinstance" = none) (he : PE X e (tVar j)) (hc : PE X c (tC cv)) (k : ClsV cv u) (hr : PA X es (tIss X.K j us))
    (hs : starEach (.Call (.Name "isinstance" p) [e, c] [] pos :: es) X.env = (false, eval (.Call (.Name "isinstance" p) [e, c] [] pos) X.env) :: starEach es X.env := by rfl) (hs1 : starEach [e, c] X.env = (false, eval e X.env) :: starEach [c] X.env := by rfl) (hs2 : starEach [c] X.env = (false, eval c X.env) :: starEach [] X.env := by rfl) (hpl : (backTo pos (starEach [c] X.env)).any (·.1) = false := by rfl) :
    PA X (.Call (.Name "isinstance" p) [e, c] [] pos :: es) (tIss X.K j (u :: us)) :=
  PA.imp (pa_cons (pe_callB call_isX hg hm boot_isinstance (pa_cons he (pa_cons hc pa_nil hs2) hs1) (by decide) (by decide) hs1 hpl) hr hs) fun σ H Q ⟨x, C, bs, hx, hi, e, q⟩ => by
    cases bs with
    | nil => cases e
    | cons b r =>
      have e1 : PySem.W.kitOne X.K (.ref C) u = some b := (List.cons.inj e).1
      have e2 : us.map (PySem.W.kitOne X.K (.ref C)) = r.map some := (List.cons.inj e).2
      obtain ⟨a, ea, T, z⟩ := hi
      subst ea
      exact ⟨.ref a, hx, a, C, cv, u, b, rfl, k, T, z, e1, .ref a, C, r, hx, ⟨a, rfl, T, z⟩, e2, q⟩
end Gd
set_option Elab.async false
set_option linter.all false
set_option maxRecDepth 100000
set_option maxHeartbeats 4000000
namespace Gd
open PySem PySem.Spec PyProof.Rows L2
theorem yes_of {σ : L2.St} {H : Hp} {Q : Bool → Hp → Prop} (h : Q true H) : tYes σ H Q := h
theorem yes_if {σ : L2.St} {H : Hp} {A B : Hp → Prop} (h : A H) : tYes σ H (fun b H3 => if b = true then A H3 else B H3) := yes_of (iteT (A := A H) (B := B H) h)
/-- a comprehension over a list: one name as the target, no test -/
theorem lc_listY {K : PySem.W.Frag} {a : Addr} {xs : List V} {j : Nat} {te : TE} {vs : List Nat} {σ : L2.St} {H1 : Hp} {D : Addr} {Qd : Hp → Prop} (Pv : Nat → Hp → Prop) (hw : ∀ v, wipe ((wipe σ vs).set j (some v)) vs = wipe σ vs) (h0 : Pv 0 (upd H1 D (.lst []))) (hl : ∀ i H, i ≤ xs.length → Pv i H → SqL K H a xs)
    (hs : ∀ (i : Nat) (x : V) (H : Hp), xs[i]? = some x → Pv i H → te ((wipe σ vs).set j (some x)) H fun y H4 => ∃ acc, H4 D = some (.lst acc) ∧ acc.length < sizeLine ∧ Pv (i + 1) (upd H4 D (.lst (acc ++ [y]))))
    (hd : ∀ H, Pv xs.length H → Qd H) : ∃ W : Nat → Nat → Hp → Prop, (∃ m, W 0 m (upd H1 D (.lst []))) ∧ ∀ i m H, W i m H →
      ((Itl K a).stop i H ∧ Qd H) ∨ ((Itl K a).go i H ∧ ∃ Nx : Hp → Prop, (∀ H', Nx H' → ∃ m', m' < m ∧ W (i + 1) m' H') ∧ ∀ v H', (Itl K a).yld i H v H' → gName j v (wipe σ vs) H' fun τ H2 => wipe τ vs = wipe σ vs ∧ tYes τ H2 fun b H3 =>
        if b = true then te τ H3 fun y H4 => ∃ acc, H4 D = some (.lst acc) ∧ acc.length < sizeLine ∧ Nx (upd H4 D (.lst (acc ++ [y]))) else Nx H3) :=
  lc_list Pv h0 hl (fun i x H e p => ⟨hw _, yes_if (hs i x H e p)⟩) hd
/-- the same, each element worth the same thing y, what stood stands -/
theorem lc_same {K : PySem.W.Frag} {a : Addr} {xs : List V} {y : V} {j : Nat} {te : TE} {vs : List Nat} {σ : L2.St} {H1 : Hp} {D : Addr} {Qd : Hp → Prop} (hw : ∀ v, wipe ((wipe σ vs).set j (some v)) vs = wipe σ vs) (nD : H1 D = none) (hx : SqL K H1 a xs) (hz : xs.length ≤ 1000)
    (hs : ∀ (i : Nat) (x : V) (H : Hp), xs[i]? = some x → Same H1 H → ∀ q : VK, (∀ H4, Same H H4 → q y H4) → te ((wipe σ vs).set j (some x)) H q)
    (hd : ∀ H, Same H1 H → H D = some (.lst (List.replicate xs.length y)) → Qd H) : ∃ W : Nat → Nat → Hp → Prop, (∃ m, W 0 m (upd H1 D (.lst []))) ∧ ∀ i m H, W i m H →
      ((Itl K a).stop i H ∧ Qd H) ∨ ((Itl K a).go i H ∧ ∃ Nx : Hp → Prop, (∀ H', Nx H' → ∃ m', m' < m ∧ W (i + 1) m' H') ∧ ∀ v H', (Itl K a).yld i H v H' → gName j v (wipe σ vs) H' fun τ H2 => wipe τ vs = wipe σ vs ∧ tYes τ H2 fun b H3 =>
        if b = true then te τ H3 fun y H4 => ∃ acc, H4 D = some (.lst acc) ∧ acc.length < sizeLine ∧ Nx (upd H4 D (.lst (acc ++ [y]))) else Nx H3) := by
  refine lc_listY (fun i H => i ≤ xs.length ∧ Same H1 H ∧ H D = some (.lst (List.replicate i y))) hw ⟨Nat.zero_le _, fun b o e => ?_, upd_same⟩ (fun i H _ p => p.2.1.seq hx) ?_ fun H p => hd H p.2.1 p.2.2
  · rw [upd_ne (ne_of_none e nD)]
    exact e
  · rintro i x H e ⟨hi, s, eD⟩
    have hlt : i < xs.length := (List.getElem?_eq_some_iff.mp e).1
    refine hs i x H e s _ fun H4 s4 => ⟨_, s4 _ _ eD, ?_, hlt, fun b o e2 => ?_, ?_⟩
    · rw [List.length_replicate]
      exact small1000 (by omega)
    · rw [upd_ne (ne_of_none e2 nD)]
      exact s4 _ _ (s _ _ e2)
    · rw [upd_same, List.replicate_succ']
/-! ### how long a list is shown -/
theorem textFrom_le : ∀ (ts : List Str) (k : Nat) (acc : Str) (b : Nat), (∀ t ∈ ts, t.length ≤ b) → (textFrom k acc ts).length ≤ acc.length + ts.length * (b + 2)
  | [], k, acc, b, _ => by show acc.length ≤ _; omega
  | t :: r, k, acc, b, h => by
    have ih := textFrom_le r (k + 1) (acc ++ (if k > 0 then ", " else "" : String) ++ t) b fun x hx => h x (List.mem_cons_of_mem _ hx)
    have ht := h t (List.mem_cons_self ..)
    have e : (acc ++ ((if k > 0 then ", " else "" : String) : Str) ++ t).length ≤ acc.length + 2 + t.length := by
      rw [Str.length_append, Str.length_append]
      have : (((if k > 0 then ", " else "" : String) : Str)).length ≤ 2 := by split <;> decide +kernel
      omega
    show (textFrom (k + 1) (acc ++ (if k > 0 then ", " else "" : String) ++ t) r).length ≤ _
    rw [List.length_cons, Nat.add_mul, Nat.one_mul]
    omega
theorem listText_le {ts : List Str} {b : Nat} (h : ∀ t ∈ ts, t.length ≤ b) : (listText ts).length ≤ 2 + ts.length * (b + 2) := by
  have := textFrom_le ts 0 "[" b h
  have e1 : (Str.ofString "[").length = 1 := by decide +kernel
  have e2 : (Str.ofString "]").length = 1 := by decide +kernel
  show (textFrom 0 "[" ts ++ "]").length ≤ _
  rw [Str.length_append]
  have e3 : (textFrom 0 (Str.ofString "[") ts).length ≤ (Str.ofString "[").length + ts.length * (b + 2) := this
  show (textFrom 0 (Str.ofString "[") ts).length + (Str.ofString "]").length ≤ _
  omega
/-- a thing that is shown in few signs -/
structure Sh (K : PySem.W.Frag) (H : Hp) (v : V) (d : PyData) : Prop where
  at_ : Dp K H v d
  sh : d.showable = true
  nd : d.hasDict = false
  dp : d.depth ≤ 20
  ln : d.shown.length ≤ 100
theorem shownAll_map : ∀ ds : List PyData, PyData.shownAll ds = ds.map PyData.shown
  | [] => rfl
  | d :: r => by rw [PyData.shownAll, shownAll_map r]; rfl
theorem sh_list {ds : List PyData} (h : ∀ d ∈ ds, d.showable = true ∧ d.hasDict = false ∧ d.depth ≤ 20 ∧ d.shown.length ≤ 100) (hl : ds.length ≤ 100) :
    (PyData.list ds).showable = true ∧ (PyData.list ds).hasDict = false ∧ (PyData.list ds).depth ≤ 60 ∧ (PyData.list ds).shown.length ≤ sizeLine := by
  have h1 : ∀ ds : List PyData, (∀ d ∈ ds, d.showable = true) → PyData.showableAll ds = true := by
    intro ds h
    induction ds with
    | nil => rfl
    | cons d r ih => rw [PyData.showableAll, h d (List.mem_cons_self ..), ih fun x hx => h x (List.mem_cons_of_mem _ hx)]; rfl
  have h2 : ∀ ds : List PyData, (∀ d ∈ ds, d.hasDict = false) → PyData.hasDictAll ds = false := by
    intro ds h
    induction ds with
    | nil => rfl
    | cons d r ih => rw [PyData.hasDictAll, h d (List.mem_cons_self ..), ih fun x hx => h x (List.mem_cons_of_mem _ hx)]; rfl
  have h3 : ∀ ds : List PyData, (∀ d ∈ ds, d.depth ≤ 20) → PyData.depthAll ds ≤ 21 := by
    intro ds h
    induction ds with
    | nil => show 0 ≤ _; omega
    | cons d r ih =>
      have a := h d (List.mem_cons_self ..)
      have b := ih fun x hx => h x (List.mem_cons_of_mem _ hx)
      rw [PyData.depthAll]
      omega
  refine ⟨?_, ?_, ?_, ?_⟩
  · rw [PyData.showable]
    exact h1 ds fun d hd => (h d hd).1
  · rw [PyData.hasDict]
    exact h2 ds fun d hd => (h d hd).2.1
  · have := h3 ds fun d hd => (h d hd).2.2.1
    rw [PyData.depth]
    omega
  · rw [PyData.shown]
    have := listText_le (ts := PyData.shownAll ds) (b := 100) (by
      rw [shownAll_map]
      intro t ht
      obtain ⟨d, hd, rfl⟩ := List.mem_map.mp ht
      exact (h d hd).2.2.2)
    rw [shownAll_map, List.length_map] at this
    have z : ds.length * 102 ≤ 100 * 102 := Nat.mul_le_mul_right _ hl
    have w := sizeLine_eq
    rw [shownAll_map]
    omega
theorem sh_rep {K : PySem.W.Frag} {H : Hp} {v : V} {d : PyData} (S : Sh K H v d) : ∀ n, DpAll K H (List.replicate n v) (List.replicate n d)
  | 0 => .nil
  | n + 1 => .cons S.at_ (sh_rep S n)
end Gd
set_option Elab.async false
set_option linter.all false
set_option maxRecDepth 100000
set_option maxHeartbeats 4000000
/-! comprehensions over a tuple, a list: one name as the target, a test, each element's answer and value known -/
namespace Gd
open PySem PySem.Spec PyProof.Rows L2
theorem asTE {X : Cx} {e : Expr} {te te' : TE} (h : PE X e te') (q : te' = te) : PE X e te := q ▸ h
def picked (zs : List (Bool × V)) : List V := (zs.filter (·.1)).map (·.2)
theorem picked_take {zs : List (Bool × V)} {i : Nat} {z : Bool × V} (h : zs[i]? = some z) : picked (zs.take (i + 1)) = picked (zs.take i) ++ (if z.1 = true then [z.2] else []) := by
  unfold picked
  rw [List.take_add_one, h, List.filter_append, List.map_append]
  congr 1
  cases hb : z.1 <;> simp [hb]
theorem picked_len (zs : List (Bool × V)) : (picked zs).length ≤ zs.length := by
  unfold picked
  rw [List.length_map]
  exact List.length_filter_le ..
theorem picked_all {zs : List V} : picked (zs.map fun z => (true, z)) = zs := by
  unfold picked
  induction zs with
  | nil => rfl
  | cons z r ih => simpa using ih
section
variable {K : PySem.W.Frag} {a : Addr} {xs : List V} {zs : List (Bool × V)} {j : Nat} {tt : TT} {te : TE} {vs : List Nat} {σ : L2.St} {H1 : Hp} {D : Addr} {Qd : Hp → Prop}
theorem sel_step (hw : ∀ v, wipe ((wipe σ vs).set j (some v)) vs = wipe σ vs) (nD : H1 D = none) (hz : xs.length ≤ 1000) (hl : zs.length = xs.length)
    (hs : ∀ (i : Nat) (x : V) (z : Bool × V) (H : Hp), xs[i]? = some x → zs[i]? = some z → Same H1 H → ∀ q : Bool → Hp → Prop, (∀ H3, Same H H3 → q z.1 H3) → tt ((wipe σ vs).set j (some x)) H q)
    (he : ∀ (i : Nat) (x : V) (z : Bool × V) (H : Hp), xs[i]? = some x → zs[i]? = some z → z.1 = true → Same H1 H → ∀ q : VK, (∀ H4, Same H H4 → q z.2 H4) → te ((wipe σ vs).set j (some x)) H q)
    (i : Nat) (x : V) (H : Hp) (hx : xs[i]? = some x) (p : i ≤ xs.length ∧ Same H1 H ∧ H D = some (.lst (picked (zs.take i)))) :
    gName j x (wipe σ vs) H fun τ H2 => wipe τ vs = wipe σ vs ∧ tt τ H2 fun b H3 =>
      if b = true then te τ H3 fun y H4 => ∃ acc, H4 D = some (.lst acc) ∧ acc.length < sizeLine ∧ (fun i H => i ≤ xs.length ∧ Same H1 H ∧ H D = some (.lst (picked (zs.take i)))) (i + 1) (upd H4 D (.lst (acc ++ [y])))
      else (fun i H => i ≤ xs.length ∧ Same H1 H ∧ H D = some (.lst (picked (zs.take i)))) (i + 1) H3 := by
  obtain ⟨hi, s, eD⟩ := p
  have hlt : i < xs.length := (List.getElem?_eq_some_iff.mp hx).1
  obtain ⟨z, hzi⟩ : ∃ z, zs[i]? = some z := ⟨_, List.getElem?_eq_getElem (by omega)⟩
  have pt := picked_take hzi
  refine ⟨hw _, hs i x z H hx hzi s _ fun H3 s3 => ?_⟩
  cases hb : z.1 with
  | true =>
    rw [hb] at pt
    refine iteT (he i x z H3 hx hzi hb (s.trans s3) _ fun H4 s4 => ⟨_, s4 _ _ (s3 _ _ eD), ?_, hlt, fun b o e2 => ?_, ?_⟩)
    · have := picked_len (zs.take i)
      rw [List.length_take] at this
      exact small1000 (by omega)
    · rw [upd_ne (ne_of_none e2 nD)]
      exact s4 _ _ (s3 _ _ (s _ _ e2))
    · rw [upd_same, pt]
      rfl
  | false =>
    rw [hb] at pt
    refine iteF ⟨hlt, s.trans s3, ?_⟩
    rw [pt]
    show H3 D = some (.lst (picked (zs.take i) ++ []))
    rw [List.append_nil]
    exact s3 _ _ eD
theorem lc_selT (hw : ∀ v, wipe ((wipe σ vs).set j (some v)) vs = wipe σ vs) (nD : H1 D = none) (hx : SqT K H1 a xs) (hz : xs.length ≤ 1000) (hl : zs.length = xs.length)
    (hs : ∀ (i : Nat) (x : V) (z : Bool × V) (H : Hp), xs[i]? = some x → zs[i]? = some z → Same H1 H → ∀ q : Bool → Hp → Prop, (∀ H3, Same H H3 → q z.1 H3) → tt ((wipe σ vs).set j (some x)) H q)
    (he : ∀ (i : Nat) (x : V) (z : Bool × V) (H : Hp), xs[i]? = some x → zs[i]? = some z → z.1 = true → Same H1 H → ∀ q : VK, (∀ H4, Same H H4 → q z.2 H4) → te ((wipe σ vs).set j (some x)) H q)
    (hd : ∀ H, Same H1 H → H D = some (.lst (picked zs)) → Qd H) : ∃ W : Nat → Nat → Hp → Prop, (∃ m, W 0 m (upd H1 D (.lst []))) ∧ ∀ i m H, W i m H →
      ((Itt K a).stop i H ∧ Qd H) ∨ ((Itt K a).go i H ∧ ∃ Nx : Hp → Prop, (∀ H', Nx H' → ∃ m', m' < m ∧ W (i + 1) m' H') ∧ ∀ v H', (Itt K a).yld i H v H' → gName j v (wipe σ vs) H' fun τ H2 => wipe τ vs = wipe σ vs ∧ tt τ H2 fun b H3 =>
        if b = true then te τ H3 fun y H4 => ∃ acc, H4 D = some (.lst acc) ∧ acc.length < sizeLine ∧ Nx (upd H4 D (.lst (acc ++ [y]))) else Nx H3) :=
  lc_tup (fun i H => i ≤ xs.length ∧ Same H1 H ∧ H D = some (.lst (picked (zs.take i)))) ⟨Nat.zero_le _, fun b o e => by rw [upd_ne (ne_of_none e nD)]; exact e, upd_same⟩ (fun i H _ p => SqT.ext hx p.2.1)
    (sel_step hw nD hz hl hs he) fun H p => hd H p.2.1 (by have := p.2.2; rw [← hl, List.take_length] at this; exact this)
theorem lc_selL (hw : ∀ v, wipe ((wipe σ vs).set j (some v)) vs = wipe σ vs) (nD : H1 D = none) (hx : SqL K H1 a xs) (hz : xs.length ≤ 1000) (hl : zs.length = xs.length)
    (hs : ∀ (i : Nat) (x : V) (z : Bool × V) (H : Hp), xs[i]? = some x → zs[i]? = some z → Same H1 H → ∀ q : Bool → Hp → Prop, (∀ H3, Same H H3 → q z.1 H3) → tt ((wipe σ vs).set j (some x)) H q)
    (he : ∀ (i : Nat) (x : V) (z : Bool × V) (H : Hp), xs[i]? = some x → zs[i]? = some z → z.1 = true → Same H1 H → ∀ q : VK, (∀ H4, Same H H4 → q z.2 H4) → te ((wipe σ vs).set j (some x)) H q)
    (hd : ∀ H, Same H1 H → H D = some (.lst (picked zs)) → Qd H) : ∃ W : Nat → Nat → Hp → Prop, (∃ m, W 0 m (upd H1 D (.lst []))) ∧ ∀ i m H, W i m H →
      ((Itl K a).stop i H ∧ Qd H) ∨ ((Itl K a).go i H ∧ ∃ Nx : Hp → Prop, (∀ H', Nx H' → ∃ m', m' < m ∧ W (i + 1) m' H') ∧ ∀ v H', (Itl K a).yld i H v H' → gName j v (wipe σ vs) H' fun τ H2 => wipe τ vs = wipe σ vs ∧ tt τ H2 fun b H3 =>
        if b = true then te τ H3 fun y H4 => ∃ acc, H4 D = some (.lst acc) ∧ acc.length < sizeLine ∧ Nx (upd H4 D (.lst (acc ++ [y]))) else Nx H3) :=
  lc_list (fun i H => i ≤ xs.length ∧ Same H1 H ∧ H D = some (.lst (picked (zs.take i)))) ⟨Nat.zero_le _, fun b o e => by rw [upd_ne (ne_of_none e nD)]; exact e, upd_same⟩ (fun i H _ p => SqL.ext hx p.2.1)
    (sel_step hw nD hz hl hs he) fun H p => hd H p.2.1 (by have := p.2.2; rw [← hl, List.take_length] at this; exact this)
/-- without a test -/
theorem lc_funT {ys : List V} (hw : ∀ v, wipe ((wipe σ vs).set j (some v)) vs = wipe σ vs) (nD : H1 D = none) (hx : SqT K H1 a xs) (hz : xs.length ≤ 1000) (hl : ys.length = xs.length)
    (he : ∀ (i : Nat) (x y : V) (H : Hp), xs[i]? = some x → ys[i]? = some y → Same H1 H → ∀ q : VK, (∀ H4, Same H H4 → q y H4) → te ((wipe σ vs).set j (some x)) H q)
    (hd : ∀ H, Same H1 H → H D = some (.lst ys) → Qd H) : ∃ W : Nat → Nat → Hp → Prop, (∃ m, W 0 m (upd H1 D (.lst []))) ∧ ∀ i m H, W i m H →
      ((Itt K a).stop i H ∧ Qd H) ∨ ((Itt K a).go i H ∧ ∃ Nx : Hp → Prop, (∀ H', Nx H' → ∃ m', m' < m ∧ W (i + 1) m' H') ∧ ∀ v H', (Itt K a).yld i H v H' → gName j v (wipe σ vs) H' fun τ H2 => wipe τ vs = wipe σ vs ∧ tYes τ H2 fun b H3 =>
        if b = true then te τ H3 fun y H4 => ∃ acc, H4 D = some (.lst acc) ∧ acc.length < sizeLine ∧ Nx (upd H4 D (.lst (acc ++ [y]))) else Nx H3) := by
  refine lc_selT (zs := ys.map fun y => (true, y)) hw nD hx hz (by rw [List.length_map, hl]) (fun i x z H _ e _ q k => ?_) (fun i x z H ex e _ s q k => ?_) fun H s e => hd H s (by rw [picked_all] at e; exact e)
  · rw [List.getElem?_map] at e
    cases ey : ys[i]? with
    | none => rw [ey] at e; cases e
    | some y =>
      rw [ey] at e
      cases e
      exact k H fun _ _ e => e
  · rw [List.getElem?_map] at e
    cases ey : ys[i]? with
    | none => rw [ey] at e; cases e
    | some y =>
      rw [ey] at e
      cases e
      exact he i x y H ex ey s q k
theorem lc_funL {ys : List V} (hw : ∀ v, wipe ((wipe σ vs).set j (some v)) vs = wipe σ vs) (nD : H1 D = none) (hx : SqL K H1 a xs) (hz : xs.length ≤ 1000) (hl : ys.length = xs.length)
    (he : ∀ (i : Nat) (x y : V) (H : Hp), xs[i]? = some x → ys[i]? = some y → Same H1 H → ∀ q : VK, (∀ H4, Same H H4 → q y H4) → te ((wipe σ vs).set j (some x)) H q)
    (hd : ∀ H, Same H1 H → H D = some (.lst ys) → Qd H) : ∃ W : Nat → Nat → Hp → Prop, (∃ m, W 0 m (upd H1 D (.lst []))) ∧ ∀ i m H, W i m H →
      ((Itl K a).stop i H ∧ Qd H) ∨ ((Itl K a).go i H ∧ ∃ Nx : Hp → Prop, (∀ H', Nx H' → ∃ m', m' < m ∧ W (i + 1) m' H') ∧ ∀ v H', (Itl K a).yld i H v H' → gName j v (wipe σ vs) H' fun τ H2 => wipe τ vs = wipe σ vs ∧ tYes τ H2 fun b H3 =>
        if b = true then te τ H3 fun y H4 => ∃ acc, H4 D = some (.lst acc) ∧ acc.length < sizeLine ∧ Nx (upd H4 D (.lst (acc ++ [y]))) else Nx H3) := by
  refine lc_selL (zs := ys.map fun y => (true, y)) hw nD hx hz (by rw [List.length_map, hl]) (fun i x z H _ e _ q k => ?_) (fun i x z H ex e _ s q k => ?_) fun H s e => hd H s (by rw [picked_all] at e; exact e)
  · rw [List.getElem?_map] at e
    cases ey : ys[i]? with
    | none => rw [ey] at e; cases e
    | some y =>
      rw [ey] at e
      cases e
      exact k H fun _ _ e => e
  · rw [List.getElem?_map] at e
    cases ey : ys[i]? with
    | none => rw [ey] at e; cases e
    | some y =>
      rw [ey] at e
      cases e
      exact he i x y H ex ey s q k
end
end Gd
set_option Elab.async false
set_option linter.all false
set_option maxRecDepth 100000
set_option maxHeartbeats 4000000
/-! a tuple that tuple(..) has made, its object known: its methods may be called -/
namespace Gd
open PySem PySem.Spec PyProof.Rows L2
def FzT (H : Hp) (a : Addr) (xs : List V) : Prop := ∃ o : Obj, H a = some (.frz o (.tup xs)) ∧ o.cls = .type "tuple" ∧ o.dict = none
theorem FzT.sq {K : PySem.W.Frag} {H : Hp} {a : Addr} {xs : List V} (h : FzT H a xs) : SqT K H a xs := by
  obtain ⟨o, e, _⟩ := h
  exact .inl (.inr ⟨o, e⟩)
theorem FzT.keep {H H' : Hp} {a : Addr} {xs : List V} (h : FzT H a xs) (s : Same H H') : FzT H' a xs := by
  obtain ⟨o, e, r⟩ := h
  exact ⟨o, s _ _ e, r⟩
theorem FzT.ty {K : PySem.W.Frag} {H : Hp} {a : Addr} {xs : List V} (h : FzT H a xs) : TyX K H (.ref a) (.type "tuple") := by
  obtain ⟨o, e, r⟩ := h
  exact .fTuple e
section
variable {X : Cx} {ta : TE} {a : Expr}
/-- tuple(x), x a list: a new tuple, known -/
def kTupF (K : PySem.W.Frag) (x : V) (H : Hp) (Q : VK) : Prop := ∃ p xs, x = .ref p ∧ SqL K H p xs ∧ ∀ q H', H q = none → Same H H' → FzT H' q xs → Q (.ref q) H'
theorem rl_tupF (pins : List (Addr × Obj)) (s : Shared) (σ : L2.St) (H : Hp) (x : V) (v : Value) (Q : VK) (I : Inv X pins σ H s) (r : RelV x v) (h : kTupF X.K x H Q) : wpAny (model X.prog X.w) X.A (call (.type "tuple") [v]) (EP X pins σ Q) X.xe s := by
  obtain ⟨p, xs, rfl, hs, q⟩ := h
  obtain rfl : v = .ref p := r
  obtain ⟨its, rv, pl, hz⟩ := I.list hs
  refine call_tuple_list pl.isList (fun h' hk => ?_) (by rw [List.size_toArray, ← rv.length]; exact hz)
  have J : Inv X pins σ H { s with heap := h' } := I.kept (t' := s.toks) hk
  have hf : H h'.objs.size = none := J.hok.fresh (Nat.le_refl _)
  have J2 : Inv X pins σ (upd H h'.objs.size (.frz { cls := .type "tuple", data := .seq its.toArray } (.tup xs))) { s with heap := h'.push { cls := .type "tuple", data := .seq its.toArray } } :=
    J.laid (t' := s.toks) (fun b o e => Heap.get?_push_of_some _ e) (Nat.le_refl _) ⟨Heap.get?_push_size _ rfl, hz, its, rv, IsTup.new _ _⟩
  exact ⟨.ref h'.objs.size, _, J2, rfl, q _ _ hf (fun b o e => by rw [upd_ne (ne_of_none e hf)]; exact e) ⟨_, upd_same, rfl, rfl⟩⟩
theorem pe_tupF {p pos : Pos} (hg : Gl X "tuple") (hm : X.mg "tuple" = none) (ha : PE X a ta) (na : starEach [a] X.env = (false, eval a X.env) :: starEach [] X.env := by rfl) : PE X (.Call (.Name "tuple" p) [a] [] pos) (tThen ta (kTupF X.K)) :=
  ⟨fun pins s σ H Q I h => Call_ (ld_blt I hg hm boot_tuple (PyProof.Rows.callWith_type1 (one_arg ha I h (fun v s2 x H2 I2 r q => rl_tupF pins s2 σ H2 x v Q I2 r q) na) na))⟩
/-- t.m(e, ..), t such a tuple -/
def tBMf (r : V → List V → Hp → VK → Prop) (to : TE) (t : TA) : TE := fun σ H Q => to σ H fun x H1 => (∃ b xs, x = .ref b ∧ FzT H1 b xs) ∧ t σ H1 fun xs H2 => r x xs H2 Q
theorem pe_bmf {o e : Expr} {es : List Expr} {to : TE} {t : TA} {name : Str} {apos cpos : Pos} {id : String} {r : V → List V → Hp → VK → Prop} (slot : Slot "tuple" name id) (hty : typeOf (.builtin id) = pure (.type "method_descriptor")) (hm : MtR X id r) (ho : PE X o to) (ha : PA X (e :: es) t)
    (hbase : attributeBase o name X.env (eval o X.env) = eval o X.env := by rfl)
    (hfew : ((backTo cpos (starEach (e :: es) X.env)).all (fun x => !x.1) && (backToKw cpos (keywordEach [] X.env)).all (fun x => x.1.isSome) && decide ((e :: es).length + ([] : List Keyword).length + (if ([] : List Keyword).isEmpty then 0 else 1) < 30)) = true := by rfl)
    (hline : (apos.endLine == cpos.line) = true := by rfl) (hs : starEach (e :: es) X.env = (false, eval e X.env) :: starEach es X.env := by rfl) (hplain : (backTo cpos (starEach es X.env)).any (·.1) = false := by rfl) :
    PE X (.Call (.Attribute o name apos) (e :: es) [] cpos) (tBMf r to t) := by
  constructor
  intro pins s σ H Q I h
  refine wpAny_Call_method_late hbase hfew hline rfl (thn (ho.run pins s σ H _ I h) fun v s1 z => ?_)
  obtain ⟨x, H1, I1, r1, ⟨b, xs, ex, ob, e1, c1, d1⟩, q1⟩ := z
  subst ex
  have ev : v = Value.ref b := r1
  subst ev
  obtain ⟨g1, _⟩ := I1.hok b _ e1
  refine ⟨"tuple", id, PySem.F.plainAttrs_tuple, slot, hty, ⟨ob, g1, c1⟩, fun a ea => ?_, ?_⟩
  · cases ea
    exact ⟨ob, g1, d1⟩
  have hA := ha.run cpos pins s1 σ H1 _ I1 q1
  rw [hs] at hA ⊢
  refine Calls.callWith_builtin (by show (false || (backTo cpos (starEach es X.env)).any (·.1)) = false; rw [hplain] <;> rfl) (Calls.evalArgs_plain ?_)
  exact thn hA fun us s2 ⟨vs, H2, I2, r2, q2⟩ => hm pins s2 σ H2 (.ref b) vs (.ref b) us Q I2 rfl r2 q2
end
end Gd
set_option Elab.async false
set_option linter.all false
set_option maxRecDepth 100000
set_option maxHeartbeats 4000000
/-! enumerate(t), t a tuple -/
namespace Gd
open PySem PySem.Spec PyProof.Rows L2
/-- the tuple at t, each item in a new pair with its place -/
def Iet (K : PySem.W.Frag) (t : Addr) : It where
  go i H := ∃ (vs : List V) (v : V), SqT K H t vs ∧ vs[i]? = some v
  yld i H y H' := ∃ (p : Addr) (v : V), y = .ref p ∧ H p = none ∧ H' = upd H p (.tup [.int (i : Nat), v]) ∧ ∀ vs, SqT K H t vs → vs[i]? = some v
  stop i H := ∃ vs : List V, SqT K H t vs ∧ vs.length ≤ i
theorem turn_et {P : Program} {w : World} {K : PySem.W.Frag} {es : List Expr} {n : Nat} {ps : Pos} (t e j : Addr) :
    Turn P w K (.Tuple es n ps) (Iet K t) [e, j] e (fun i g => (∃ o, IsEnum g e j ((i : Nat) : Int) o) ∧ g.IsTupleIter j t i ∧ e ≠ j) := by
  refine ⟨List.mem_cons_self .., fun i g st b hb => ?_, fun i g g' st k => ?_, ?_, ?_, fun A i s Q E st q => ?_⟩
  · obtain ⟨⟨o, he⟩, ⟨oj, hj, cj, dj⟩, _⟩ := st
    rcases List.mem_cons.mp hb with rfl | hb
    · exact ⟨_, he, fun v q => nomatch q⟩
    · rw [List.mem_singleton.mp hb]
      exact ⟨oj, hj, fun v q => by rw [dj] at q; cases q⟩
  · obtain ⟨⟨o, he⟩, hj, ne⟩ := st
    exact ⟨⟨o, k e (List.mem_cons_self ..) _ he⟩, hj.at fun o q => k j (by simp) o q, ne⟩
  · intro X hP hw hK hc i pins s σ H E I hf st hg
    subst hP hw hK
    obtain ⟨⟨old, he⟩, hj, ne⟩ := st
    obtain ⟨vs, v, hq, hv⟩ := hg
    obtain ⟨its, rv, ht, _⟩ := I.tuple hq
    obtain ⟨u, hu, ru⟩ := rv.get hv
    have le : e < s.heap.objs.size := Heap.lt_size he
    have lj : j < s.heap.objs.size := by obtain ⟨_, q, _⟩ := hj; exact Heap.lt_size q
    have tup : s.heap.IsTuple t its.toArray := ht
    have nt : e ≠ t := fun q => by
      obtain ⟨o, ho, hcl, _⟩ := tup
      rw [← q, he] at ho
      cases ho
      exact absurd (Value.type.inj hcl) (by decide)
    have njt : t ≠ j := fun q => by
      obtain ⟨o, ho, hcl, _⟩ := tup
      obtain ⟨o2, ho2, hcl2, _⟩ := hj
      rw [q, ho2] at ho
      cases ho
      rw [hcl2] at hcl
      exact absurd (Value.type.inj hcl) (by decide)
    have D := Draws.tuple (prog := X.prog) (w := X.w) (A := X.A.in1) (show X.A.in1.handled = none from I.ok.hd hc) j t njt its.toArray
    have hlt : i < its.toArray.size := by
      have := (List.getElem?_eq_some_iff.mp hu).1
      simpa using this
    refine wpAny_pyNext_enum_itemD D he ⟨hj, tup⟩ hlt ne (by simp [ne, nt]) fun x h1 tk hx out st1 hT hsz hk => ?_
    have ex : x = u := by
      have h2 : its[i]? = some x := by simpa using hx
      rw [hu] at h2
      exact (Option.some.inj h2).symm
    subst ex
    refine ⟨_, rfl, wpAny_letOwnedTupleGo_enum (s := { s with heap := h1, toks := tk + 1 }) out fun h2 he2 sb => ?_⟩
    have T2 : h2.get? s.heap.objs.size = some { cls := .type "tuple", data := .seq #[.int i tk, x] } := (sb.2 _ (Nat.ne_of_gt le)).trans hT
    have new : ObjOk X.prog X.w (upd H s.heap.objs.size (.tup [.int (i : Nat), v])) h2 s.heap.objs.size (.tup [.int (i : Nat), v]) := by
      refine ⟨?_, [.int i tk, x], .cons ⟨_, rfl⟩ (.cons ru .nil), _, T2, rfl, _, rfl⟩
      show 2 ≤ sizeLine
      decide
    have in2 : ∀ b : Addr, b ∈ [e, j] → b = e ∨ b = j := fun b hb => by simpa using hb
    have J : Inv X pins σ (upd H s.heap.objs.size (.tup [.int (i : Nat), v])) { s with heap := h2, toks := tk + 1 } := by
      refine I.turnedNew (ch := [e, j]) (fun b o hb q => ?_) hf (Nat.le_refl _) new
      have n1 : b ≠ e := fun z => hb (by simp [z])
      have n2 : b ≠ j := fun z => hb (by simp [z])
      exact (sb.2 b n1).trans (hk b o n1 n2 q)
    refine ⟨.ref s.heap.objs.size, _, J, rfl, ⟨_, v, rfl, I.hok.fresh (Nat.le_refl _), rfl, fun ys hy => ?_⟩, ⟨⟨x, ?_⟩, st1.1.at fun o q => (sb.2 j (Ne.symm ne)).trans q, ne⟩, fun b hb => ?_⟩
    · rw [I.tuple_inj hy hq]
      exact hv
    · have q : ((i + 1 : Nat) : Int) = (i : Int) + 1 := by omega
      rw [q]
      exact he2
    · have lb : b < s.heap.objs.size := by rcases in2 b hb with z | z <;> rw [z] <;> assumption
      rw [upd_ne (Nat.ne_of_lt lb)]
      exact (hf b hb).1
  · intro X hP hw hK hc i pins s σ H E I hf st hg
    subst hP hw hK
    obtain ⟨⟨old, he⟩, hj, ne⟩ := st
    obtain ⟨vs, hq, hv⟩ := hg
    obtain ⟨its, rv, ht, _⟩ := I.tuple hq
    have tup : s.heap.IsTuple t its.toArray := ht
    obtain ⟨f0, f1, f2, f3, f4, f5⟩ := hf j (by simp)
    have ln := rv.length
    have njt : t ≠ j := fun q => by
      obtain ⟨o, ho, hcl, _⟩ := tup
      obtain ⟨o2, ho2, hcl2, _⟩ := hj
      rw [q, ho2] at ho
      cases ho
      rw [hcl2] at hcl
      exact absurd (Value.type.inj hcl) (by decide)
    refine wpAny_bind (wpAny_attempt (wpAny_callSpecial?_slot (name := Str.ofString "__next__") (T := "enumerate") ⟨_, he, rfl⟩ F.slot_enumerate_next (wpAny_call_entry F.slot_enumerate_next ⟨_, he, rfl⟩ F.entry_enumerate_next ?_ (F.args_enumerate_next_1 _))))
    show wpAny _ _ (field (.ref e) 2 >>= _) _ _ _
    refine wpAny_bind (wpAny_field he rfl (x := .ref j) rfl ?_)
    refine wpAny_bind (PySem.wpAny_nextOf_tuple_end (show X.A.in1.handled = none from I.ok.hd hc) hj tup (by simp; omega) fun h1 y sb hy => ?_)
    obtain ⟨o, ho, hcl⟩ := hy
    refine wpAny_bind (wpAny_isInstance (T := "StopIteration") (b := true) ⟨o, ho, hcl⟩ isSubtype_stop ?_)
    exact wpAny_pure ⟨rfl, I.turned (t' := s.toks) (fun b o hb q => sb b o hb q) f0 f1 f3 f4 f5⟩
  · obtain ⟨⟨_, he⟩, _⟩ := st
    exact wpAny_pyIter_enum he q
/-- enumerate.__new__ over what begins -/
theorem meets_enum1 {v : Value} {o : Obj} {S : Heap → Prop} (B : Begins v o S) :
    Meets (Builtin.«enumerate.__new__» ⟨[.type "enumerate", v], []⟩) (fun _ R s => S s.heap ∧
      R (.ok (.ret (.ref (s.heap.push o).objs.size))) { s with heap := (s.heap.push o).push { cls := .type "enumerate", data := .fields #[.none, .bool false, .ref s.heap.objs.size, rawInt 0, .none, .none] } }) := by
  refine .of_wp fun prog w A R s z => ?_
  obtain ⟨hp, gs, dr, tk, os⟩ := s
  obtain ⟨z1, z2⟩ := z
  have sub := sub_enumerate
  have it : ∀ {A' : Around} {E Q : Value → Shared → Prop}, Q (.ref hp.objs.size) ⟨hp.push o, gs, dr, tk, os⟩ → wpAny (model prog w) A' (pyIter v) Q E ⟨hp, gs, dr, tk, os⟩ := fun q => B.iter prog w _ _ ⟨hp, gs, dr, tk, os⟩ _ z1 q
  wp_walk using it
  refine wpAny_stack_any fun _ => wpAny_pure ?_
  split
  · rename_i c _ _ _ _ _
    cases (c == Value.type "enumerate") <;> (wp_walk using it; exact ⟨_, rfl, z2⟩)
  · wp_walk using it
    exact ⟨_, rfl, z2⟩
theorem call_enumT {M : Program} {w : World} {A : Around} {E : Value → Shared → Prop} {s : Shared} {t : Addr} {items : Array Value} {Q : Value → Shared → Prop} (ht : s.heap.IsTuple t items)
    (q : ∀ h', IsEnum h' (s.heap.objs.size + 1) s.heap.objs.size 0 .none → h'.IsTupleIter s.heap.objs.size t 0 → (∀ b o, s.heap.get? b = some o → h'.get? b = some o) → Q (.ref (s.heap.objs.size + 1)) { s with heap := h' }) :
    wpAny (model M w) A (call (.type "enumerate") [.ref t]) Q E s := by
  refine callType_new F.called_enumerate (by decide) (F.typeCall_enumerate_1 _) (F.newCall_enumerate_1 _) (fun obj => F.args_object_init_2 obj _) F.entry_enumerate_new (meets_enum1 (begins_tuple t items)) ⟨ht, ?_⟩
  have sz : (s.heap.push { cls := .type "tuple_iterator", data := .fields #[.ref t, .int 0 0] }).objs.size = s.heap.objs.size + 1 := Heap.size_push ..
  show _ ∧ _
  rw [sz]
  have he : IsEnum ((s.heap.push { cls := .type "tuple_iterator", data := .fields #[.ref t, .int 0 0] }).push { cls := .type "enumerate", data := .fields #[.none, .bool false, .ref s.heap.objs.size, rawInt 0, .none, .none] }) (s.heap.objs.size + 1) s.heap.objs.size 0 .none := by
    have z := Heap.get?_push_size (s.heap.push { cls := .type "tuple_iterator", data := .fields #[.ref t, .int 0 0] }) (o := { cls := .type "enumerate", data := .fields #[.none, .bool false, .ref s.heap.objs.size, rawInt 0, .none, .none] }) rfl
    rw [sz] at z
    exact z
  exact ⟨⟨_, he, rfl⟩, q _ he ⟨_, Heap.get?_push_of_some _ (Heap.get?_push_size _ rfl), rfl, rfl⟩ fun b o x => Heap.get?_push_of_some _ (Heap.get?_push_of_some _ x)⟩
def iEnT (K : PySem.W.Frag) (ta : TA) : TI := fun σ H R => ta σ H fun vs H1 => ∃ (t : Addr) (xs : List V), vs = [.ref t] ∧ SqT K H1 t xs ∧ R (Iet K t) H1
theorem pi_enT {X : Cx} {e : Expr} {ta : TA} {p pos tpos : Pos} {es : List Expr} {n : Nat} (hg : Gl X "enumerate") (hm : X.mg "enumerate" = none) (ha : PA X [e] ta) (hs : starEach [e] X.env = [(false, eval e X.env)] := by rfl) :
    PI X (.Tuple es n tpos) (.Call (.Name "enumerate" p) [e] [] pos) (iEnT X.K ta) := by
  constructor
  intro pins s σ H R I h
  refine Call_ (ld_blt I hg hm boot_enumerate (PyProof.Rows.callWith_type1 (thn (ha.run pos pins s σ H _ I h) fun us s1 z1 => ?_) hs rfl))
  obtain ⟨vs, H1, I1, r1, t, xs, ex, hq, q⟩ := z1
  subst ex
  have eu := Vals.ref1 r1
  subst eu
  obtain ⟨its, rv, ht, _⟩ := I1.tuple hq
  refine call_enumT (items := its.toArray) ht fun h' he hj hk => wpAny_pyIter_enum he ?_
  have I2 : Inv X pins σ H1 { s1 with heap := h' } := I1.kept (t' := s1.toks) hk
  refine ⟨s1.heap.objs.size + 1, [s1.heap.objs.size + 1, s1.heap.objs.size], _, _, H1, rfl, I2, turn_et t (s1.heap.objs.size + 1) s1.heap.objs.size, ⟨⟨.none, he⟩, hj, Nat.succ_ne_self _⟩, fun b hb => ?_, q⟩
  have lb : s1.heap.objs.size ≤ b := by
    rcases List.mem_cons.mp hb with z | z
    · rw [z]
      exact Nat.le_succ _
    · rw [List.mem_singleton.mp z]
      exact Nat.le_refl _
  exact I1.fpOk lb (I1.hok.fresh lb)
/-- for i, x in enumerate(t) -/
theorem for_enT {K : PySem.W.Frag} {t : Addr} {xs : List V} {g : TG} {tb : TS} {D : Ends} {σ : L2.St} {H : Hp} (Pv : Nat → L2.St → Hp → Prop) (h0 : Pv 0 σ H) (hl : ∀ i σ H, i ≤ xs.length → Pv i σ H → SqT K H t xs)
    (hs : ∀ i x σ H p, xs[i]? = some x → Pv i σ H → H p = none → g (.ref p) σ (upd H p (.tup [.int (i : Nat), x])) fun σ2 H2 => tb { D with nx := Pv (i + 1), ct := Pv (i + 1), bk := D.nx } σ2 H2) (hd : ∀ σ H, Pv xs.length σ H → D.nx σ H) :
    ∃ W : Nat → Nat → L2.St → Hp → Prop, (∃ m, W 0 m σ H) ∧ ∀ i m σ H, W i m σ H →
      ((Iet K t).stop i H ∧ D.nx σ H) ∨ ((Iet K t).go i H ∧ ∃ N : L2.St → Hp → Prop, (∀ σ' H', N σ' H' → ∃ m', m' < m ∧ W (i + 1) m' σ' H') ∧ ∀ x H', (Iet K t).yld i H x H' → g x σ H' fun σ2 H2 => tb { D with nx := N, ct := N, bk := D.nx } σ2 H2) := by
  refine ⟨fun i m σ H => i + m = xs.length ∧ Pv i σ H, ⟨xs.length, Nat.zero_add _, h0⟩, ?_⟩
  rintro i m σ H ⟨e, p⟩
  have q := hl i σ H (by omega) p
  cases hx : xs[i]? with
  | none =>
    have ei : i = xs.length := by
      have := List.getElem?_eq_none_iff.mp hx
      omega
    rw [ei] at p ⊢
    exact .inl ⟨⟨xs, q, Nat.le_refl _⟩, hd σ H p⟩
  | some v =>
    have hi : i < xs.length := (List.getElem?_eq_some_iff.mp hx).1
    refine .inr ⟨⟨xs, v, q, hx⟩, Pv (i + 1), fun σ' H' p' => ⟨m - 1, by omega, by omega, p'⟩, fun y H' z => ?_⟩
    obtain ⟨r, v', rfl, hr, rfl, hv⟩ := z
    have ev := hv xs q
    rw [hx] at ev
    cases ev
    exact hs i v σ H r hx p hr
end Gd
set_option Elab.async false
set_option linter.all false
set_option maxRecDepth 100000
set_option maxHeartbeats 4000000
namespace Ks
open PySem PySem.Spec PyProof.Rows L2 Gd Kx
abbrev sOne : Stmt := Kx.topS 27
abbrev sCk : Stmt := Kx.topS 28
abbrev sIsC : Stmt := Kx.topS 29
abbrev sCc : Stmt := Kx.topS 30
abbrev sCt : Stmt := Kx.topS 31
theorem scOne : FnScope ["value", "names"] ["value", "names"] (defScope sOne) := ⟨rfl, rfl, rfl, by decide +kernel, rfl, by decide +kernel, by decide +kernel⟩
theorem scCk : FnScope ["kinds", "index", "kind"] ["kinds"] (defScope sCk) := ⟨rfl, rfl, rfl, by decide +kernel, rfl, by decide +kernel, by decide +kernel⟩
theorem scIsC : FnScope ["value", "kinds", "name", "kind", "fields", "field"] ["value", "kinds"] (defScope sIsC) := ⟨rfl, rfl, rfl, by decide +kernel, rfl, by decide +kernel, by decide +kernel⟩
theorem scCc : FnScope ["constructors", "kinds", "names", "index", "constructor"] ["constructors", "kinds"] (defScope sCc) := ⟨rfl, rfl, rfl, by decide +kernel, rfl, by decide +kernel, by decide +kernel⟩
theorem scCt : FnScope ["kinds", "constructors", "full", "_", "constructor", "kind", "fields", "field"] ["kinds", "constructors"] (defScope sCt) := ⟨rfl, rfl, rfl, by decide +kernel, rfl, by decide +kernel, by decide +kernel⟩
/-! ### schemas as data -/
abbrev Rw := Str × Str × List Str
structure Md where
  ks : List Str
  rs : List Rw
structure Good (m : Md) : Prop where
  k1 : 1 ≤ m.ks.length
  k4 : m.ks.length ≤ 4
  kn : ∀ k ∈ m.ks, nmS k = true
  kd : m.ks.Nodup
  r1 : 1 ≤ m.rs.length
  r6 : m.rs.length ≤ 6
  rn : ∀ r ∈ m.rs, nmS r.1 = true
  rd : (m.rs.map (·.1)).Nodup
  rk : ∀ r ∈ m.rs, r.2.1 ∈ m.ks
  f3 : ∀ r ∈ m.rs, r.2.2.length ≤ 3
  fk : ∀ r ∈ m.rs, ∀ f ∈ r.2.2, f ∈ m.ks
  tr : ∀ k ∈ m.ks, ∃ r ∈ m.rs, r.2.1 = k ∧ r.2.2 = []
def StT (H : Hp) (a : Addr) (ss : List Str) : Prop := H a = some (.tup (ss.map V.str))
def RowV (H : Hp) (x : V) (r : Rw) : Prop := ∃ b f : Addr, x = .ref b ∧ H b = some (.tup [.str r.1, .str r.2.1, .ref f]) ∧ StT H f r.2.2
/-- a tuple, its object known or not -/
def TupA (H : Hp) (a : Addr) (xs : List V) : Prop := H a = some (.tup xs) ∨ FzT H a xs
theorem TupA.keep {H H' : Hp} {a : Addr} {xs : List V} (h : TupA H a xs) (s : Same H H') : TupA H' a xs := by
  rcases h with h | h
  · exact .inl (s _ _ h)
  · exact .inr (h.keep s)
theorem TupA.sq {K : PySem.W.Frag} {H : Hp} {a : Addr} {xs : List V} (h : TupA H a xs) : SqT K H a xs := by
  rcases h with h | h
  · exact SqT.of h
  · exact h.sq
theorem TupA.ty {K : PySem.W.Frag} {H : Hp} {a : Addr} {xs : List V} (h : TupA H a xs) : TyX K H (.ref a) (.type "tuple") := by
  rcases h with h | h
  · exact .base (.tup h)
  · exact h.ty
theorem TupA.by {H H' : Hp} {a : Addr} {xs : List V} (h : TupA H a xs) (s : ∀ o, (∀ zs, o ≠ .lst zs) → (∀ C d fs, o ≠ .ins C d fs) → H a = some o → H' a = some o) : TupA H' a xs := by
  rcases h with h | ⟨o, h, q⟩
  · exact .inl (s _ (fun _ z => by cases z) (fun _ _ _ z => by cases z) h)
  · exact .inr ⟨o, s _ (fun _ z => by cases z) (fun _ _ _ z => by cases z) h, q⟩
def RowsT (H : Hp) (a : Addr) (rs : List Rw) : Prop := ∃ xs : List V, TupA H a xs ∧ Paired (RowV H) xs rs
theorem RowV.keep {H H' : Hp} {x : V} {r : Rw} (h : RowV H x r) (s : Same H H') : RowV H' x r := by
  obtain ⟨b, f, e, h1, h2⟩ := h
  exact ⟨b, f, e, s _ _ h1, s _ _ h2⟩
theorem RowsT.keep {H H' : Hp} {a : Addr} {rs : List Rw} (h : RowsT H a rs) (s : Same H H') : RowsT H' a rs := by
  obtain ⟨xs, e, p⟩ := h
  exact ⟨xs, e.keep s, Paired.mapP p fun x r q => RowV.keep q s⟩
theorem rows_at {H : Hp} : ∀ {xs : List V} {rs : List Rw} {n : Nat} {x : V}, Paired (RowV H) xs rs → xs[n]? = some x → ∃ r, rs[n]? = some r ∧ RowV H x r
  | _, _, n, x, .nil, h => by simp at h
  | _, _, 0, x, .cons (b := i) r t, h => by
    have e := Option.some.inj h
    subst e
    exact ⟨i, rfl, r⟩
  | _, _, n + 1, x, .cons r t, h => by
    obtain ⟨i, e, q⟩ := rows_at (n := n) t (by simpa using h)
    exact ⟨i, by simpa using e, q⟩
/-! ### what the module's defs lean on -/
structure TS0 (mg : Str → Option Value) : Prop where
  isi : mg "isinstance" = none
  str : mg "str" = none
  tup : mg "tuple" = none
  len : mg "len" = none
  all : mg "all" = none
  enu : mg "enumerate" = none
  rng : mg "range" = none
  mki : ∃ t, mg "MOST_KINDS" = some (.int 4 t)
  mco : ∃ t, mg "MOST_CONSTRUCTORS" = some (.int 6 t)
  mfi : ∃ t, mg "MOST_FIELDS" = some (.int 3 t)
/-- what is asked of a value that may be among strings -/
def OneOf (K : PySem.W.Frag) (H : Hp) (v : V) (ts : List Str) (b : Bool) : Prop := (∃ z, v = .str z ∧ b = decide (z ∈ ts)) ∨ (∃ t, TyX K H v t ∧ PySem.W.kitOne K t (.type "str") = some false ∧ b = false)
section
variable {P : Program} {w : World} {K : PySem.W.Frag} {mg : Str → Option Value} {base : Heap}
def spOne (K : PySem.W.Frag) : Sp := fun vs H Q _ => ∃ (v : V) (a : Addr) (ts : List Str) (b : Bool), vs = [v, .ref a] ∧ SqT K H a (ts.map V.str) ∧ OneOf K H v ts b ∧ Q (.bl b) H
theorem ok_one {f : Addr} {fd : FuncData} (F : Fun K "_is_one_of" "_is_one_of" sOne f fd) (T : TS0 mg) : FnOk P w K mg base CX0 1 f fd ["value", "names"] (spOne K) := by
  refine F.ok scOne (fun vs H Q E h => ?_) (fun cv A ou s H vs Q E hr h => ?_)
  · obtain ⟨v, a, ts, b, rfl, _⟩ := h
    rfl
  obtain ⟨v, a, ts, b, rfl, hs, hv, q⟩ := h
  refine ⟨_, pss_one (ps_ret (pe_and (pe_callB call_isi (by rfl) T.isi boot_isinstance (pa_cons (pv 0) (pa_cons (pe_bltn (v := .ty "str") (by rfl) T.str boot_str rfl) pa_nil))) (pe_one (pe_cmpR op_in_seq (pv 0) (pv 1) (by rfl))))), ?_⟩
  rcases hv with ⟨z, rfl, rfl⟩ | ⟨t, ty, ek, rfl⟩
  · refine ⟨.str z, rfl, .str z, .ty "str", _, _, true, rfl, .ty "str", .base (.str z), kit_ty (by decide +kernel), _, rfl, ?_⟩
    refine iteT ⟨.str z, rfl, .ref a, rfl, a, _, rfl, .inr hs, rfl, all_flat ts, ?_⟩
    show Q (.bl (inV (.str z) (ts.map V.str))) H
    rw [inV_str]
    exact q
  · refine ⟨v, rfl, v, .ty "str", _, _, false, rfl, .ty "str", ty, ek, _, rfl, iteF q⟩
end
end Ks
set_option Elab.async false
set_option linter.all false
set_option maxRecDepth 100000
set_option maxHeartbeats 4000000
namespace Ks
open PySem PySem.Spec PyProof.Rows L2 Gd Kx
theorem cut_take {xs : List V} {i : Nat} (h : i ≤ xs.length) : cutV xs none (some (i : Int)) = xs.take i := by
  unfold cutV
  rw [HT.sIx_none, HT.sIx_nat, List.drop_zero, Nat.sub_zero, Nat.min_eq_left h]
section
variable {P : Program} {w : World} {K : PySem.W.Frag} {mg : Str → Option Value} {base : Heap}
def spCk : Sp := fun vs H Q _ => ∃ (a : Addr) (m : Md), vs = [.ref a] ∧ StT H a m.ks ∧ Good m ∧ ∀ H', Same H H' → Q .non H'
theorem ok_ck {f fi : Addr} {fd fdi : FuncData} (F : Fun K "_check_kinds" "_check_kinds" sCk f fd) (T : TS0 mg) (GI : FnOk P w K mg base CX0 1 fi fdi ["value"] (spIs K)) (ki : PySem.W.keepIn K (.ref fi) = true) (bI : Binds K fdi ["value"] []) (gI : mg "is_name" = some (.ref fi)) :
    FnOk P w K mg base CX0 2 f fd ["kinds"] spCk := by
  obtain ⟨t4, m4⟩ := T.mki
  refine F.ok scCk (fun vs H Q E h => ?_) (fun cv A ou s H vs Q E hr h => ?_)
  · obtain ⟨a, m, rfl, _⟩ := h
    rfl
  obtain ⟨a, m, rfl, hs, g, q⟩ := h
  refine ⟨_, pss_cons (ps_if (PW.pt (pw_or (pt_not (pt_val (pe_callB call_isi (by rfl) T.isi boot_isinstance (pa_cons (pv 0) (pa_cons (pe_bltn (v := .ty "tuple") (by rfl) T.tup boot_tuple rfl) pa_nil)))))
        (pw_or1 (pt_not (pt_chain op_le op_le pe_int (pe_callB call_len_seq (by rfl) T.len PySem.boot_len (pa_cons (pv 0) pa_nil)) (pe_glob (v := .int 4) (by rfl) m4 ⟨_, rfl⟩)))))) pss_never pss_nil)
    (pss_one (ps_for PassesOwn.never rfl (pi_enT (by rfl) T.enu (pa_cons (pv 0) pa_nil)) (pg_tup rfl (pgs_cons (pg_name (i := 1) scCk.nd rfl (.inl rfl)) (pgs_cons (pg_name (i := 2) scCk.nd rfl (.inl rfl)) pgs_nil)))
      (pss_one (ps_if (PW.pt (pw_or (pt_not (pt_val (pe_call GI hr (by rfl) gI ki bI .nil pass0 (pa_cons (pv 2) pa_nil)))) (pw_or1 (pt_cmpR op_in_seq (pv 2) (pe_slice sl_tup (pv 0) po_none (po_some (pv 1))) (by rfl))))) pss_never pss_nil)))), ?_⟩
  refine ⟨.ref a, rfl, .ref a, .ty "tuple", _, _, true, rfl, .ty "tuple", .base (.tup hs), kit_ty (by decide +kernel), _, rfl, iteF ?_⟩
  refine ⟨.ref a, rfl, a, _, rfl, .inr (SqT.of hs), _, _, rfl, rfl, _, rfl, ?_⟩
  have k1 := g.k1
  have k4 := g.k4
  rw [decide_eq_true (show (1 : Int) ≤ ((m.ks.map V.str).length : Int) by rw [List.length_map]; omega)]
  refine iteT ⟨_, _, rfl, rfl, _, rfl, ?_⟩
  rw [decide_eq_true (show ((m.ks.map V.str).length : Int) ≤ 4 by rw [List.length_map]; omega)]
  refine iteF ?_
  refine ⟨.ref a, rfl, a, _, rfl, SqT.of hs, for_enT (K := K) (t := a) (xs := m.ks.map V.str) (fun i σ H' => ∃ o1 o2 : Option V, σ = [some (.ref a), o1, o2] ∧ Same H H') ⟨none, none, rfl, fun _ _ e => e⟩ (fun i σ H' _ p => ?_) ?_ ?_⟩
  · obtain ⟨_, _, _, s1⟩ := p
    exact SqT.of (s1 _ _ hs)
  · rintro i x σ H1 p hx ⟨o1, o2, rfl, s1⟩ np
    obtain ⟨z, hz, rfl⟩ : ∃ z, m.ks[i]? = some z ∧ x = V.str z := by
      rw [List.getElem?_map] at hx
      cases e : m.ks[i]? with
      | none => rw [e] at hx; cases hx
      | some z => rw [e] at hx; exact ⟨z, rfl, (Option.some.inj hx).symm⟩
    have hi : i < m.ks.length := (List.getElem?_eq_some_iff.mp hz).1
    have hn := g.kn z (List.mem_of_getElem? hz)
    have s2 : Same H1 (upd H1 p (.tup [.int (i : Nat), .str z])) := same_new np
    refine ⟨p, _, rfl, SqT.of upd_same, rfl, ?_⟩
    refine ⟨_, _, rfl, _, _, rfl, rfl, .str z, rfl, .str z, rfl, .inl ⟨z, rfl, by have := (nm_len hn).2; omega, fun H2 s3 => ?_⟩⟩
    rw [hn]
    have sA := s1.trans (s2.trans s3)
    refine ⟨true, rfl, iteF ?_⟩
    refine ⟨.str z, rfl, .ref a, rfl, .int (i : Nat), rfl, _, rfl, a, m.ks.map V.str, rfl, SqT.of (sA _ _ hs), ?_, fun L nL => ?_⟩
    · rintro ⟨_, e⟩
      rw [HT.sIx_nat, List.length_map] at e
      omega
    rw [cut_take (by rw [List.length_map]; omega), ← List.map_take]
    refine ⟨L, _, rfl, .inr (SqT.of upd_same), rfl, all_flat _, _, rfl, ?_⟩
    rw [if_neg (by decide), inV_str, decide_eq_false (fun h => ?_)]
    · exact iteF ⟨_, _, rfl, sA.trans (same_new nL)⟩
    · obtain ⟨j, hj, ej⟩ := List.getElem_of_mem h
      rw [List.length_take] at hj
      rw [List.getElem_take] at ej
      have e2 : m.ks[j]? = m.ks[i]? := by rw [hz, List.getElem?_eq_getElem (by omega), ej]
      have := (List.getElem?_inj (by omega) g.kd).mp e2
      omega
  · rintro σ H1 ⟨o1, o2, rfl, s1⟩
    exact q H1 s1
end
end Ks
set_option Elab.async false
set_option linter.all false
set_option maxRecDepth 100000
set_option maxHeartbeats 4000000
namespace Ks
open PySem PySem.Spec PyProof.Rows L2 Gd Kx
section
variable {P : Program} {w : World} {K : PySem.W.Frag} {mg : Str → Option Value} {base : Heap}
/-- a constructor that is right for kinds -/
structure RwOk (ks : List Str) (r : Rw) : Prop where
  n : nmS r.1 = true
  k : r.2.1 ∈ ks
  l : r.2.2.length ≤ 3
  f : ∀ x ∈ r.2.2, x ∈ ks
def spIsC : Sp := fun vs H Q _ => ∃ (x : V) (a : Addr) (ks : List Str) (r : Rw), vs = [x, .ref a] ∧ StT H a ks ∧ RowV H x r ∧ RwOk ks r ∧ ∀ H', Same H H' → Q (.bl true) H'
theorem ok_isC {f fi fo : Addr} {fd fdi fdo : FuncData} (F : Fun K "_is_constructor" "_is_constructor" sIsC f fd) (T : TS0 mg)
    (GI : FnOk P w K mg base CX0 1 fi fdi ["value"] (spIs K)) (ki : PySem.W.keepIn K (.ref fi) = true) (bI : Binds K fdi ["value"] []) (gI : mg "is_name" = some (.ref fi))
    (GO : FnOk P w K mg base CX0 1 fo fdo ["value", "names"] (spOne K)) (ko : PySem.W.keepIn K (.ref fo) = true) (bO : Binds K fdo ["value", "names"] []) (gO : mg "_is_one_of" = some (.ref fo)) :
    FnOk P w K mg base CX0 2 f fd ["value", "kinds"] spIsC := by
  obtain ⟨t3, m3⟩ := T.mfi
  refine F.ok scIsC (fun vs H Q E h => ?_) (fun cv A ou s H vs Q E hr h => ?_)
  · obtain ⟨x, a, ks, r, rfl, _⟩ := h
    rfl
  obtain ⟨x, a, ks, r, rfl, hs, ⟨b, fa, rfl, hb, hf⟩, g, q⟩ := h
  refine ⟨_, pss_cons (ps_if (PW.pt (pw_or (pt_not (pt_val (pe_callB call_isi (by rfl) T.isi boot_isinstance (pa_cons (pv 0) (pa_cons (pe_bltn (v := .ty "tuple") (by rfl) T.tup boot_tuple rfl) pa_nil)))))
        (pw_or1 (pt_cmpR op_ne (pe_callB call_len_seq (by rfl) T.len PySem.boot_len (pa_cons (pv 0) pa_nil)) pe_int (nomark _))))) (pss_one (ps_ret pe_bl)) pss_nil)
    (pss_cons (ps_asg (pv 0) (pg_tup (by rfl) (pgs_cons (pg_name (i := 2) scIsC.nd rfl (.inl rfl)) (pgs_cons (pg_name (i := 3) scIsC.nd rfl (.inl rfl)) (pgs_cons (pg_name (i := 4) scIsC.nd rfl (.inl rfl)) pgs_nil)))))
    (pss_cons (ps_if (PW.pt (pw_or (pt_not (pt_val (pe_call GI hr (by rfl) gI ki bI .nil pass0 (pa_cons (pv 2) pa_nil)))) (pw_or1 (pt_not (pt_val (pe_call GO hr (by rfl) gO ko bO .nil pass0 (pa_cons (pv 3) (pa_cons (pv 1) pa_nil)))))))) (pss_one (ps_ret pe_bl)) pss_nil)
    (pss_cons (ps_if (PW.pt (pw_or (pt_not (pt_val (pe_callB call_isi (by rfl) T.isi boot_isinstance (pa_cons (pv 4) (pa_cons (pe_bltn (v := .ty "tuple") (by rfl) T.tup boot_tuple rfl) pa_nil)))))
        (pw_or1 (pt_cmpR op_gt (pe_callB call_len_seq (by rfl) T.len PySem.boot_len (pa_cons (pv 4) pa_nil)) (pe_glob (v := .int 3) (by rfl) m3 ⟨_, rfl⟩) (nomark _))))) (pss_one (ps_ret pe_bl)) pss_nil)
    (pss_one (ps_ret (pe_callB (cr_all rfl) (by rfl) T.all boot_all (pa_cons (pe_lc (own := [("field", 5)]) (g := gName 5) (tt := tYes) rfl scIsC.nd (pi_tup (pv 4)) (blkOk_by (own := [("field", 5)]) (N := ["value", "kinds", "name", "kind", "fields", "field"]) (sc := defScope sIsC) (by decide +kernel))
      (fun _ _ _ _ _ => pg_name (i := 5) scIsC.nd rfl (Or.inl rfl)) (fun _ _ _ _ _ => pts_nil)
      (fun _ _ _ _ _ => asTE (te := tCall (spOne K) [] E0 (tCons (tVar 5) (tCons (tVar 1) tNil))) (pe_call GO hr (by rfl) gO ko bO .nil pass0 (pa_cons (pv 5) (pa_cons (pv 1) pa_nil))) rfl)) pa_nil))))))), ?_⟩
  refine ⟨.ref b, rfl, .ref b, .ty "tuple", _, _, true, rfl, .ty "tuple", .base (.tup hb), kit_ty (by decide +kernel), _, rfl, iteF ?_⟩
  refine ⟨.ref b, rfl, b, _, rfl, .inr (SqT.of hb), rfl, _, rfl, ?_⟩
  rw [show decide (V.int ((([V.str r.1, .str r.2.1, .ref fa] : List V).length : Nat) : Int) = V.int 3) = true from decide_eq_true rfl]
  refine iteF ?_
  refine ⟨.ref b, rfl, b, _, rfl, SqT.of hb, rfl, _, _, rfl, _, _, rfl, _, _, rfl, rfl, ?_⟩
  refine ⟨.str r.1, rfl, .str r.1, rfl, .inl ⟨r.1, rfl, by have := (nm_len g.n).2; omega, fun H2 s2 => ?_⟩⟩
  rw [g.n]
  have hs2 : StT H2 a ks := s2 _ _ hs
  have hf2 : H2 fa = _ := s2 _ _ hf
  refine ⟨true, rfl, iteF ⟨.str r.2.1, rfl, .ref a, rfl, .str r.2.1, a, ks, true, rfl, SqT.of hs2, .inl ⟨r.2.1, rfl, (decide_eq_true g.k).symm⟩, true, rfl, iteF ?_⟩⟩
  refine ⟨.ref fa, rfl, .ref fa, .ty "tuple", _, _, true, rfl, .ty "tuple", .base (.tup hf2), kit_ty (by decide +kernel), _, rfl, iteF ?_⟩
  refine ⟨.ref fa, rfl, fa, _, rfl, .inr (SqT.of hf2), _, _, rfl, rfl, _, rfl, ?_⟩
  have gl := g.l
  rw [decide_eq_false (show ¬ ((r.2.2.map V.str).length : Int) > 3 by rw [List.length_map]; omega)]
  refine iteF ?_
  refine ⟨.ref fa, rfl, fa, rfl, ⟨_, SqT.of hf2⟩, fun D nD => lc_funT (K := K) (a := fa) (xs := r.2.2.map V.str) (ys := List.replicate r.2.2.length (V.bl true)) (fun _ => rfl) nD (SqT.of hf2) (by rw [List.length_map]; omega) (by rw [List.length_map, List.length_replicate]) (fun i x y H3 hx hy s3 q => ?_) fun H3 s3 eD => ?_⟩
  · intro k
    rw [List.getElem?_map] at hx
    cases e : r.2.2[i]? with
    | none => rw [e] at hx; cases hx
    | some z =>
      rw [e] at hx
      cases hx
      have ey : y = V.bl true := by
        have := List.mem_of_getElem? hy
        exact (List.mem_replicate.mp this).2
      subst ey
      exact ⟨.str z, rfl, .ref a, rfl, .str z, a, ks, true, rfl, SqT.of (s3 _ _ hs2), .inl ⟨z, rfl, (decide_eq_true (g.f z (List.mem_of_getElem? e))).symm⟩, k H3 fun _ _ e => e⟩
  · refine ⟨D, List.replicate r.2.2.length true, rfl, SqL.of (by rw [eD, List.map_replicate]), ?_⟩
    rw [show (List.replicate r.2.2.length true).all id = true from List.all_eq_true.mpr fun x hx => by rw [(List.mem_replicate.mp hx).2]; rfl]
    exact q H3 (s2.trans s3)
end
end Ks
set_option Elab.async false
set_option linter.all false
set_option maxRecDepth 100000
set_option maxHeartbeats 4000000
namespace Ks
open PySem PySem.Spec PyProof.Rows L2 Gd Kx
theorem Good.row {m : Md} (g : Good m) {r : Rw} (h : r ∈ m.rs) : RwOk m.ks r := ⟨g.rn r h, g.rk r h, g.f3 r h, g.fk r h⟩
theorem same_upd {H H' : Hp} {L : Addr} {o : HO} (s : Same H H') (n : H L = none) : Same H (upd H' L o) := fun b x e => by rw [upd_ne (ne_of_none e n)]; exact s _ _ e
section
variable {P : Program} {w : World} {K : PySem.W.Frag} {mg : Str → Option Value} {base : Heap}
def spCc : Sp := fun vs H Q _ => ∃ (c a : Addr) (m : Md), vs = [.ref c, .ref a] ∧ StT H a m.ks ∧ RowsT H c m.rs ∧ Good m ∧ ∀ H', Same H H' → Q .non H'
theorem ok_cc {f fi : Addr} {fd fdi : FuncData} (F : Fun K "_check_constructors" "_check_constructors" sCc f fd) (T : TS0 mg)
    (GI : FnOk P w K mg base CX0 2 fi fdi ["value", "kinds"] spIsC) (ki : PySem.W.keepIn K (.ref fi) = true) (bI : Binds K fdi ["value", "kinds"] []) (gI : mg "_is_constructor" = some (.ref fi)) :
    FnOk P w K mg base CX0 3 f fd ["constructors", "kinds"] spCc := by
  obtain ⟨t6, m6⟩ := T.mco
  refine F.ok scCc (fun vs H Q E h => ?_) (fun cv A ou s H vs Q E hr h => ?_)
  · obtain ⟨c, a, m, rfl, _⟩ := h
    rfl
  obtain ⟨c, a, m, rfl, hs, ⟨xs, hc, hp⟩, g, q⟩ := h
  have ln : xs.length = m.rs.length := Paired.length hp
  refine ⟨_, pss_cons (ps_if (PW.pt (pw_or (pt_not (pt_val (pe_callB call_isi (by rfl) T.isi boot_isinstance (pa_cons (pv 0) (pa_cons (pe_bltn (v := .ty "tuple") (by rfl) T.tup boot_tuple rfl) pa_nil)))))
        (pw_or1 (pt_not (pt_chain op_le op_le pe_int (pe_callB call_len_seq (by rfl) T.len PySem.boot_len (pa_cons (pv 0) pa_nil)) (pe_glob (v := .int 6) (by rfl) m6 ⟨_, rfl⟩)))))) pss_never pss_nil)
    (pss_cons (ps_set (i := 2) scCc.nd rfl (.inl rfl) (pe_lst pa_nil))
    (pss_one (ps_for PassesOwn.never rfl (pi_enT (by rfl) T.enu (pa_cons (pv 0) pa_nil)) (pg_tup rfl (pgs_cons (pg_name (i := 3) scCc.nd rfl (.inl rfl)) (pgs_cons (pg_name (i := 4) scCc.nd rfl (.inl rfl)) pgs_nil)))
      (pss_cons (ps_if (PW.pt (pw_or (pt_not (pt_val (pe_call GI hr (by rfl) gI ki bI .nil pass0 (pa_cons (pv 4) (pa_cons (pv 1) pa_nil))))) (pw_or1 (pt_cmpR op_in_seq (pe_ix ix_tup (pv 4) pe_int (fun _ _ => rfl)) (pv 2) (by rfl))))) pss_never pss_nil)
      (pss_one (ps_expr (pe_bm PySem.F.plainAttrs_list PySem.F.slot_list_append PySem.F.type_list_append mt_append (pv 2) (pa_cons (pe_ix ix_tup (pv 4) pe_int (fun _ _ => rfl)) pa_nil)))))))), ?_⟩
  refine ⟨.ref c, rfl, .ref c, .ty "tuple", _, _, true, rfl, .ty "tuple", hc.ty, kit_ty (by decide +kernel), _, rfl, iteF ?_⟩
  refine ⟨.ref c, rfl, c, _, rfl, .inr hc.sq, _, _, rfl, rfl, _, rfl, ?_⟩
  have r1 := g.r1
  have r6 := g.r6
  rw [decide_eq_true (show (1 : Int) ≤ ((xs.length : Nat) : Int) by omega)]
  refine iteT ⟨_, _, rfl, rfl, _, rfl, ?_⟩
  rw [decide_eq_true (show ((xs.length : Nat) : Int) ≤ 6 by omega)]
  refine iteF ⟨(by show 0 ≤ sizeLine; exact Nat.zero_le _), fun L nL => ?_⟩
  refine ⟨.ref c, rfl, c, _, rfl, (hc.keep (same_new nL)).sq, for_enT (K := K) (t := c) (xs := xs) (fun i σ H' => ∃ o3 o4 : Option V, σ = [some (.ref c), some (.ref a), some (.ref L), o3, o4] ∧ Same H H' ∧ H' L = some (.lst (((m.rs.take i).map (·.1)).map V.str))) ⟨none, none, rfl, same_new nL, upd_same⟩ (fun i σ H' _ p => ?_) ?_ ?_⟩
  · obtain ⟨_, _, _, s1, _⟩ := p
    exact (hc.keep s1).sq
  · rintro i x σ H1 p hx ⟨o3, o4, rfl, s1, eL⟩ np
    obtain ⟨r, hr2, b, fa, rfl, hb, hf⟩ := rows_at hp hx
    have hi : i < m.rs.length := (List.getElem?_eq_some_iff.mp hr2).1
    have s2 : Same H1 (upd H1 p (.tup [.int (i : Nat), .ref b])) := same_new np
    refine ⟨p, _, rfl, SqT.of upd_same, rfl, ?_⟩
    have sA := s1.trans s2
    refine ⟨_, _, rfl, _, _, rfl, rfl, .ref b, rfl, .ref a, rfl, .ref b, a, m.ks, r, rfl, sA _ _ hs, ⟨b, fa, rfl, sA _ _ hb, sA _ _ hf⟩, g.row (List.mem_of_getElem? hr2), fun H2 s3 => ⟨true, rfl, iteF ?_⟩⟩
    have sB := sA.trans s3
    have eL2 := s3 _ _ (s2 _ _ eL)
    have hb2 := sB _ _ hb
    refine ⟨.ref b, rfl, b, _, _, .str r.1, rfl, rfl, SqT.of hb2, rfl, .ref L, rfl, L, _, rfl, .inl (SqL.of eL2), rfl, all_flat _, _, rfl, ?_⟩
    rw [if_neg (by decide), inV_str, decide_eq_false (fun h => ?_)]
    · refine iteF ⟨.ref L, rfl, .inl ⟨rfl, _, SqL.of eL2⟩, .ref b, rfl, b, _, _, .str r.1, rfl, rfl, SqT.of hb2, rfl, L, _, _, rfl, rfl, eL2, ?_, _, _, rfl, same_upd sB nL, ?_⟩
      · rw [List.length_map, List.length_map, List.length_take]
        exact small1000 (by omega)
      · rw [upd_same, List.take_add_one, hr2]
        simp
    · rw [List.map_take] at h
      obtain ⟨j, hj, ej⟩ := List.getElem_of_mem h
      rw [List.length_take, List.length_map] at hj
      rw [List.getElem_take] at ej
      have e2 : (m.rs.map (·.1))[j]? = (m.rs.map (·.1))[i]? := by
        rw [List.getElem?_eq_getElem (by rw [List.length_map]; omega), ej, List.getElem?_map, hr2]
        rfl
      have := (List.getElem?_inj (by rw [List.length_map]; omega) g.rd).mp e2
      omega
  · rintro σ H1 ⟨o3, o4, rfl, s1, _⟩
    exact q H1 s1
end
end Ks
set_option Elab.async false
set_option linter.all false
set_option maxRecDepth 100000
set_option maxHeartbeats 4000000
namespace Ks
open PySem PySem.Spec PyProof.Rows L2 Gd Kx
section
variable {P : Program} {w : World} {K : PySem.W.Frag} {mg : Str → Option Value} {base : Heap}
/-- the kinds found so far -/
structure Full (m : Md) (fl : List Str) : Prop where
  nd : fl.Nodup
  sub : ∀ x ∈ fl, x ∈ m.ks
theorem Full.len {m : Md} {fl : List Str} (g : Good m) (f : Full m fl) : fl.length ≤ 4 := Nat.le_trans (nd_le fl m.ks f.nd f.sub) g.k4
theorem ok_ct {f : Addr} {fd : FuncData} (F : Fun K "_check_trees" "_check_trees" sCt f fd) (T : TS0 mg) : FnOk P w K mg base CX0 1 f fd ["kinds", "constructors"] (fun vs H Q E => ∃ (a c : Addr), vs = [.ref a, .ref c] ∧ spCc [.ref c, .ref a] H Q E) := by
  refine F.ok scCt (fun vs H Q E h => ?_) (fun cv A ou s H vs Q E hr h => ?_)
  · obtain ⟨c, a, rfl, _⟩ := h
    rfl
  obtain ⟨a, c, rfl, c', a', m, ec, hs, ⟨xs, hc, hp⟩, g, q⟩ := h
  cases ec
  have ln : xs.length = m.rs.length := Paired.length hp
  have k1 := g.k1
  have k4 := g.k4
  refine ⟨_, pss_cons (ps_set (i := 2) scCt.nd rfl (.inr rfl) (pe_lst pa_nil))
    (pss_cons (ps_for PassesOwn.never rfl (pi_range1 rfl T.rng (pa_cons (pe_callB call_len_seq (by rfl) T.len PySem.boot_len (pa_cons (pv 0) pa_nil)) pa_nil)) (pg_name (i := 3) scCt.nd rfl (.inl rfl))
      (pss_one (ps_for PassesOwn.never rfl (pi_tup (pv 1)) (pg_name (i := 4) scCt.nd rfl (.inl rfl))
        (pss_cons (ps_par (i := 5) (j := 6) (by rfl) scCt.nd rfl rfl (by decide) rfl rfl (pa_cons (pe_ix ix_tup (pv 4) pe_int (fun _ _ => rfl)) (pa_cons (pe_ix ix_tup (pv 4) pe_int (fun _ _ => rfl)) pa_nil)) (by rfl))
        (pss_one (ps_if (PW.pt (pw_and (pt_cmpR op_notIn_seq (pv 5) (pv 2) (by rfl)) (pw_and1 (pt_val (pe_callB (cr_all rfl) (by rfl) T.all boot_all (pa_cons (pe_lc (own := [("field", 7)]) (g := gName 7) (tt := tYes) rfl scCt.nd (pi_tup (pv 6)) (blkOk_by (own := [("field", 7)]) (N := ["kinds", "constructors", "full", "_", "constructor", "kind", "fields", "field"]) (sc := defScope sCt) (by decide +kernel))
            (fun _ _ _ _ _ => pg_name (i := 7) scCt.nd rfl (Or.inl rfl)) (fun _ _ _ _ _ => pts_nil)
            (fun _ _ _ _ _ => asTE (te := tOp (rIn K false) (tVar 7) (tVar 2)) (pe_cmpR op_in_seq (pv 7) (pv 2) (by rfl)) rfl)) pa_nil))))))
          (pss_one (ps_expr (pe_bm PySem.F.plainAttrs_list PySem.F.slot_list_append PySem.F.type_list_append mt_append (pv 2) (pa_cons (pv 5) pa_nil)))) pss_nil))))))
    (pss_one (ps_for PassesOwn.never rfl (pi_tup (pv 0)) (pg_name (i := 5) scCt.nd rfl (.inl rfl)) (pss_one (ps_if (pt_cmpR op_notIn_seq (pv 5) (pv 2) (by rfl)) pss_never pss_nil))))), ?_⟩
  refine ⟨(by show 0 ≤ sizeLine; exact Nat.zero_le _), fun L nL => ?_⟩
  refine ⟨.ref a, rfl, a, _, rfl, .inr (SqT.of (same_new nL _ _ hs)), _, rfl, ?_, ?_, for_range (fun i σ H' => ∃ (o3 o4 o5 o6 : Option V) (fl : List Str), σ = [some (.ref a), some (.ref c), some (.ref L), o3, o4, o5, o6, none] ∧ Same H H' ∧ H' L = some (.lst (fl.map V.str)) ∧ Full m fl ∧ (1 ≤ i → ∀ k ∈ m.ks, k ∈ fl))
    ⟨none, none, none, none, [], rfl, same_new nL, upd_same, ⟨.nil, fun x hx => by cases hx⟩, fun h => by omega⟩ ?_ ?_⟩
  · omega
  · rw [List.length_map]
    omega
  · rintro i σ H1 hi ⟨o3, o4, o5, o6, fl, rfl, s1, eL, fu, al⟩
    refine ⟨.ref c, rfl, c, rfl, ⟨_, (hc.keep s1).sq⟩, for_tup (K := K) (a := c) (xs := xs) (fun j σ H' => ∃ (o4 o5 o6 : Option V) (fl : List Str), σ = [some (.ref a), some (.ref c), some (.ref L), some (.int (0 + (i : Int))), o4, o5, o6, none] ∧ Same H H' ∧ H' L = some (.lst (fl.map V.str)) ∧ Full m fl ∧ (∀ r ∈ m.rs.take j, r.2.2 = [] → r.2.1 ∈ fl) ∧ (1 ≤ i → ∀ k ∈ m.ks, k ∈ fl))
      ⟨o4, o5, o6, fl, rfl, s1, eL, fu, (fun r hr _ => by rw [List.take_zero] at hr; cases hr), al⟩ (fun j σ H' _ p => ?_) ?_ ?_⟩
    · obtain ⟨_, _, _, _, _, s2, _⟩ := p
      exact (hc.keep s2).sq
    · clear eL fu al
      rintro j x σ H2 hx ⟨o4, o5, o6, fl, rfl, s2, eL, fu, nn, al⟩
      obtain ⟨r, hr2, b, fa, rfl, hb, hf⟩ := rows_at hp hx
      have hrm := List.mem_of_getElem? hr2
      have hb2 := s2 _ _ hb
      have hf2 : StT H2 fa r.2.2 := s2 _ _ hf
      have l4 := fu.len g
      have gf := g.f3 r hrm
      refine ⟨.ref b, rfl, b, _, _, .str r.2.1, rfl, rfl, SqT.of hb2, rfl, .ref b, rfl, b, _, _, .ref fa, rfl, rfl, SqT.of hb2, rfl, _, _, rfl, ?_⟩
      have tk : ∀ fl' : List Str, (∀ x ∈ fl, x ∈ fl') → (r.2.2 = [] → r.2.1 ∈ fl') → ∀ r' ∈ m.rs.take (j + 1), r'.2.2 = [] → r'.2.1 ∈ fl' := fun fl' h1 h2 r' hr' e => by
        rw [List.take_add_one, hr2] at hr'
        rcases List.mem_append.mp hr' with z | z
        · exact h1 _ (nn r' z e)
        · have : r' = r := by simpa using z
          subst this
          exact h2 e
      refine ⟨.str r.2.1, rfl, .ref L, rfl, L, _, rfl, .inl (SqL.of eL), rfl, all_flat _, _, rfl, ?_⟩
      rw [if_pos rfl, inV_str]
      by_cases hk : r.2.1 ∈ fl
      · rw [decide_eq_true hk]
        refine iteF (iteF ?_)
        exact ⟨_, _, _, fl, rfl, s2, eL, fu, tk fl (fun _ h => h) fun _ => hk, al⟩
      · rw [decide_eq_false hk]
        refine iteT ?_
        refine ⟨.ref fa, rfl, fa, rfl, ⟨_, SqT.of hf2⟩, fun D nD => lc_funT (K := K) (a := fa) (xs := r.2.2.map V.str) (ys := (r.2.2.map fun z => decide (z ∈ fl)).map V.bl) (fun _ => rfl) nD (SqT.of hf2) (by rw [List.length_map]; omega) (by rw [List.length_map, List.length_map, List.length_map]) (fun n x y H3 hx hy s3 q => ?_) fun H3 s3 eD => ?_⟩
        · intro k
          rw [List.getElem?_map] at hx
          cases e : r.2.2[n]? with
          | none => rw [e] at hx; cases hx
          | some z =>
            rw [e] at hx
            cases hx
            rw [List.getElem?_map, List.getElem?_map, e] at hy
            cases hy
            refine ⟨.str z, rfl, .ref L, rfl, L, _, rfl, .inl (SqL.of (s3 _ _ eL)), rfl, all_flat _, ?_⟩
            rw [if_neg (by decide), inV_str]
            exact k H3 fun _ _ e => e
        · refine ⟨D, _, rfl, SqL.of eD, _, rfl, ?_⟩
          have eL3 := s3 _ _ eL
          have s4 := s2.trans s3
          cases hb : (r.2.2.map fun z => decide (z ∈ fl)).all id with
          | false =>
            refine iteF ⟨_, _, _, fl, rfl, s4, eL3, fu, tk fl (fun _ h => h) fun e => ?_, al⟩
            rw [e] at hb
            cases hb
          | true =>
            refine iteT ⟨.ref L, rfl, .inl ⟨rfl, _, SqL.of eL3⟩, .str r.2.1, rfl, L, _, _, rfl, rfl, eL3, ?_, _, _, _, fl ++ [r.2.1], rfl, same_upd s4 nL, ?_, ⟨?_, ?_⟩, tk _ (fun _ h => List.mem_append_left _ h) (fun _ => List.mem_append_right _ (List.mem_singleton.mpr rfl)), fun h k hk2 => List.mem_append_left _ (al h k hk2)⟩
            · rw [List.length_map]
              exact small1000 (by omega)
            · rw [upd_same, List.map_append]
              rfl
            · rw [List.nodup_append]
              exact ⟨fu.nd, List.nodup_cons.mpr ⟨by simp, .nil⟩, fun x hx y hy e => hk (by rw [List.mem_singleton.mp hy] at e; rw [← e]; exact hx)⟩
            · intro x hx
              rcases List.mem_append.mp hx with z | z
              · exact fu.sub x z
              · rw [List.mem_singleton.mp z]
                exact g.rk r hrm
    · clear eL fu al
      rintro σ H2 ⟨o4, o5, o6, fl, rfl, s2, eL, fu, nn, al⟩
      refine ⟨_, o4, o5, o6, fl, rfl, s2, eL, fu, fun _ k hk => ?_⟩
      obtain ⟨r, hr, rfl, e⟩ := g.tr k hk
      refine nn r ?_ e
      rw [ln, List.take_length]
      exact hr
  · rintro σ H1 ⟨o3, o4, o5, o6, fl, rfl, s1, eL, fu, al⟩
    have al2 := al (by rw [List.length_map]; omega)
    refine ⟨.ref a, rfl, a, rfl, ⟨_, SqT.of (s1 _ _ hs)⟩, for_tup (K := K) (a := a) (xs := m.ks.map V.str) (fun j σ H' => ∃ (o3 o4 o5 o6 : Option V), σ = [some (.ref a), some (.ref c), some (.ref L), o3, o4, o5, o6, none] ∧ H' = H1) ⟨_, _, _, _, rfl, rfl⟩ (fun j σ H' _ p => ?_) ?_ ?_⟩
    · obtain ⟨_, _, _, _, _, rfl⟩ := p
      exact SqT.of (s1 _ _ hs)
    · rintro j x σ H2 hx ⟨o3, o4, o5, o6, rfl, rfl⟩
      obtain ⟨z, hz, rfl⟩ : ∃ z, m.ks[j]? = some z ∧ x = V.str z := by
        rw [List.getElem?_map] at hx
        cases e : m.ks[j]? with
        | none => rw [e] at hx; cases hx
        | some z => rw [e] at hx; exact ⟨z, rfl, (Option.some.inj hx).symm⟩
      refine ⟨.str z, rfl, .ref L, rfl, L, _, rfl, .inl (SqL.of eL), rfl, all_flat _, _, rfl, ?_⟩
      rw [if_pos rfl, inV_str, decide_eq_true (al2 z (List.mem_of_getElem? hz))]
      exact iteF ⟨_, _, _, _, rfl, rfl⟩
    · rintro σ H2 ⟨o3, o4, o5, o6, rfl, rfl⟩
      exact q _ s1
end
end Ks
set_option Elab.async false
set_option linter.all false
set_option maxRecDepth 100000
set_option maxHeartbeats 4000000
namespace Ks
open PySem PySem.Spec PyProof.Rows L2 Gd Kx
/-! the places of names: {name: place for place, name in enumerate(names)} -/
def plF : Nat → List Str → List (Key × V)
  | _, [] => []
  | i, t :: r => (.inr t, .int (i : Nat)) :: plF (i + 1) r
def plc (ts : List Str) : List (Key × V) := plF 0 ts
theorem plF_len (ts : List Str) : ∀ i, (plF i ts).length = ts.length := by
  induction ts with
  | nil => intro i; rfl
  | cons t r ih => intro i; show (plF (i + 1) r).length + 1 = r.length + 1; rw [ih]
theorem plF_app (ts us : List Str) : ∀ i, plF i (ts ++ us) = plF i ts ++ plF (i + ts.length) us := by
  induction ts with
  | nil => intro i; rfl
  | cons t r ih =>
    intro i
    show (Sum.inr t, V.int (i : Nat)) :: plF (i + 1) (r ++ us) = (Sum.inr t, V.int (i : Nat)) :: (plF (i + 1) r ++ plF (i + (r.length + 1)) us)
    rw [ih, show i + 1 + r.length = i + (r.length + 1) by omega]
theorem plF_keys (ts : List Str) : ∀ i, (plF i ts).map (·.1) = ts.map Sum.inr := by
  induction ts with
  | nil => intro i; rfl
  | cons t r ih => intro i; show Sum.inr t :: (plF (i + 1) r).map (·.1) = Sum.inr t :: r.map Sum.inr; rw [ih]
theorem plc_put {ts : List Str} (nd : ts.Nodup) {i : Nat} {z : Str} (h : ts[i]? = some z) : putK (plc (ts.take i)) (.inr z) (.int (i : Nat)) = plc (ts.take (i + 1)) := by
  have hl : i < ts.length := (List.getElem?_eq_some_iff.mp h).1
  have nz : z ∉ ts.take i := fun m => by
    obtain ⟨j, hj, e⟩ := List.mem_iff_getElem.mp m
    rw [List.length_take] at hj
    rw [List.getElem_take] at e
    have e1 : ts[j]? = some z := by rw [List.getElem?_eq_getElem (by omega), e]
    have := (List.getElem?_inj (by omega) nd).mp (e1.trans h.symm)
    omega
  have na : ((plc (ts.take i)).any fun kv => decide (kv.1 = Sum.inr z)) = false := by
    rw [List.any_eq_false]
    intro kv hkv hd
    have hk : kv.1 ∈ (plc (ts.take i)).map (·.1) := List.mem_map.mpr ⟨kv, hkv, rfl⟩
    unfold plc at hk
    rw [plF_keys, of_decide_eq_true hd] at hk
    obtain ⟨y, hy, e⟩ := List.mem_map.mp hk
    cases e
    exact nz hy
  unfold putK
  rw [if_neg (by rw [na]; decide)]
  rw [List.take_add_one, h]
  unfold plc
  rw [plF_app, List.length_take, Nat.zero_add, Nat.min_eq_left (Nat.le_of_lt hl)]
  rfl
theorem plF_val {z : Str} (ts : List Str) : ∀ (i j : Nat), ts.Nodup → ts[j]? = some z → valV (plF i ts) (.inr z) = some (.int ((i + j : Nat) : Int)) := by
  induction ts with
  | nil => intro i j _ h; simp at h
  | cons t r ih =>
    intro i j nd h
    cases j with
    | zero =>
      rw [List.getElem?_cons_zero] at h
      cases h
      unfold plF valV
      rw [List.find?_cons_of_pos (by simp)]
      rfl
    | succ j =>
      rw [List.getElem?_cons_succ] at h
      have hz : z ∈ r := List.mem_of_getElem? h
      have ne : t ≠ z := fun e => (List.nodup_cons.mp nd).1 (e ▸ hz)
      have := ih (i + 1) j (List.nodup_cons.mp nd).2 h
      unfold plF
      unfold valV at this ⊢
      rw [List.find?_cons_of_neg (by simpa using ne), this]
      rw [show i + 1 + j = i + (j + 1) by omega]
theorem plc_val {z : Str} {ts : List Str} {j : Nat} (nd : ts.Nodup) (h : ts[j]? = some z) : valV (plc ts) (.inr z) = some (.int (j : Nat)) := by
  have := plF_val ts 0 j nd h
  rw [Nat.zero_add] at this
  exact this
theorem fz_inj {H : Hp} {a : Addr} {ts us : List Str} (h : FzT H a (ts.map V.str)) (h2 : FzT H a (us.map V.str)) : ts = us := by
  obtain ⟨o, e, _⟩ := h
  obtain ⟨o2, e2, _⟩ := h2
  have e3 := e.symm.trans e2
  injection e3 with e3
  injection e3 with _ e3
  injection e3 with e3
  exact List.map_inj_right (fun _ _ h => by injection h) |>.mp e3
/-- the walk of such a comprehension -/
theorem dc_places {K : PySem.W.Frag} {n D : Addr} {ts : List Str} {j1 j2 : Nat} {σ : L2.St} {vs : List Nat} {H : Hp} {Qd : Hp → Prop} (hS : FzT H n (ts.map V.str)) (hD : H D = none) (nd : ts.Nodup) (hl : ts.length < 1000)
    (h1 : ∀ a b, (((wipe σ vs).set j1 (some a)).set j2 (some b))[j2]? = some (some b)) (h2 : ∀ a b, (((wipe σ vs).set j1 (some a)).set j2 (some b))[j1]? = some (some a)) (hw : ∀ a b, wipe (((wipe σ vs).set j1 (some a)).set j2 (some b)) vs = wipe σ vs)
    (hd : ∀ H', Same H H' → H' D = some (.dK (plc ts)) → Qd H') :
    ∃ W : Nat → Nat → Hp → Prop, (∃ m, W 0 m (upd H D (.dK []))) ∧ ∀ i m H, W i m H →
      ((Iet K n).stop i H ∧ Qd H) ∨ ((Iet K n).go i H ∧ ∃ Nx : Hp → Prop, (∀ H', Nx H' → ∃ m', m' < m ∧ W (i + 1) m' H') ∧ ∀ x H', (Iet K n).yld i H x H' → gTup K 2 (gCons (gName j1) (gCons (gName j2) gNil)) x (wipe σ vs) H' fun σ2 H2 => wipe σ2 vs = wipe σ vs ∧ tYes σ2 H2 fun b H3 =>
        if b = true then tVar j2 σ2 H3 fun y H4 => tVar j1 σ2 H4 fun z H5 => ∃ kvs k, y = kV k ∧ H5 D = some (.dK kvs) ∧ kvs.length < sizeLine ∧ Nx (upd H5 D (.dK (putK kvs k z))) else Nx H3) := by
  refine ⟨fun i m H' => i + m = ts.length ∧ Same H H' ∧ H' D = some (.dK (plc (ts.take i))), ⟨ts.length, Nat.zero_add _, same_new hD, upd_same⟩, fun i m H' w => ?_⟩
  obtain ⟨em, s, eD⟩ := w
  have hq := (hS.keep s).sq (K := K)
  cases m with
  | zero =>
    refine .inl ⟨⟨_, hq, by rw [List.length_map]; omega⟩, hd H' s ?_⟩
    rw [eD, List.take_of_length_le (by omega)]
  | succ m =>
    have hi : i < ts.length := by omega
    have ez : ts[i]? = some ts[i] := List.getElem?_eq_getElem hi
    refine .inr ⟨⟨_, .str ts[i], hq, by rw [List.getElem?_map, ez]; rfl⟩, fun H2 => Same H H2 ∧ H2 D = some (.dK (plc (ts.take (i + 1)))), fun H2 ⟨a, b⟩ => ⟨m, Nat.lt_succ_self m, by omega, a, b⟩, ?_⟩
    rintro x H2 ⟨p, v, rfl, np, rfl, hv⟩
    have ev : v = .str ts[i] := by
      have := hv _ hq
      rw [List.getElem?_map, ez] at this
      exact (Option.some.inj this).symm
    subst ev
    refine ⟨p, _, rfl, SqT.of upd_same, rfl, _, _, rfl, _, _, rfl, rfl, hw _ _, Gd.yes_if ⟨.str ts[i], h1 _ _, .int (i : Nat), h2 _ _, plc (ts.take i), .inr ts[i], rfl, ?_, ?_, ?_, ?_⟩⟩
    · rw [upd_ne (ne_of_none eD np)]
      exact eD
    · unfold plc
      rw [plF_len, List.length_take]
      exact small1000 (by omega)
    · intro b o e
      have hb := s _ _ e
      rw [upd_ne (ne_of_none e hD), upd_ne (ne_of_none hb np)]
      exact hb
    · rw [upd_same, plc_put nd ez]
end Ks
set_option Elab.async false
set_option linter.all false
set_option maxRecDepth 100000
set_option maxHeartbeats 4000000
namespace Ks
open PySem PySem.Spec PyProof.Rows L2 Gd Kx
def cS (i : Nat) : Stmt := inClass (Kx.topS 34) i
def nIni : List Str := ["self", "kinds", "constructors", "constructor", "place", "name"]
theorem scIni : FnScope nIni ["self", "kinds", "constructors"] (defScope (cS 0)) := ⟨rfl, rfl, rfl, by decide +kernel, rfl, by decide +kernel, by decide +kernel⟩
/-- the fields of a schema -/
def scF (k c n d : Addr) : List (Str × V) := putF "_places" (.ref d) (putF "_names" (.ref n) (putF "_constructors" (.ref c) (putF "_kinds" (.ref k) [])))
theorem scF_k {k c n d : Addr} : (scF k c n d).lookup ("_kinds" : Str) = some (V.ref k) := rfl
theorem scF_c {k c n d : Addr} : (scF k c n d).lookup ("_constructors" : Str) = some (V.ref c) := rfl
theorem scF_n {k c n d : Addr} : (scF k c n d).lookup ("_names" : Str) = some (V.ref n) := rfl
theorem scF_p {k c n d : Addr} : (scF k c n d).lookup ("_places" : Str) = some (V.ref d) := rfl
/-- an instance with such fields and the places of its names -/
def InS (C : Addr) (H : Hp) (a dx k c n : Addr) (ts : List Str) : Prop := ∃ d : Addr, H a = some (.ins C dx (scF k c n d)) ∧ H d = some (.dK (plc ts))
theorem InS.keep {C : Addr} {H H' : Hp} {a dx k c n : Addr} {ts : List Str} (h : InS C H a dx k c n ts) (s : Same H H') : InS C H' a dx k c n ts := by
  obtain ⟨d, h1, h2⟩ := h
  exact ⟨d, s _ _ h1, s _ _ h2⟩
/-- a schema at a -/
def ScAt (C : Addr) (H : Hp) (a : Addr) (m : Md) : Prop := ∃ dx k c n : Addr, InS C H a dx k c n (m.rs.map (·.1)) ∧ StT H k m.ks ∧ RowsT H c m.rs ∧ FzT H n ((m.rs.map (·.1)).map V.str)
theorem ScAt.keep {C : Addr} {H H' : Hp} {a : Addr} {m : Md} (h : ScAt C H a m) (s : Same H H') : ScAt C H' a m := by
  obtain ⟨dx, k, c, n, h1, h2, h3, h4⟩ := h
  exact ⟨dx, k, c, n, h1.keep s, s _ _ h2, h3.keep s, h4.keep s⟩
/-- what is known of the class -/
structure SCl (K : PySem.W.Frag) (C : Addr) : Prop where
  cls : Cls K C
  nk : NoAttr K C "_kinds"
  nc : NoAttr K C "_constructors"
  nn : NoAttr K C "_names"
  np : NoAttr K C "_places"
section
variable {P : Program} {w : World} {K : PySem.W.Frag} {mg : Str → Option Value} {base : Heap} {C : Addr}
/-- all but x stands -/
def But (x : Addr) (H H' : Hp) : Prop := ∀ b o, b ≠ x → H b = some o → H' b = some o
def spIni (C : Addr) : Sp := fun vs H Q _ => ∃ (x dx k c : Addr) (m : Md), vs = [.ref x, .ref k, .ref c] ∧ H x = some (.ins C dx []) ∧ StT H k m.ks ∧ RowsT H c m.rs ∧ Good m ∧
  ∀ n H', But x H H' → n ≠ x → InS C H' x dx k c n (m.rs.map (·.1)) → FzT H' n ((m.rs.map (·.1)).map V.str) → Q .non H'
theorem ok_ini {f fk fc ft : Addr} {fd fdk fdc fdt : FuncData} (F : Fun K "__init__" "Schema.__init__" (cS 0) f fd) (T : TS0 mg) (Z : SCl K C)
    (GK : FnOk P w K mg base CX0 2 fk fdk ["kinds"] spCk) (kk : PySem.W.keepIn K (.ref fk) = true) (bK : Binds K fdk ["kinds"] []) (gK : mg "_check_kinds" = some (.ref fk))
    (GC : FnOk P w K mg base CX0 3 fc fdc ["constructors", "kinds"] spCc) (kc : PySem.W.keepIn K (.ref fc) = true) (bC : Binds K fdc ["constructors", "kinds"] []) (gC : mg "_check_constructors" = some (.ref fc))
    (GT : FnOk P w K mg base CX0 1 ft fdt ["kinds", "constructors"] (fun vs H Q E => ∃ (a c : Addr), vs = [.ref a, .ref c] ∧ spCc [.ref c, .ref a] H Q E)) (kt : PySem.W.keepIn K (.ref ft) = true) (bT : Binds K fdt ["kinds", "constructors"] []) (gT : mg "_check_trees" = some (.ref ft)) :
    FnOk P w K mg base CX0 4 f fd ["self", "kinds", "constructors"] (spIni C) := by
  refine F.ok scIni (fun vs H Q E h => ?_) (fun cv A ou s H vs Q E hr h => ?_)
  · obtain ⟨x, dx, k, c, m, rfl, _⟩ := h
    rfl
  obtain ⟨x, dx, k, c, m, rfl, hx, hs, hc, g, q⟩ := h
  have hr2 : Room 2 (A.deeper (envOfC "Schema.__init__" (defScope (cS 0)) s.heap.objs.size f cv)) := hr.mono (by decide)
  have hr1 : Room 1 (A.deeper (envOfC "Schema.__init__" (defScope (cS 0)) s.heap.objs.size f cv)) := hr.mono (by decide)
  refine ⟨_, pss_cons (ps_expr (pe_call GK hr2 (by rfl) gK kk bK .nil pass0 (pa_cons (pv 1) pa_nil)))
    (pss_cons (ps_expr (pe_call GC hr (by rfl) gC kc bC .nil pass0 (pa_cons (pv 2) (pa_cons (pv 1) pa_nil))))
    (pss_cons (ps_expr (pe_call GT hr1 (by rfl) gT kt bT .nil pass0 (pa_cons (pv 1) (pa_cons (pv 2) pa_nil))))
    (pss_cons (ps_fld (pv 0) (pv 1) rfl)
    (pss_cons (ps_fld (pv 0) (pv 2) rfl)
    (pss_cons (ps_fld (pv 0) (pe_tupF (by rfl) T.tup (pe_lc (own := [("constructor", 3)]) (g := gName 3) (tt := tYes) rfl scIni.nd (pi_tup (pv 2)) (blkOk_by (own := [("constructor", 3)]) (N := nIni) (sc := defScope (cS 0)) (by decide +kernel))
      (fun _ _ _ _ _ => pg_name (i := 3) scIni.nd rfl (Or.inl rfl)) (fun _ _ _ _ _ => pts_nil) (fun _ _ _ _ _ => asTE (te := tOp (rIxT K) (tVar 3) (tC (.int 0))) (pe_ix ix_tup (pv 3) pe_int (fun _ _ => rfl)) rfl))) rfl)
    (pss_one (ps_fld (pv 0) (pe_dc (own := [("place", 4), ("name", 5)]) (g := gTup K 2 (gCons (gName 4) (gCons (gName 5) gNil))) (tt := tYes) (tk := tVar 5) (tv := tVar 4) rfl scIni.nd (pi_enT (by rfl) T.enu (pa_cons (pe_fld (pv 0) rfl) pa_nil)) (blkOk_by (own := [("place", 4), ("name", 5)]) (N := nIni) (sc := defScope (cS 0)) (by decide +kernel))
      (fun _ _ _ _ _ => pg_tup (by rfl) (pgs_cons (pg_name (i := 4) scIni.nd rfl (Or.inl rfl)) (pgs_cons (pg_name (i := 5) scIni.nd rfl (Or.inl rfl)) pgs_nil))) (fun _ _ _ _ _ => pts_nil) (fun _ _ _ _ _ => pv 5) (fun _ _ _ _ _ => pv 4)) rfl))))))), ?_⟩
  refine ⟨.ref k, rfl, k, m, rfl, hs, g, fun H1 s1 => ?_⟩
  refine ⟨.ref c, rfl, .ref k, rfl, c, k, m, rfl, s1 _ _ hs, hc.keep s1, g, fun H2 s2 => ?_⟩
  have s12 := s1.trans s2
  refine ⟨.ref k, rfl, .ref c, rfl, k, c, rfl, c, k, m, rfl, s12 _ _ hs, hc.keep s12, g, fun H3 s3 => ?_⟩
  have s13 := s12.trans s3
  refine ⟨.ref k, rfl, .ref x, rfl, x, C, dx, [], rfl, s13 _ _ hx, Z.cls, Z.nk, by decide, ?_⟩
  refine ⟨.ref c, rfl, .ref x, rfl, x, C, dx, _, rfl, upd_same, Z.cls, Z.nc, (show 1 < 1000 by decide), ?_⟩
  have hs' : H k = some (.tup (m.ks.map V.str)) := hs
  have kx : k ≠ x := fun e => by rw [e, hx] at hs'; cases hs'
  obtain ⟨xs, hc1, hp⟩ := hc
  have b5 : But x H (upd (upd H3 x (.ins C dx (putF "_kinds" (V.ref k) []))) x (.ins C dx (putF "_constructors" (V.ref c) (putF "_kinds" (V.ref k) [])))) := fun b o n e => by
    rw [upd_ne n, upd_ne n]
    exact s13 _ _ e
  have x5 : (upd (upd H3 x (.ins C dx (putF "_kinds" (V.ref k) []))) x (.ins C dx (putF "_constructors" (V.ref c) (putF "_kinds" (V.ref k) [])))) x = some (.ins C dx (putF "_constructors" (V.ref c) (putF "_kinds" (V.ref k) []))) := upd_same
  revert b5 x5
  generalize upd (upd H3 x (.ins C dx (putF "_kinds" (V.ref k) []))) x (.ins C dx (putF "_constructors" (V.ref c) (putF "_kinds" (V.ref k) []))) = H5
  intro b5 x5
  have hc5 : TupA H5 c xs := hc1.by fun o _ n e => b5 _ _ (fun z => by rw [z, hx] at e; cases e; exact n _ _ _ rfl) e
  have r6 := g.r6
  have ln : xs.length = m.rs.length := Paired.length hp
  refine ⟨.ref c, rfl, c, rfl, ⟨_, hc5.sq⟩, fun D nD => lc_funT (K := K) (a := c) (xs := xs) (ys := (m.rs.map (·.1)).map V.str) (fun _ => rfl) nD hc5.sq (by omega) (by rw [List.length_map, List.length_map, ln]) (fun n y z H6 hy hz s6 p => ?_) fun H6 s6 eD => ?_⟩
  · intro kk
    obtain ⟨r, hr2, b, fa, rfl, hb, hf⟩ := rows_at hp hy
    rw [List.getElem?_map, List.getElem?_map, hr2] at hz
    cases hz
    have bx : b ≠ x := fun e => by rw [e, hx] at hb; cases hb
    exact ⟨.ref b, rfl, b, _, _, .str r.1, rfl, rfl, SqT.of (s6 _ _ (b5 _ _ bx hb)), rfl, kk H6 fun _ _ e => e⟩
  · refine ⟨D, _, rfl, SqL.of eD, fun N H7 nN s7 fz => ?_⟩
    have x6 := s6 _ _ x5
    have Nx : N ≠ x := fun e => by rw [← e, nN] at x6; cases x6
    refine ⟨.ref x, rfl, x, C, dx, _, rfl, s7 _ _ x6, Z.cls, Z.nn, (show 2 < 1000 by decide), ?_⟩
    have fz8 : FzT (upd H7 x (.ins C dx (putF "_names" (V.ref N) (putF "_constructors" (V.ref c) (putF "_kinds" (V.ref k) []))))) N ((m.rs.map (·.1)).map V.str) := by
      obtain ⟨o, e, r⟩ := fz
      exact ⟨o, by rw [upd_ne Nx]; exact e, r⟩
    have b8 : But x H (upd H7 x (.ins C dx (putF "_names" (V.ref N) (putF "_constructors" (V.ref c) (putF "_kinds" (V.ref k) []))))) := fun b o n e => by
      rw [upd_ne n]
      exact s7 _ _ (s6 _ _ (b5 _ _ n e))
    have x8 : (upd H7 x (.ins C dx (putF "_names" (V.ref N) (putF "_constructors" (V.ref c) (putF "_kinds" (V.ref k) []))))) x = some (.ins C dx (putF "_names" (V.ref N) (putF "_constructors" (V.ref c) (putF "_kinds" (V.ref k) [])))) := upd_same
    revert fz8 b8 x8
    generalize upd H7 x (.ins C dx (putF "_names" (V.ref N) (putF "_constructors" (V.ref c) (putF "_kinds" (V.ref k) [])))) = H8
    intro fz8 b8 x8
    refine ⟨.ref x, rfl, x, C, dx, _, _, rfl, x8, Z.cls, Z.nn, rfl, N, _, rfl, fz8.sq, fun Dd nDd => dc_places fz8 nDd g.rd (by rw [List.length_map]; omega) (fun _ _ => rfl) (fun _ _ => rfl) (fun _ _ => rfl) fun H9 s9 eDd => ?_⟩
    have x9 := s9 _ _ x8
    have Dx : Dd ≠ x := fun e => by rw [← e, nDd] at x8; cases x8
    refine ⟨.ref x, rfl, x, C, dx, _, rfl, x9, Z.cls, Z.np, (show 3 < 1000 by decide), ?_⟩
    refine q N _ (fun b o n e => ?_) Nx ⟨Dd, upd_same, ?_⟩ ?_
    · rw [upd_ne n]
      exact s9 _ _ (b8 _ _ n e)
    · rw [upd_ne Dx]
      exact eDd
    · obtain ⟨o, e, r⟩ := fz8
      exact ⟨o, by rw [upd_ne Nx]; exact s9 _ _ e, r⟩
end
end Ks
set_option Elab.async false
set_option linter.all false
set_option maxRecDepth 100000
set_option maxHeartbeats 4000000
namespace Ks
open PySem PySem.Spec PyProof.Rows L2 Gd Kx
theorem scGk : FnScope ["self"] ["self"] (defScope (cS 2)) := ⟨rfl, rfl, rfl, by decide +kernel, rfl, by decide +kernel, by decide +kernel⟩
theorem scGc : FnScope ["self"] ["self"] (defScope (cS 3)) := ⟨rfl, rfl, rfl, by decide +kernel, rfl, by decide +kernel, by decide +kernel⟩
theorem scGr : FnScope ["self"] ["self"] (defScope (cS 4)) := ⟨rfl, rfl, rfl, by decide +kernel, rfl, by decide +kernel, by decide +kernel⟩
theorem scGn : FnScope ["self"] ["self"] (defScope (cS 5)) := ⟨rfl, rfl, rfl, by decide +kernel, rfl, by decide +kernel, by decide +kernel⟩
theorem scOf : FnScope ["self", "kind", "constructor"] ["self", "kind"] (defScope (cS 6)) := ⟨rfl, rfl, rfl, by decide +kernel, rfl, by decide +kernel, by decide +kernel⟩
theorem scCo : FnScope ["self", "name"] ["self", "name"] (defScope (cS 7)) := ⟨rfl, rfl, rfl, by decide +kernel, rfl, by decide +kernel, by decide +kernel⟩
theorem scPl : FnScope ["self", "name"] ["self", "name"] (defScope (cS 8)) := ⟨rfl, rfl, rfl, by decide +kernel, rfl, by decide +kernel, by decide +kernel⟩
theorem scLn : FnScope ["self"] ["self"] (defScope (cS 11)) := ⟨rfl, rfl, rfl, by decide +kernel, rfl, by decide +kernel, by decide +kernel⟩
theorem scCn : FnScope ["self", "value"] ["self", "value"] (defScope (cS 12)) := ⟨rfl, rfl, rfl, by decide +kernel, rfl, by decide +kernel, by decide +kernel⟩
section
variable {P : Program} {w : World} {K : PySem.W.Frag} {mg : Str → Option Value} {base : Heap} {C : Addr}
/-- an instance with the fields of a schema -/
def Raw (C : Addr) (H : Hp) (a k c n : Addr) : Prop := ∃ (dx : Addr) (ts : List Str), InS C H a dx k c n ts ∧ FzT H n (ts.map V.str)
theorem Raw.keep {C : Addr} {H H' : Hp} {a k c n : Addr} (h : Raw C H a k c n) (s : Same H H') : Raw C H' a k c n := by
  obtain ⟨dx, ts, h1, h2⟩ := h
  exact ⟨dx, ts, h1.keep s, h2.keep s⟩
def spGk (C : Addr) : Sp := fun vs H Q _ => ∃ a k c n : Addr, vs = [.ref a] ∧ Raw C H a k c n ∧ Q (.ref k) H
def spGc (C : Addr) : Sp := fun vs H Q _ => ∃ a k c n : Addr, vs = [.ref a] ∧ Raw C H a k c n ∧ Q (.ref c) H
def spGn (C : Addr) : Sp := fun vs H Q _ => ∃ a k c n : Addr, vs = [.ref a] ∧ Raw C H a k c n ∧ Q (.ref n) H
def spGr (C : Addr) : Sp := fun vs H Q _ => ∃ (a k c n : Addr) (z : Str) (r : List Str), vs = [.ref a] ∧ Raw C H a k c n ∧ StT H k (z :: r) ∧ Q (.str z) H
theorem ok_gk {f : Addr} {fd : FuncData} (F : Fun K "kinds" "Schema.kinds" (cS 2) f fd) (Z : SCl K C) : FnOk P w K mg base CX0 1 f fd ["self"] (spGk C) := by
  refine F.ok scGk (fun vs H Q E h => ?_) (fun cv A ou s H vs Q E hr h => ?_)
  · obtain ⟨a, k, c, n, rfl, _⟩ := h
    rfl
  obtain ⟨a, k, c, n, rfl, ⟨dx, ts0, ⟨dp, e, ed⟩, fz0⟩, q⟩ := h
  exact ⟨_, pss_one (ps_ret (pe_fld (pv 0) rfl)), .ref a, rfl, a, C, dx, _, _, rfl, e, Z.cls, Z.nk, scF_k, q⟩
theorem ok_gc {f : Addr} {fd : FuncData} (F : Fun K "constructors" "Schema.constructors" (cS 3) f fd) (Z : SCl K C) : FnOk P w K mg base CX0 1 f fd ["self"] (spGc C) := by
  refine F.ok scGc (fun vs H Q E h => ?_) (fun cv A ou s H vs Q E hr h => ?_)
  · obtain ⟨a, k, c, n, rfl, _⟩ := h
    rfl
  obtain ⟨a, k, c, n, rfl, ⟨dx, ts0, ⟨dp, e, ed⟩, fz0⟩, q⟩ := h
  exact ⟨_, pss_one (ps_ret (pe_fld (pv 0) rfl)), .ref a, rfl, a, C, dx, _, _, rfl, e, Z.cls, Z.nc, scF_c, q⟩
theorem ok_gn {f : Addr} {fd : FuncData} (F : Fun K "names" "Schema.names" (cS 5) f fd) (Z : SCl K C) : FnOk P w K mg base CX0 1 f fd ["self"] (spGn C) := by
  refine F.ok scGn (fun vs H Q E h => ?_) (fun cv A ou s H vs Q E hr h => ?_)
  · obtain ⟨a, k, c, n, rfl, _⟩ := h
    rfl
  obtain ⟨a, k, c, n, rfl, ⟨dx, ts0, ⟨dp, e, ed⟩, fz0⟩, q⟩ := h
  exact ⟨_, pss_one (ps_ret (pe_fld (pv 0) rfl)), .ref a, rfl, a, C, dx, _, _, rfl, e, Z.cls, Z.nn, scF_n, q⟩
theorem ok_gr {f : Addr} {fd : FuncData} (F : Fun K "root" "Schema.root" (cS 4) f fd) (Z : SCl K C) : FnOk P w K mg base CX0 1 f fd ["self"] (spGr C) := by
  refine F.ok scGr (fun vs H Q E h => ?_) (fun cv A ou s H vs Q E hr h => ?_)
  · obtain ⟨a, k, c, n, z, r, rfl, _⟩ := h
    rfl
  obtain ⟨a, k, c, n, z, r, rfl, ⟨dx, ts0, ⟨dp, e, ed⟩, fz0⟩, hk, q⟩ := h
  exact ⟨_, pss_one (ps_ret (pe_ix ix_tup (pe_fld (pv 0) rfl) pe_int (fun _ _ => rfl))), .ref a, rfl, a, C, dx, _, _, rfl, e, Z.cls, Z.nk, scF_k, k, _, _, V.str z, rfl, rfl, SqT.of hk, atI_nat (j := 0) (v := V.str z) rfl, q⟩
def spLn (C : Addr) : Sp := fun vs H Q _ => ∃ (a k c n : Addr) (xs : List V), vs = [.ref a] ∧ Raw C H a k c n ∧ TupA H c xs ∧ Q (.int xs.length) H
theorem ok_ln {f : Addr} {fd : FuncData} (F : Fun K "__len__" "Schema.__len__" (cS 11) f fd) (T : TS0 mg) (Z : SCl K C) : FnOk P w K mg base CX0 1 f fd ["self"] (spLn C) := by
  refine F.ok scLn (fun vs H Q E h => ?_) (fun cv A ou s H vs Q E hr h => ?_)
  · obtain ⟨a, k, c, n, xs, rfl, _⟩ := h
    rfl
  obtain ⟨a, k, c, n, xs, rfl, ⟨dx, ts0, ⟨dp, e, ed⟩, fz0⟩, hc, q⟩ := h
  exact ⟨_, pss_one (ps_ret (pe_callB call_len_seq (by rfl) T.len PySem.boot_len (pa_cons (pe_fld (pv 0) rfl) pa_nil))), .ref a, rfl, a, C, dx, _, _, rfl, e, Z.cls, Z.nc, scF_c, c, xs, rfl, .inr hc.sq, q⟩
def spCn (K : PySem.W.Frag) (C : Addr) : Sp := fun vs H Q _ => ∃ (a k c n : Addr) (v : V) (ts : List Str) (b : Bool), vs = [.ref a, v] ∧ Raw C H a k c n ∧ FzT H n (ts.map V.str) ∧ OneOf K H v ts b ∧ Q (.bl b) H
theorem ok_cn {f fo : Addr} {fd fdo : FuncData} (F : Fun K "__contains__" "Schema.__contains__" (cS 12) f fd) (Z : SCl K C)
    (GO : FnOk P w K mg base CX0 1 fo fdo ["value", "names"] (spOne K)) (ko : PySem.W.keepIn K (.ref fo) = true) (bO : Binds K fdo ["value", "names"] []) (gO : mg "_is_one_of" = some (.ref fo)) : FnOk P w K mg base CX0 2 f fd ["self", "value"] (spCn K C) := by
  refine F.ok scCn (fun vs H Q E h => ?_) (fun cv A ou s H vs Q E hr h => ?_)
  · obtain ⟨a, k, c, n, v, ts, b, rfl, _⟩ := h
    rfl
  obtain ⟨a, k, c, n, v, ts, b, rfl, ⟨dx, ts0, ⟨dp, e, ed⟩, fz0⟩, hn, o, q⟩ := h
  exact ⟨_, pss_one (ps_ret (pe_call GO hr (by rfl) gO ko bO .nil pass0 (pa_cons (pv 1) (pa_cons (pe_fld (pv 0) rfl) pa_nil)))), v, rfl, .ref a, rfl, a, C, dx, _, _, rfl, e, Z.cls, Z.nn, scF_n, v, n, ts, b, rfl, hn.sq, o, q⟩
/-- the place of a name -/
def spPl (C : Addr) : Sp := fun vs H Q _ => ∃ (a k c n : Addr) (ts : List Str) (z : Str) (j : Nat), vs = [.ref a, .str z] ∧ Raw C H a k c n ∧ FzT H n (ts.map V.str) ∧ ts.Nodup ∧ ts[j]? = some z ∧ Q (.int (j : Nat)) H
theorem ok_pl {f fo : Addr} {fd fdo : FuncData} (F : Fun K "place" "Schema.place" (cS 8) f fd) (Z : SCl K C)
    (GO : FnOk P w K mg base CX0 1 fo fdo ["value", "names"] (spOne K)) (ko : PySem.W.keepIn K (.ref fo) = true) (bO : Binds K fdo ["value", "names"] []) (gO : mg "_is_one_of" = some (.ref fo)) : FnOk P w K mg base CX0 2 f fd ["self", "name"] (spPl C) := by
  refine F.ok scPl (fun vs H Q E h => ?_) (fun cv A ou s H vs Q E hr h => ?_)
  · obtain ⟨a, k, c, n, ts, z, j, rfl, _⟩ := h
    rfl
  obtain ⟨a, k, c, n, ts, z, j, rfl, ⟨dx, ts0, ⟨dp, e, ed⟩, fz0⟩, hn, nd, hj, q⟩ := h
  refine ⟨_, pss_cons (ps_if (pt_not (pt_val (pe_call GO hr (by rfl) gO ko bO .nil pass0 (pa_cons (pv 1) (pa_cons (pe_fld (pv 0) rfl) pa_nil))))) pss_never pss_nil)
    (pss_one (ps_ret (pe_dget (hu_of hr) (pe_fld (pv 0) rfl) (pv 1) (fun _ _ => rfl)))), ?_⟩
  refine ⟨.str z, rfl, .ref a, rfl, a, C, dx, _, _, rfl, e, Z.cls, Z.nn, scF_n, .str z, n, ts, true, rfl, hn.sq, .inl ⟨z, rfl, (decide_eq_true (List.mem_of_getElem? hj)).symm⟩, true, rfl, iteF ?_⟩
  have ets := fz_inj fz0 hn
  subst ets
  exact ⟨.ref a, rfl, a, C, dx, _, _, rfl, e, Z.cls, Z.np, scF_p, .str z, rfl, dp, _, rfl, (by have := DGet.k (k := Sum.inr z) ed; rw [plc_val nd hj] at this; exact this), q⟩
/-- a constructor by its name -/
def spCo (C : Addr) : Sp := fun vs H Q _ => ∃ (a k c n : Addr) (ts : List Str) (xs : List V) (z : Str) (j : Nat) (x : V), vs = [.ref a, .str z] ∧ Raw C H a k c n ∧ FzT H n (ts.map V.str) ∧ ts.Nodup ∧ ts[j]? = some z ∧ TupA H c xs ∧ xs[j]? = some x ∧ Q x H
theorem ok_co {f fp : Addr} {fd fdp : FuncData} (F : Fun K "constructor" "Schema.constructor" (cS 7) f fd) (Z : SCl K C)
    (GP : FnOk P w K mg base CX0 2 fp fdp ["self", "name"] (spPl C)) (mP : Meth K C "place" fp) (bP : Binds K fdp ["self", "name"] []) : FnOk P w K mg base CX0 3 f fd ["self", "name"] (spCo C) := by
  refine F.ok scCo (fun vs H Q E h => ?_) (fun cv A ou s H vs Q E hr h => ?_)
  · obtain ⟨a, k, c, n, ts, xs, z, j, x, rfl, _⟩ := h
    rfl
  obtain ⟨a, k, c, n, ts, xs, z, j, x, rfl, ⟨dx, ts0, ⟨dp, e, ed⟩, fz0⟩, hn, nd, hj, hc, hx, q⟩ := h
  refine ⟨_, pss_one (ps_ret (pe_ix ix_tup (pe_fld (pv 0) rfl) (pe_meth (pv 0) Z.cls mP GP hr bP .nil pass0 (pa_cons (pv 1) pa_nil)) (fun _ _ => rfl))), ?_⟩
  exact ⟨.ref a, rfl, a, C, dx, _, _, rfl, e, Z.cls, Z.nc, scF_c, .ref a, rfl, a, dx, _, rfl, e, rfl, .str z, rfl, a, k, c, n, ts, z, j, rfl, ⟨dx, ts0, ⟨dp, e, ed⟩, fz0⟩, hn, nd, hj, c, xs, _, x, rfl, rfl, hc.sq, atI_nat hx, q⟩
end
end Ks
/-! names: k02 _law_words -/
set_option Elab.async false
set_option linter.all false
set_option maxRecDepth 100000
set_option maxHeartbeats 4000000
namespace Ks
open PySem PySem.Spec PyProof.Rows L2 Gd Kx
abbrev sWds : Stmt := Kx.topS 59
theorem scWds : FnScope ["_law_deal_here", "_law_many", "_law_found", "_law_k"] ["_law_deal_here", "_law_many"] (defScope sWds) := ⟨rfl, rfl, rfl, by decide +kernel, rfl, by decide +kernel, by decide +kernel⟩
section
variable {P : Program} {w : World} {K : PySem.W.Frag} {mg : Str → Option Value} {base : Heap}
def spWds : Sp := fun vs H Q _ => ∃ (p : Addr) (n : Nat), vs = [.ref p, .int (n : Nat)] ∧ DealAt H p ∧ n ≤ 40 ∧
  ∀ (q : Addr) (ts : List Str) (H' : Hp), DealAt H' p → Sb p H H' → H q = none → q ≠ p → H' q = some (.lst (ts.map V.str)) → (∀ z ∈ ts, nmS z = true) → ts.Nodup → ts.length = n → Q (.ref q) H'
theorem ok_wds {f fw : Addr} {fd fdw : FuncData} (F : Fun K "_law_words" "_law_words" sWds f fd) (mr : mg "range" = none)
    (GW : FnOk P w K mg base CX0 2 fw fdw ["_law_deal_here", "_law_taken"] spWord) (kw : PySem.W.keepIn K (.ref fw) = true) (bW : Binds K fdw ["_law_deal_here", "_law_taken"] []) (gW : mg "_law_word" = some (.ref fw)) : FnOk P w K mg base CX0 3 f fd ["_law_deal_here", "_law_many"] spWds := by
  refine F.ok scWds (fun vs H Q E h => ?_) (fun cv A ou s H vs Q E hr h => ?_)
  · obtain ⟨p, n, rfl, _⟩ := h
    rfl
  obtain ⟨p, n, rfl, hD, hn, k⟩ := h
  refine ⟨_, pss_cons (ps_set (i := 2) scWds.nd rfl (.inl rfl) (pe_lst pa_nil))
    (pss_cons (ps_for PassesOwn.never rfl (pi_range1 rfl mr (pa_cons (pv 1) pa_nil)) (pg_name (i := 3) scWds.nd rfl (.inl rfl))
      (pss_one (ps_expr (pe_bm PySem.F.plainAttrs_list PySem.F.slot_list_append PySem.F.type_list_append mt_append (pv 2) (pa_cons (pe_call GW hr (by rfl) gW kw bW .nil pass0 (pa_cons (pv 0) (pa_cons (pv 2) pa_nil))) pa_nil)))))
    (pss_one (ps_ret (pv 2)))), ?_⟩
  refine ⟨(by show 0 ≤ sizeLine; exact Nat.zero_le _), fun L nL => ?_⟩
  have Lp : L ≠ p := by
    obtain ⟨_, _, _, e, _⟩ := hD
    exact fun e2 => by rw [e2, e] at nL; cases nL
  refine ⟨_, rfl, _, rfl, ?_, ?_, for_range (n := n) (fun i σ H' => ∃ (o3 : Option V) (ts : List Str), σ = [some (.ref p), some (.int (n : Nat)), some (.ref L), o3] ∧ DealAt H' p ∧ Sb p H H' ∧ H' L = some (.lst (ts.map V.str)) ∧ (∀ z ∈ ts, nmS z = true) ∧ ts.Nodup ∧ ts.length = i)
    ⟨none, [], rfl, hD.keep (same_new nL), Sb.new nL, upd_same, fun z hz => (by cases hz), .nil, rfl⟩ ?_ ?_⟩
  · omega
  · omega
  · rintro i σ H1 hi ⟨o3, ts, rfl, D1, b1, eL, hz, nd, hl⟩
    refine ⟨.ref L, rfl, .inl ⟨rfl, _, SqL.of eL⟩, .ref p, rfl, .ref L, rfl, p, L, ts, rfl, D1, eL, Lp, by omega, fun z H2 nz ni D2 b2 => ?_⟩
    have eL2 := b2 L _ Lp eL
    refine ⟨L, _, _, rfl, rfl, eL2, ?_, some (.int (0 + (i : Int))), ts ++ [z], rfl, ?_, ?_, ?_, ?_, ?_, ?_⟩
    · rw [List.length_map]
      exact small1000 (by omega)
    · obtain ⟨x, y, c, e, l⟩ := D2
      exact ⟨x, y, c, by rw [upd_ne (fun e2 => Lp e2.symm)]; exact e, l⟩
    · intro b o nb e
      rw [upd_ne (ne_of_none e nL)]
      exact b2 b o nb (b1 b o nb e)
    · rw [upd_same, List.map_append]
      rfl
    · intro x hx
      rcases List.mem_append.mp hx with m | m
      · exact hz x m
      · rw [List.mem_singleton.mp m]
        exact nz
    · rw [List.nodup_append]
      exact ⟨nd, List.nodup_cons.mpr ⟨by simp, .nil⟩, fun x hx y hy e => ni (by rw [List.mem_singleton.mp hy] at e; rw [← e]; exact hx)⟩
    · rw [List.length_append, hl]
      rfl
  · rintro σ H1 ⟨o3, ts, rfl, D1, b1, eL, hz, nd, hl⟩
    exact ⟨.ref L, rfl, k L ts H1 D1 b1 nL Lp eL hz nd hl⟩
end
end Ks
set_option Elab.async false
set_option linter.all false
set_option maxRecDepth 100000
set_option maxHeartbeats 4000000
namespace Ks
open PySem PySem.Spec PyProof.Rows L2 Gd Kx
/-- what a changed deal leaves -/
theorem deal_ne {H : Hp} {p b : Addr} {xs : List V} (D : DealAt H p) (e : H b = some (.tup xs)) : b ≠ p := by
  obtain ⟨_, _, _, ep, _⟩ := D
  exact fun z => by rw [z, ep] at e; cases e
theorem RowV.sb {H H' : Hp} {p : Addr} {x : V} {r : Rw} (h : RowV H x r) (D : DealAt H p) (s : Sb p H H') : RowV H' x r := by
  obtain ⟨b, f, e, h1, h2⟩ := h
  have h2' : H f = some (.tup (r.2.2.map V.str)) := h2
  exact ⟨b, f, e, s _ _ (deal_ne D h1) h1, s _ _ (deal_ne D h2') h2'⟩
theorem RowV.but {H H' : Hp} {R : Addr} {x : V} {r : Rw} {ys : List V} (h : RowV H x r) (e : H R = some (.lst ys)) (s : Sb R H H') : RowV H' x r := by
  obtain ⟨b, f, ex, h1, h2⟩ := h
  have h2' : H f = some (.tup (r.2.2.map V.str)) := h2
  exact ⟨b, f, ex, s _ _ (fun z => by rw [z, e] at h1; cases h1) h1, s _ _ (fun z => by rw [z, e] at h2'; cases h2') h2'⟩
theorem cut_drop {xs : List V} {i : Nat} (h : i ≤ xs.length) : cutV xs (some (i : Int)) none = xs.drop i := by
  unfold cutV
  rw [HT.sIx_none, HT.sIx_nat, Nat.min_eq_left h, List.take_of_length_le (by rw [List.length_drop]; omega)]
theorem turned {α : Type} (l : List α) (d : Nat) : (l.drop d ++ l.take d).Perm l := by
  have h := List.perm_append_comm (l₁ := l.drop d) (l₂ := l.take d)
  rw [List.take_append_drop] at h
  exact h
theorem paired_app {H : Hp} : ∀ {xs ys : List V} {rs ss : List Rw}, Paired (RowV H) xs rs → Paired (RowV H) ys ss → Paired (RowV H) (xs ++ ys) (rs ++ ss)
  | _, _, _, _, .nil, h => h
  | _, _, _, _, .cons a t, h => .cons a (paired_app t h)
theorem paired_drop {H : Hp} : ∀ (n : Nat) {xs : List V} {rs : List Rw}, Paired (RowV H) xs rs → Paired (RowV H) (xs.drop n) (rs.drop n)
  | 0, _, _, h => h
  | n + 1, _, _, .nil => .nil
  | n + 1, _, _, .cons a t => paired_drop n t
theorem paired_take {H : Hp} : ∀ (n : Nat) {xs : List V} {rs : List Rw}, Paired (RowV H) xs rs → Paired (RowV H) (xs.take n) (rs.take n)
  | 0, _, _, h => .nil
  | n + 1, _, _, .nil => .nil
  | n + 1, _, _, .cons a t => .cons a (paired_take n t)
/-- a model at a -/
def MdAt (H : Hp) (a : Addr) (m : Md) : Prop := ∃ k r : Addr, H a = some (.tup [.ref k, .ref r]) ∧ StT H k m.ks ∧ RowsT H r m.rs
theorem MdAt.keep {H H' : Hp} {a : Addr} {m : Md} (h : MdAt H a m) (s : Same H H') : MdAt H' a m := by
  obtain ⟨k, r, e, h1, h2⟩ := h
  exact ⟨k, r, s _ _ e, s _ _ h1, h2.keep s⟩
theorem paired_snoc {H : Hp} : ∀ {xs : List V} {rs : List Rw} {x : V} {r : Rw}, Paired (RowV H) xs rs → RowV H x r → Paired (RowV H) (xs ++ [x]) (rs ++ [r])
  | _, _, _, _, .nil, h => .cons h .nil
  | _, _, _, _, .cons a t, h => .cons a (paired_snoc t h)
/-- its rows are a tuple that is known -/
def KnM (H : Hp) (a : Addr) : Prop := ∃ (k r : Addr) (xs : List V), H a = some (.tup [.ref k, .ref r]) ∧ FzT H r xs
end Ks
set_option Elab.async false
set_option linter.all false
set_option maxRecDepth 100000
set_option maxHeartbeats 4000000
/-! operations on an instance of a class of one's own, by its defs: len, repr, in, bool, ==, != -/
namespace Gd
open PySem PySem.Spec PyProof.Rows L2
section
variable {X : Cx} {CX : CXT} {k : Nat} {C f a dx : Addr} {fs : List (Str × V)} {fd : FuncData} {ps : List Str} {sp : Sp} {E : XK} {pins : List (Addr × Obj)} {σ : L2.St} {H : Hp} {s : Shared} {Q : VK} {A : Around} {us : List Value} {vs : List V} {E' : Value → Shared → Prop}
theorem run_at (F : FnOk X.prog X.w X.K X.mg X.base CX k f fd ps sp) (hr : Room k A) (e0 : Env0 X.prog X.w X.K X.mg X.base A X.stack s H) (hb : Binds X.K fd ps []) (hx : Passes CX X.nox E) (I : Inv X pins σ H s) (r : Vals vs us) (h : sp vs H Q E) :
    wpAny (model X.prog X.w) A (call (.ref f) us) (EP X pins σ Q) E' s := by
  have hl : (us ++ ([] : List Value)).length = ps.length := by rw [List.append_nil, ← r.length]; exact F.len _ _ _ _ h
  have hB := hb s us I.kIn hl
  rw [List.append_nil] at hB
  refine wpAny_call (codeAny_mono (F.run A X.stack s H ⟨us, []⟩ us vs Q E hr e0 hB r h) fun r s' hq => ?_)
  cases r with
  | error er => exact False.elim (hx pins σ H s er s' (I.wish _) hq)
  | ok fl =>
    cases fl with
    | ret u =>
      obtain ⟨v, H', I3, rv, q3⟩ := I.after hq
      exact ⟨v, H', I3, rv, q3⟩
    | next => exact False.elim hq
    | brk => exact False.elim hq
    | cont => exact False.elim hq
/-- a def of the class with this name -/
structure Dm (K : PySem.W.Frag) (C : Addr) (m : Str) (f : Addr) : Prop where
  at_ : PySem.W.findIn K (.ref C) m = some (some (.ref f))
  fn : PySem.W.isFn K (.ref f) = true
/-- len(x) -/
def rLenO (C : Addr) (sp : Sp) (E : XK) : List V → Hp → VK → Prop := fun xs H Q => ∃ a dx fs, xs = [.ref a] ∧ H a = some (.ins C dx fs) ∧ sp [.ref a] H (fun v H' => ∃ n : Int, v = .int n ∧ 0 ≤ n ∧ n < 2 ^ 63 ∧ Q (.int n) H') E
theorem call_lenO (D : Dm X.K C "__len__" f) (F : FnOk X.prog X.w X.K X.mg X.base CX k f fd ps sp) (hr : Room (k + 1) X.A) (hb : Binds X.K fd ps []) (hx : Passes CX X.nox E) : CallR X (.builtin "len") (rLenO C sp E) := by
  intro pins s σ H xs us Q I r h
  obtain ⟨a, dx, fs, rfl, ea, q⟩ := h
  have e1 := Vals.ref1 r
  subst e1
  obtain ⟨mA, J, _⟩ := ins_get I.hok ea
  obtain ⟨od, J, _⟩ := J.look
  obtain ⟨m, hF⟩ := I.fr
  refine PySem.W.len_K hF I.ok.mod.kin J D.at_ D.fn (wpAny_mono (run_at F hr.in1 I.env0.in1 hb hx I r q) (fun v s' z => ?_) fun _ _ e => e)
  obtain ⟨y, H', I', ry, n, ey, n0, n1, q2⟩ := z
  subst ey
  obtain ⟨t, rfl⟩ := ry
  exact ⟨⟨n0, n1⟩, .int n, H', I'.tok _, ⟨_, rfl⟩, q2⟩
/-- repr(x) -/
def rReprO (C : Addr) (sp : Sp) (E : XK) : List V → Hp → VK → Prop := fun xs H Q => ∃ a dx fs, xs = [.ref a] ∧ H a = some (.ins C dx fs) ∧ sp [.ref a] H (fun v H' => ∃ z : Str, v = .str z ∧ Q (.str z) H') E
theorem call_reprO (D : Dm X.K C "__repr__" f) (F : FnOk X.prog X.w X.K X.mg X.base CX k f fd ps sp) (hr : Room (k + 1) X.A) (hb : Binds X.K fd ps []) (hx : Passes CX X.nox E) : CallR X (.builtin "repr") (rReprO C sp E) := by
  intro pins s σ H xs us Q I r h
  obtain ⟨a, dx, fs, rfl, ea, q⟩ := h
  have e1 := Vals.ref1 r
  subst e1
  obtain ⟨mA, J, _⟩ := ins_get I.hok ea
  obtain ⟨od, J, _⟩ := J.look
  obtain ⟨m, hF⟩ := I.fr
  refine PySem.W.repr_K hr.in1.units0 hF I.ok.mod.kin J D.at_ D.fn (wpAny_mono (run_at F hr.in1 I.env0.in1 hb hx I r q) (fun v s' z => ?_) fun _ _ e => e)
  obtain ⟨y, H', I', ry, z, ey, q2⟩ := z
  subst ey
  obtain ⟨t, rfl⟩ := ry
  exact ⟨.str z, H', I', ⟨_, rfl⟩, q2⟩
/-- v in x -/
def rInO (C : Addr) (sp : Sp) (E : XK) : R2 := fun v y H Q => ∃ a dx fs, y = .ref a ∧ H a = some (.ins C dx fs) ∧ sp [.ref a, v] H (fun r H' => ∃ b : Bool, r = .bl b ∧ Q (.bl b) H') E
theorem op_inO (D : Dm X.K C "__contains__" f) (F : FnOk X.prog X.w X.K X.mg X.base CX k f fd ps sp) (hr : Room k X.A) (hb : Binds X.K fd ps []) (hx : Passes CX X.nox E) : OpR X (compareOp .In) (rInO C sp E) := by
  intro pins s σ H x y v u Q I rx ry h
  obtain ⟨a, dx, fs, rfl, ea, q⟩ := h
  obtain rfl : u = Value.ref a := ry
  obtain ⟨mA, J, _⟩ := ins_get I.hok ea
  obtain ⟨od, J, _⟩ := J.look
  obtain ⟨m, hF⟩ := I.fr
  refine PySem.W.in_K hF I.ok.mod.kin J D.at_ D.fn (wpAny_mono (run_at F hr I.env0 hb hx I (.cons (show RelV (V.ref a) (Value.ref a) from rfl) (.cons rx .nil)) q) (fun r s' z => ?_) fun _ _ e => e)
  obtain ⟨y, H', I', ry, b, ey, q2⟩ := z
  subst ey
  obtain rfl : r = Value.bool b := ry
  exact wpAny_pure ⟨.bl b, H', I', rfl, q2⟩
/-- x == y, x an instance: y one too, or a value of a type that is no class above -/
def rEqO (K : PySem.W.Frag) (C : Addr) (sp : Sp) (E : XK) : R2 := fun x y H Q => ∃ a dx fs, x = .ref a ∧ H a = some (.ins C dx fs) ∧ ((∃ b dy gs, y = .ref b ∧ H b = some (.ins C dy gs)) ∨ ∃ t, TyOf K H y t ∧ PySem.W.notFirst K C t = true) ∧
  sp [.ref a, y] H (fun r H' => ∃ b : Bool, r = .bl b ∧ Q (.bl b) H') E
/-- what type a value has, as the machine asks -/
theorem looks_ty {M : Model} {K : PySem.W.Frag} {y : V} {u t : Value} (hK : X.K = K) (I : Inv X pins σ H s) (r : RelV y u) (ty : TyOf K H y t) : PySem.W.Looks M s.heap (typeOf u) t := by
  subst hK
  have ld : ∀ {b : Addr} {o : Obj}, s.heap.get? b = some o → PySem.W.Looks M s.heap (typeOf (.ref b)) o.cls := fun e => (PySem.W.Looks.ld e).andThen .now
  cases ty with
  | non => cases (show u = Value.none from r); exact .now
  | bl b => cases (show u = Value.bool b from r); exact .now
  | int i => obtain ⟨t, e⟩ := (show ∃ t, u = Value.int i t from r); cases e; exact .now
  | str z => obtain ⟨t, e⟩ := (show ∃ t, u = Value.str z t from r); cases e; exact .now
  | flt z => obtain ⟨t, e⟩ := (show ∃ t, u = Value.float z t from r); cases e; exact .now
  | @lst b xs e =>
    cases (show u = Value.ref b from r)
    obtain ⟨_, its, n, _, g⟩ := (show ObjOk X.prog X.w H s.heap b (.lst xs) from I.hok b _ e)
    exact ld g
  | @frz b ob xs e =>
    cases (show u = Value.ref b from r)
    obtain ⟨_, _, its, n, _, g⟩ := (show ObjOk X.prog X.w H s.heap b (.frz ob (.lst xs)) from I.hok b _ e)
    exact ld g
  | @tup b xs e =>
    cases (show u = Value.ref b from r)
    obtain ⟨_, its, _, o, g, c, _⟩ := (show ObjOk X.prog X.w H s.heap b (.tup xs) from I.hok b _ e)
    rw [← c]
    exact ld g
  | @dK b kvs e =>
    cases (show u = Value.ref b from r)
    obtain ⟨_, _, vs, _, o, es, ep, g, ex, _⟩ := (show ObjOk X.prog X.w H s.heap b (.dK kvs) from I.hok b _ e)
    rw [← ex.1]
    exact ld g
  | @dT b kvs e =>
    cases (show u = Value.ref b from r)
    obtain ⟨_, _, xs, _, o, es, ep, g, ex, _⟩ := (show ObjOk X.prog X.w H s.heap b (.dT kvs) from I.hok b _ e)
    rw [← ex.1]
    exact ld g
  | @ins b C dx fs e cl ha hn htk hm =>
    cases (show u = Value.ref b from r)
    obtain ⟨mA, J, _⟩ := ins_get I.hok e
    obtain ⟨od, J, _⟩ := J.look
    exact J.type
theorem op_eqO (D : Dm X.K C "__eq__" f) (F : FnOk X.prog X.w X.K X.mg X.base CX k f fd ps sp) (hr : Room k X.A) (hb : Binds X.K fd ps []) (hx : Passes CX X.nox E) : OpR X (compareOp .Eq) (rEqO X.K C sp E) := by
  intro pins s σ H x y v u Q I rx ry h
  obtain ⟨a, dx, fs, rfl, ea, hy, q⟩ := h
  obtain rfl : v = Value.ref a := rx
  obtain ⟨mA, J, _⟩ := ins_get I.hok ea
  obtain ⟨od, J, _⟩ := J.look
  obtain ⟨m, hF⟩ := I.fr
  obtain ⟨tb, hb', hn⟩ : ∃ tb, PySem.W.Looks (model X.prog X.w) s.heap (typeOf u) tb ∧ PySem.W.notFirst X.K C tb = true := by
    rcases hy with ⟨b, dy, gs, rfl, eb⟩ | ⟨t, ty, nf⟩
    · obtain rfl : u = Value.ref b := ry
      obtain ⟨mB, J2, _⟩ := ins_get I.hok eb
      obtain ⟨od2, J2, _⟩ := J2.look
      exact ⟨_, J2.type, by simp [PySem.W.notFirst]⟩
    · exact ⟨t, looks_ty rfl I ry ty, nf⟩
  show wpAny _ _ (richCompare .Eq (.ref a) u) _ _ _
  refine PySem.W.cmp_K (op := .Eq) hr.units0 hF I.ok.mod.kin J hb' hn D.at_ D.fn (wpAny_mono (run_at F hr I.env0 hb hx I (.cons (show RelV (V.ref a) (Value.ref a) from rfl) (.cons ry .nil)) q) (fun r s' z => ?_) fun _ _ e => e)
  obtain ⟨y, H', I', ry, b, ey, q2⟩ := z
  subst ey
  obtain rfl : r = Value.bool b := ry
  exact ⟨.bl b, H', I', rfl, q2⟩
end
end Gd
set_option Elab.async false
set_option linter.all false
set_option maxRecDepth 100000
set_option maxHeartbeats 4000000
namespace Ks
open PySem PySem.Spec PyProof.Rows L2 Gd Kx
theorem scEq : FnScope ["self", "other"] ["self", "other"] (defScope (cS 13)) := ⟨rfl, rfl, rfl, by decide +kernel, rfl, by decide +kernel, by decide +kernel⟩
theorem scRp : FnScope ["self"] ["self"] (defScope (cS 10)) := ⟨rfl, rfl, rfl, by decide +kernel, rfl, by decide +kernel, by decide +kernel⟩
/-! ### kinds and constructors as plain data -/
def dSs (ss : List Str) : PyData := .tuple (ss.map .str)
def dRw (r : Rw) : PyData := .tuple [.str r.1, .str r.2.1, dSs r.2.2]
def dRs (rs : List Rw) : PyData := .tuple (rs.map dRw)
section
variable {K : PySem.W.Frag} {H : Hp}
theorem dp_strs : ∀ ss : List Str, DpAll K H (ss.map V.str) (ss.map PyData.str)
  | [] => .nil
  | s :: r => .cons (.str s) (dp_strs r)
theorem dp_st {a : Addr} {ss : List Str} (h : SqT K H a (ss.map V.str)) : Dp K H (.ref a) (dSs ss) := .tup h (dp_strs ss)
theorem dp_row {x : V} {r : Rw} (h : RowV H x r) : Dp K H x (dRw r) := by
  obtain ⟨b, f, rfl, h1, h2⟩ := h
  exact .tup (SqT.of h1) (.cons (.str _) (.cons (.str _) (.cons (dp_st (SqT.of h2)) .nil)))
theorem dp_rws : ∀ {xs : List V} {rs : List Rw}, Paired (RowV H) xs rs → DpAll K H xs (rs.map dRw)
  | _, _, .nil => .nil
  | _, _, .cons h t => .cons (dp_row h) (dp_rws t)
theorem dp_rs {c : Addr} {rs : List Rw} (h : RowsT H c rs) : Dp K H (.ref c) (dRs rs) := by
  obtain ⟨xs, e, p⟩ := h
  exact .tup e.sq (dp_rws p)
end
theorem eqvAll_map {α : Type} [DecidableEq α] {d : α → PyData} (h : ∀ x y : α, PyData.eqv (d x) (d y) = decide (x = y)) : ∀ xs ys : List α, PyData.eqvAll (xs.map d) (ys.map d) = decide (xs = ys)
  | [], [] => rfl
  | [], y :: ys => rfl
  | x :: xs, [] => rfl
  | x :: xs, y :: ys => by
    show (PyData.eqv (d x) (d y) && PyData.eqvAll (xs.map d) (ys.map d)) = _
    rw [h, eqvAll_map h xs ys, Bool.eq_iff_iff]
    simp
theorem eqv_str (x y : Str) : PyData.eqv (.str x) (.str y) = decide (x = y) := by
  show (x == y) = _
  rw [Bool.eq_iff_iff]
  simp
theorem eqv_ss (a b : List Str) : PyData.eqv (dSs a) (dSs b) = decide (a = b) := eqvAll_map eqv_str a b
theorem eqv_rw (a b : Rw) : PyData.eqv (dRw a) (dRw b) = decide (a = b) := by
  show (PyData.eqv (.str a.1) (.str b.1) && (PyData.eqv (.str a.2.1) (.str b.2.1) && (PyData.eqv (dSs a.2.2) (dSs b.2.2) && true))) = _
  rw [eqv_str, eqv_str, eqv_ss, Bool.eq_iff_iff]
  obtain ⟨a1, a2, a3⟩ := a
  obtain ⟨b1, b2, b3⟩ := b
  simp
theorem eqv_rs (a b : List Rw) : PyData.eqv (dRs a) (dRs b) = decide (a = b) := eqvAll_map eqv_rw a b
theorem inN_ok {c : Nat} (h : inN c = true) : c < 0x110000 := by
  have m : c ∈ signs.cps.toList := of_decide_eq_true h
  have all : ∀ d ∈ signs.cps.toList, d < 0x110000 := by decide +kernel
  exact all c m
theorem nm_ok {z : Str} (h : nmS z = true) : PyData.strOk z = true := by
  unfold PyData.strOk
  rw [← Array.all_toList]
  unfold nmS at h
  cases ec : z.cps.toList with
  | nil => rfl
  | cons c r =>
    rw [ec, nmL_cons, Bool.and_eq_true_iff] at h
    exact List.all_eq_true.mpr fun d hd => decide_eq_true (inN_ok (List.all_eq_true.mp h.2 d hd))
theorem lay_all : ∀ {ds : List PyData}, (∀ d ∈ ds, d.canLay0 = true) → PyData.canLayAll0 ds = true
  | [], _ => rfl
  | d :: r, h => by
    show (PyData.canLay0 d && PyData.canLayAll0 r) = true
    rw [h d (List.mem_cons_self ..), lay_all fun x hx => h x (List.mem_cons_of_mem _ hx)]
    rfl
theorem dep_all {n : Nat} : ∀ {ds : List PyData}, (∀ d ∈ ds, d.depth ≤ n) → PyData.depthAll ds ≤ n + 1
  | [], _ => by show 0 ≤ _; omega
  | d :: r, h => by
    have a := h d (List.mem_cons_self ..)
    have b := dep_all fun x hx => h x (List.mem_cons_of_mem _ hx)
    rw [PyData.depthAll]
    omega
theorem lay_ss {ss : List Str} (h : ∀ s ∈ ss, nmS s = true) : (dSs ss).canLay0 = true ∧ (dSs ss).depth ≤ 3 := by
  refine ⟨lay_all fun d hd => ?_, ?_⟩
  · obtain ⟨s, hs, rfl⟩ := List.mem_map.mp hd
    exact nm_ok (h s hs)
  · have := dep_all (n := 1) (ds := ss.map PyData.str) fun d hd => by
      obtain ⟨s, hs, rfl⟩ := List.mem_map.mp hd
      rw [PyData.depth]
      omega
    unfold dSs
    rw [PyData.depth]
    omega
theorem lay_rw {ks : List Str} (hk : ∀ s ∈ ks, nmS s = true) {r : Rw} (g : RwOk ks r) : (dRw r).canLay0 = true ∧ (dRw r).depth ≤ 5 := by
  have e := lay_ss (ss := r.2.2) fun s hs => hk s (g.f s hs)
  have all : ∀ d ∈ [PyData.str r.1, .str r.2.1, dSs r.2.2], d.canLay0 = true ∧ d.depth ≤ 3 := by
    intro d hd
    simp only [List.mem_cons, List.not_mem_nil, or_false] at hd
    rcases hd with rfl | rfl | rfl
    · exact ⟨nm_ok g.n, by rw [PyData.depth]; omega⟩
    · exact ⟨nm_ok (hk _ g.k), by rw [PyData.depth]; omega⟩
    · exact e
  refine ⟨lay_all fun d hd => (all d hd).1, ?_⟩
  have := dep_all (n := 3) fun d hd => (all d hd).2
  unfold dRw
  rw [PyData.depth]
  omega
theorem Good.shK {m : Md} (g : Good m) : SeqAt.shaped (dSs m.ks) = true := by
  obtain ⟨h1, h2⟩ := lay_ss g.kn
  unfold SeqAt.shaped
  rw [h1, decide_eq_true (by omega)]
  rfl
theorem Good.shR {m : Md} (g : Good m) : SeqAt.shaped (dRs m.rs) = true := by
  have all : ∀ d ∈ m.rs.map dRw, d.canLay0 = true ∧ d.depth ≤ 5 := fun d hd => by
    obtain ⟨r, hr, rfl⟩ := List.mem_map.mp hd
    exact lay_rw g.kn (g.row hr)
  have d := dep_all (n := 5) fun d hd => (all d hd).2
  unfold SeqAt.shaped
  have e : (dRs m.rs).depth ≤ 64 := by
    unfold dRs
    rw [PyData.depth]
    omega
  rw [show (dRs m.rs).canLay0 = true from lay_all fun d hd => (all d hd).1, decide_eq_true e]
  rfl
/-- what isinstance asks of the class -/
structure SCi (K : PySem.W.Frag) (C : Addr) : Prop where
  ca : PySem.W.findIn K (.ref C) "__class__" = some (some (.builtin "object.__class__"))
  cn : PySem.W.specialIn K (.builtin "object.__class__") "__get__" = some (some (.builtin "getset_descriptor.__get__"))
  ct : PySem.W.takesIn K (.builtin "object.__class__") = some true
  mo : PySem.W.mroIn K C (.type "object") = some true
section
variable {P : Program} {w : World} {K : PySem.W.Frag} {mg : Str → Option Value} {base : Heap} {C : Addr}
theorem ScAt.ty {H : Hp} {a : Addr} {m : Md} (h : ScAt C H a m) (Z : SCl K C) (I : SCi K C) : TyOf K H (.ref a) (.ref C) := by
  obtain ⟨dx, k, c, n, ⟨dp, e, _⟩, _⟩ := h
  exact .ins e Z.cls I.ca I.cn I.ct I.mo
/-- the == of schemas -/
def spEq (K : PySem.W.Frag) (C : Addr) : Sp := fun vs H Q _ => ∃ (a : Addr) (y : V) (m : Md), vs = [.ref a, y] ∧ ScAt C H a m ∧ Good m ∧
  ((∃ (b : Addr) (m' : Md), y = .ref b ∧ ScAt C H b m' ∧ Good m' ∧ Q (.bl (decide (m.ks = m'.ks) && decide (m.rs = m'.rs))) H) ∨ (∃ t, TyX K H y t ∧ PySem.W.kitOne K t (.ref C) = some false ∧ Q (.bl false) H))
theorem ok_eq {f : Addr} {fd : FuncData} (F : Fun K "__eq__" "Schema.__eq__" (cS 13) f fd) (T : TS0 mg) (gS : mg "Schema" = some (.ref C)) (Z : SCl K C) (I : SCi K C) : FnOk P w K mg base CX0 1 f fd ["self", "other"] (spEq K C) := by
  refine F.ok scEq (fun vs H Q E h => ?_) (fun cv A ou s H vs Q E hr h => ?_)
  · obtain ⟨a, y, m, rfl, _⟩ := h
    rfl
  obtain ⟨a, y, m, rfl, ha, g, h⟩ := h
  have hu := hr.units
  refine ⟨_, pss_one (ps_ret (pe_and (pe_callB call_isi (by rfl) T.isi boot_isinstance (pa_cons (pv 1) (pa_cons (pe_glob (v := .ref C) (by rfl) gS rfl) pa_nil)))
    (pe_and (pe_cmpR (op_eqD hu) (pe_fld (pv 0) rfl) (pe_fld (pv 1) rfl) (nomark _)) (pe_one (pe_cmpR (op_eqD hu) (pe_fld (pv 0) rfl) (pe_fld (pv 1) rfl) (nomark _)))))), ?_⟩
  rcases h with ⟨b, m', rfl, hb, g', q⟩ | ⟨t, ty, ek, q⟩
  · refine ⟨.ref b, rfl, .ref b, .ref C, _, .ref C, true, rfl, .own C, .base (hb.ty Z I), ?_, _, rfl, ?_⟩
    · unfold PySem.W.kitOne
      rw [if_pos (beq_self_eq_true _)]
    refine iteT ?_
    obtain ⟨dx, k, c, n, ⟨dpa, ea, _⟩, ek, ec, en⟩ := ha
    obtain ⟨dy, k', c', n', ⟨dpb, eb, _⟩, ek', ec', en'⟩ := hb
    refine ⟨.ref a, rfl, a, C, dx, _, _, rfl, ea, Z.cls, Z.nk, scF_k, .ref b, rfl, b, C, dy, _, _, rfl, eb, Z.cls, Z.nk, scF_k, _, _, dp_st (SqT.of ek), dp_st (SqT.of ek'), g.shK, g'.shK, ?_⟩
    rw [eqv_ss]
    refine ⟨_, rfl, ?_⟩
    cases h1 : decide (m.ks = m'.ks) with
    | false =>
      rw [h1] at q
      exact iteF q
    | true =>
      rw [h1] at q
      refine iteT ⟨.ref a, rfl, a, C, dx, _, _, rfl, ea, Z.cls, Z.nc, scF_c, .ref b, rfl, b, C, dy, _, _, rfl, eb, Z.cls, Z.nc, scF_c, _, _, dp_rs ec, dp_rs ec', g.shR, g'.shR, ?_⟩
      rw [eqv_rs]
      exact q
  · refine ⟨y, rfl, y, .ref C, _, .ref C, false, rfl, .own C, ty, ek, _, rfl, iteF q⟩
end
end Ks
set_option Elab.async false
set_option linter.all false
set_option maxRecDepth 100000
set_option maxHeartbeats 4000000
/-! the truth of an own instance by its __len__, bool(x) -/
namespace PySem.W
open PySem PySem.Calls PyProof.Rows Builtin
section
variable {prog : Program} {w : World} {A : Around} {E : Value → Shared → Prop} {s : Shared} {K : Frag} {x C L f : Addr} {h₀ : Heap} {m : Str → Option Value} {ox : Obj} {od : Option Obj}
theorem truthy_len {Q : Bool → Shared → Prop} (F : Fr h₀ L s.heap m) (X₀ : K.In h₀) (I : InstAt s.heap x ox C od) (hs : findIn K (.ref C) "__bool__" = some none) (hl : findIn K (.ref C) "__len__" = some (some (.ref f))) (hf : isFn K (.ref f) = true)
    (h : wpAny (model prog w) A.in1 (call (.ref f) [.ref x]) (fun v s' => ∃ n t, v = .int n t ∧ (0 ≤ n ∧ n < 2 ^ 63) ∧ Q (n != 0) { s' with toks := s'.toks + 1 }) E s) : wpAny (model prog w) A (truthy (.ref x)) Q E s := by
  have X := X₀.keeps F.keep
  have key : wpAny (model prog w) A (runValue (.builtin "len" ⟨[.ref x], []⟩)) (fun r s' => ∃ n t, r = .int n t ∧ Q (n != 0) s') E s := by
    refine wpAny_runValue (codeAny_builtin entry_len ?_)
    rw [Around.under_plainId plain_len _]
    unfold Builtin.«len»
    refine wpAny_bind (m := oneArg "len" _) (wpAny_pure ?_)
    refine wpAny_bind (m := callSpecial? (.ref x) (Str.ofString "__len__")) (special_fn X I hl (beq_iff_eq.mp hf) (wpAny_mono h (fun r s' hr => ?_) fun _ _ y => y))
    obtain ⟨n, t, rfl, ⟨h0, h1⟩, hq⟩ := hr
    refine wpAny_bind (wpAny_holding (wpAny_pure ?_))
    refine wpAny_bind (wpAny_letGo ?_)
    show wpAny _ _ (if n < 0 then _ else _) _ _ _
    rw [if_neg (by omega)]
    show wpAny _ _ (if n ≥ 2 ^ 63 then _ else _) _ _ _
    rw [if_neg (by omega)]
    exact wpAny_bind (wpAny_mkInt (wpAny_pure ⟨n, _, rfl, hq⟩))
  unfold truthy
  refine wpAny_bind (m := callSpecial? (.ref x) (Str.ofString "__bool__")) (wpAny_bind (wpAny_bind (I.type.here ((looks_findIn X hs).here (wpAny_pure ?_)))))
  refine wpAny_bind (wpAny_bind (I.type.here ((looks_findIn X hl).here ?_)))
  show wpAny _ _ (if (some (Value.ref f)).isNone = true then _ else _) _ _ _
  rw [if_neg (by simp)]
  refine wpAny_bind (wpAny_mono key (fun r s' z => ?_) fun _ _ e => e)
  obtain ⟨n, t, rfl, q⟩ := z
  exact wpAny_pure q
theorem bool_new {a : Addr} : MeetsIn prog w (Builtin.«bool.__new__» ⟨[.type "bool", .ref a], []⟩) (fun A R s => wpAny (model prog w) A.in1 (truthy (.ref a)) (fun b s' => R (.ok (.ret (.bool b))) s') (fun e s' => R (.error e) s') s) :=
  .of_wp fun A R s h => by
    have f1 := F.conv_sub_bool
    obtain ⟨hp, g, d, tk, os⟩ := s
    have h2 : ∀ {Q : Bool → Shared → Prop}, (∀ b s', R (.ok (.ret (.bool b))) s' → Q b s') → wpAny (model prog w) A.in1 (truthy (.ref a)) Q (fun e s' => R (.error e) s') ⟨hp, g, d, tk, os⟩ := fun q => wpAny_mono h (fun b s' z => q b s' z) fun _ _ e => e
    repeat (any_goals (first | assumption | (with_reducible refine h2 fun b s' z => ?_) | wp_step))
    all_goals exact ⟨_, rfl, z⟩

end
end PySem.W
namespace Gd
open PySem PySem.Spec PyProof.Rows L2
section
variable {X : Cx} {CX : CXT} {k : Nat} {C f : Addr} {fd : FuncData} {ps : List Str} {sp : Sp} {E : XK}
/-- bool(x), by len(x) -/
def rBoolO (C : Addr) (sp : Sp) (E : XK) : List V → Hp → VK → Prop := fun xs H Q => ∃ a dx fs, xs = [.ref a] ∧ H a = some (.ins C dx fs) ∧ sp [.ref a] H (fun v H' => ∃ n : Int, v = .int n ∧ 0 ≤ n ∧ n < 2 ^ 63 ∧ Q (.bl (n != 0)) H') E
theorem call_boolO (D : Dm X.K C "__len__" f) (nb : PySem.W.findIn X.K (.ref C) "__bool__" = some none) (F : FnOk X.prog X.w X.K X.mg X.base CX k f fd ps sp) (hr : Room (k + 3) X.A) (hb : Binds X.K fd ps []) (hx : Passes CX X.nox E) : CallR X (.type "bool") (rBoolO C sp E) := by
  intro pins s σ H xs us Q I r h
  obtain ⟨a, dx, fs, rfl, ea, q⟩ := h
  have e1 := Vals.ref1 r
  subst e1
  obtain ⟨mA, J, _⟩ := ins_get I.hok ea
  obtain ⟨od, J, _⟩ := J.look
  obtain ⟨m, hF⟩ := I.fr
  refine callType_newIn PySem.F.called_bool PySem.F.newNe_bool (PySem.F.typeCall_bool_1 _) (PySem.F.newCall_bool_1 _) (fun obj => PySem.F.args_object_init_2 obj _) PySem.F.entry_bool_new PySem.W.bool_new ?_
  refine PySem.W.truthy_len hF I.ok.mod.kin J nb D.at_ D.fn (wpAny_mono (run_at F hr.in1.in1.in1 I.env0.in1.in1.in1 hb hx I r q) (fun v s' z => ?_) fun _ _ e => e)
  obtain ⟨y, H', I', ry, n, ey, n0, n1, q2⟩ := z
  subst ey
  obtain ⟨t, rfl⟩ := ry
  exact ⟨n, t, rfl, ⟨n0, n1⟩, rfl, .bl (n != 0), H', I'.tok _, rfl, q2⟩
end
end Gd
set_option Elab.async false
set_option linter.all false
set_option maxRecDepth 100000
set_option maxHeartbeats 4000000
/-! != of two own instances whose class has an == and no != of its own -/
namespace PySem.W
open PySem PySem.Calls PyProof.Rows Builtin
section
variable {prog : Program} {w : World} {A : Around} {E : Value → Shared → Prop} {s : Shared} {K : Frag} {x y C L f : Addr} {h₀ : Heap} {m : Str → Option Value} {ox oy : Obj} {od od2 : Option Obj}
theorem ifBound_slot {M : Model} {name : Str} {id B : String} {args : List Value} {Q : Option Value → Shared → Prop} (X : K.In s.heap) (I : InstAt s.heap x ox C od) (hs : findIn K (.ref C) name = some (some (.builtin id))) (S : Slot B name id)
    (h : wpAny M A (call (.builtin id) (.ref x :: args)) (fun v => Q (some v)) E s) : wpAny M A (callSpecialIfBound? (.ref x) name args) Q E s := by
  simp only [callSpecialIfBound?, bindSpecialIfBound?]
  refine wpAny_holding (wpAny_bind (wpAny_bind (wpAny_bind (I.type.here ((looks_findIn X hs).here ?_)))))
  simp only [S.bind]
  refine wpAny_bind (wpAny_askSetting (wpAny_ite ?_))
  have fin : wpAny M A (call (.builtin id) ([.ref x] ++ args) >>= fun v => pure (some v)) Q E s := wpAny_bind (wpAny_mono h (fun v s' z => wpAny_pure z) fun _ _ z => z)
  split
  · exact wpAny_bind (wpAny_pure (wpAny_pure fin))
  · exact wpAny_tryCatch (wpAny_bind (wpAny_pure (wpAny_pure fin)))
theorem ne_body {Q : Fin → Shared → Prop} (hu : A.units < cLine) (X : K.In s.heap) (I : InstAt s.heap x ox C od) (hs : findIn K (.ref C) "__eq__" = some (some (.ref f))) (hf : isFn K (.ref f) = true)
    (h : wpAny (model prog w) A (call (.ref f) [.ref x, .ref y]) (fun v s' => ∃ b, v = .bool b ∧ Q (.done (.ret (.bool (!b)))) s') E s) : wpAny (model prog w) A (Builtin.«object.__ne__» ⟨[.ref x, .ref y], []⟩) Q E s := by
  unfold Builtin.«object.__ne__»
  refine wpAny_bind (m := slotArgs "__ne__" 1 _) (wpAny_pure ?_)
  refine wpAny_bind (wpAny_cRoomFor hu ?_)
  refine wpAny_bind (ifBound_K X I hs hf (wpAny_mono h (fun v s' z => ?_) fun _ _ e => e))
  obtain ⟨b, rfl, q⟩ := z
  refine wpAny_bind (m := truthy (.bool b)) (wpAny_pure ?_)
  exact wpAny_pure q
theorem ne_K {Q : Value → Shared → Prop} (hu : A.units + 1 < cLine) (F : Fr h₀ L s.heap m) (X₀ : K.In h₀) (I : InstAt s.heap x ox C od) (J : InstAt s.heap y oy C od2) (hn : findIn K (.ref C) "__ne__" = some (some (.builtin "object.__ne__"))) (mo : mroIn K C (.type "object") = some true)
    (hs : findIn K (.ref C) "__eq__" = some (some (.ref f))) (hf : isFn K (.ref f) = true) (hv : A.in1.units < cLine)
    (h : wpAny (model prog w) A.in1 (call (.ref f) [.ref x, .ref y]) (fun v s' => ∃ b, v = .bool b ∧ Q (.bool (!b)) s') E s) : wpAny (model prog w) A (richCompare .NotEq (.ref x) (.ref y)) Q E s := by
  have X := X₀.keeps F.keep
  have one : wpAny (model prog w) A (tryCompare (.ref x) "__ne__" (.ref y)) (fun r s' => ∃ v, r = some v ∧ Q v s') E s := by
    unfold tryCompare
    refine wpAny_bind (ifBound_slot X I hn PySem.F.cmp_object.ne (wpAny_call (codeAny_call_builtin PySem.F.cmp_object.ne.plain PySem.F.cmpEntry_ne
      (check_slot PySem.F.cmpKind_ne PySem.F.cmpSplit_ne (I.type.andThen (looks_mroIn X mo)) (PySem.F.cmpArgs_ne _ _) (ne_body hv X I hs hf (wpAny_mono h (fun v s' z => ?_) fun _ _ e => e))))))
    obtain ⟨b, rfl, q⟩ := z
    exact ⟨b, rfl, wpAny_pure ⟨_, rfl, q⟩⟩
  unfold richCompare
  simp only [oneThing_ref]
  refine wpAny_holding (wpAny_bind (wpAny_cRoomFor (Nat.lt_of_succ_lt hu) ?_))
  refine wpAny_bind (I.type.here (wpAny_bind (J.type.here ?_)))
  rw [if_neg (by simp)]
  refine wpAny_bind (wpAny_pure ?_)
  simp only [Bool.false_eq_true, if_false]
  refine wpAny_bind (wpAny_mono one (fun r s' z => ?_) fun _ _ e => e)
  obtain ⟨v, rfl, hq⟩ := z
  exact wpAny_pure hq
end
end PySem.W

namespace Gd
open PySem PySem.Spec PyProof.Rows L2
section
variable {X : Cx} {CX : CXT} {k : Nat} {C f : Addr} {fd : FuncData} {ps : List Str} {sp : Sp} {E : XK}
/-- x != y, both instances, by their == -/
def rNeO (C : Addr) (sp : Sp) (E : XK) : R2 := fun x y H Q => ∃ a dx fs b dy gs, x = .ref a ∧ y = .ref b ∧ H a = some (.ins C dx fs) ∧ H b = some (.ins C dy gs) ∧ sp [.ref a, .ref b] H (fun r H' => ∃ b : Bool, r = .bl b ∧ Q (.bl (!b)) H') E
theorem op_neO (D : Dm X.K C "__eq__" f) (nn : PySem.W.findIn X.K (.ref C) "__ne__" = some (some (.builtin "object.__ne__"))) (mo : PySem.W.mroIn X.K C (.type "object") = some true) (F : FnOk X.prog X.w X.K X.mg X.base CX k f fd ps sp) (hr : Room (k + 1) X.A) (hb : Binds X.K fd ps []) (hx : Passes CX X.nox E) : OpR X (compareOp .NotEq) (rNeO C sp E) := by
  intro pins s σ H x y v u Q I rx ry h
  obtain ⟨a, dx, fs, b, dy, gs, rfl, rfl, ea, eb, q⟩ := h
  obtain rfl : v = Value.ref a := rx
  obtain rfl : u = Value.ref b := ry
  obtain ⟨mA, J, _⟩ := ins_get I.hok ea
  obtain ⟨od, J, _⟩ := J.look
  obtain ⟨mB, J2, _⟩ := ins_get I.hok eb
  obtain ⟨od2, J2, _⟩ := J2.look
  obtain ⟨m, hF⟩ := I.fr
  show wpAny _ _ (richCompare .NotEq (.ref a) (.ref b)) _ _ _
  have hu := hr.units
  refine PySem.W.ne_K (by omega) hF I.ok.mod.kin J J2 nn mo D.at_ D.fn hr.in1.units0 (wpAny_mono (run_at F hr.in1 I.env0.in1 hb hx I (.cons (show RelV (V.ref a) (Value.ref a) from rfl) (.cons (show RelV (V.ref b) (Value.ref b) from rfl) .nil)) q) (fun r s' z => ?_) fun _ _ e => e)
  obtain ⟨y, H', I', ry, b, ey, q2⟩ := z
  subst ey
  obtain rfl : r = Value.bool b := ry
  exact ⟨b, rfl, .bl (!b), H', I', rfl, q2⟩
end
end Gd
set_option Elab.async false
set_option linter.all false
set_option maxRecDepth 100000
set_option maxHeartbeats 4000000
/-! a built-in's == with an instance of an own class declines -/
namespace PySem.W
open PySem PySem.Calls PyProof.Rows Builtin
section
variable {prog : Program} {w : World} {K : Frag} {a C : Addr} {ox : Obj} {od : Option Obj} {u : Value}
theorem tup_declines (e : subIn K (.ref C) (.type "tuple") = some false) : MeetsIn prog w (Builtin.«tuple.__eq__» ⟨[u, .ref a], []⟩) (fun _ R s => (K.In s.heap ∧ InstAt s.heap a ox C od) ∧ R (.ok (.ret .notImplemented)) s) :=
  .of_wp fun A R s h => by
    obtain ⟨⟨X, I⟩, h⟩ := h
    have hi : Looks (model prog w) s.heap (isInstance (.ref a) (.type "tuple")) false := I.type.andThen (looks_subIn X e)
    refine wpAny_bind (m := slotArgs "__eq__" 1 _) (wpAny_pure ?_)
    refine wpAny_bind (hi.here ?_)
    exact wpAny_bind (wpAny_pure (wpAny_pure ⟨_, rfl, h⟩))
theorem dict_declines (e : subIn K (.ref C) (.type "dict") = some false) : MeetsIn prog w (Builtin.«dict.__eq__» ⟨[u, .ref a], []⟩) (fun _ R s => (K.In s.heap ∧ InstAt s.heap a ox C od) ∧ R (.ok (.ret .notImplemented)) s) :=
  .of_wp fun A R s h => by
    obtain ⟨⟨X, I⟩, h⟩ := h
    have hi : Looks (model prog w) s.heap (isInstance (.ref a) (.type "dict")) false := I.type.andThen (looks_subIn X e)
    refine wpAny_bind (m := Dict.dictSlotArgs "__eq__" _) (wpAny_pure ?_)
    refine wpAny_bind (hi.here ?_)
    exact wpAny_bind (wpAny_rule (wpAny_bind (wpAny_pure (wpAny_pure ⟨_, rfl, h⟩))))
theorem str_declines {z : Str} {tk : Tok} (hd : ox.data = .plain) : MeetsIn prog w (Builtin.«str.__eq__» ⟨[.str z tk, .ref a], []⟩) (fun _ R s => s.heap.get? a = some ox ∧ R (.ok (.ret .notImplemented)) s) :=
  .of_wp fun A R s h => by
    obtain ⟨ho, h⟩ := h
    refine wpAny_bind (m := Str.strSlot "__eq__" 1 _) (wpAny_pure ?_)
    refine wpAny_bind (m := asStr? (.ref a)) (wpAny_bind (wpAny_loadPart ho ?_))
    rw [hd]
    refine wpAny_pure ?_
    exact wpAny_bind (wpAny_rule (wpAny_pure ⟨_, rfl, h⟩))
theorem int_declines {i : Int} {tk : Tok} (hd : ox.data = .plain) : MeetsIn prog w (Builtin.«int.__eq__» ⟨[.int i tk, .ref a], []⟩) (fun _ R s => s.heap.get? a = some ox ∧ R (.ok (.ret .notImplemented)) s) :=
  .of_wp fun A R s h => by
    obtain ⟨ho, h⟩ := h
    refine wpAny_bind (m := slotArgs "__eq__" 1 _) (wpAny_pure ?_)
    refine wpAny_bind (m := Int.intOfSelf (.int i tk)) (wpAny_pure ?_)
    refine wpAny_bind (m := asInt? (.ref a)) (wpAny_bind (wpAny_loadPart ho ?_))
    rw [hd]
    refine wpAny_pure ?_
    exact wpAny_bind (wpAny_rule (wpAny_pure ⟨_, rfl, h⟩))
theorem bool_declines {b : Bool} (hd : ox.data = .plain) : MeetsIn prog w (Builtin.«int.__eq__» ⟨[.bool b, .ref a], []⟩) (fun _ R s => s.heap.get? a = some ox ∧ R (.ok (.ret .notImplemented)) s) :=
  .of_wp fun A R s h => by
    obtain ⟨ho, h⟩ := h
    refine wpAny_bind (m := slotArgs "__eq__" 1 _) (wpAny_pure ?_)
    refine wpAny_bind (m := Int.intOfSelf (.bool b)) (wpAny_pure ?_)
    refine wpAny_bind (m := asInt? (.ref a)) (wpAny_bind (wpAny_loadPart ho ?_))
    rw [hd]
    refine wpAny_pure ?_
    exact wpAny_bind (wpAny_rule (wpAny_pure ⟨_, rfl, h⟩))
end
section
variable {prog : Program} {w : World} {A : Around} {E : Value → Shared → Prop} {s : Shared} {K : Frag} {a C L f : Addr} {h₀ : Heap} {m : Str → Option Value} {ox : Obj} {od : Option Obj} {u : Value} {T id : String}
/-- u == x, u of a built-in type whose == declines: x's own == is asked -/
theorem eq_turned {Q : Value → Shared → Prop} (hu : A.units < cLine) (F : Fr h₀ L s.heap m) (X₀ : K.In h₀) (I : InstAt s.heap a ox C od) (hT : s.TypeIs u T) (S : Slot T "__eq__" id) (sub : subIn K (.ref C) (.type T) = some false) (one : oneThing? .Eq u (.ref a) = none)
    (dec : ∀ Q' : Value → Shared → Prop, Q' .notImplemented s → wpAny (model prog w) A (call (.builtin id) [u, .ref a]) Q' E s) (hs : findIn K (.ref C) "__eq__" = some (some (.ref f))) (hf : isFn K (.ref f) = true)
    (h : wpAny (model prog w) A (call (.ref f) [.ref a, u]) (CmpBack Q) E s) : wpAny (model prog w) A (richCompare .Eq u (.ref a)) Q E s := by
  have X := X₀.keeps F.keep
  have own : wpAny (model prog w) A (tryCompare (.ref a) (cmpInfo .Eq).2.2 u) (fun r s' => ∃ v, r = some v ∧ Q v s') E s := by
    unfold tryCompare
    refine wpAny_bind (ifBound_K X I hs hf (wpAny_mono h (fun v s' hv => ?_) fun _ _ e => e))
    cases v <;> first | exact hv.elim | exact wpAny_pure ⟨_, rfl, hv⟩
  unfold richCompare
  simp only [one]
  refine wpAny_holding (wpAny_bind (wpAny_cRoomFor hu ?_))
  refine wpAny_bind (wpAny_typeOf hT (wpAny_bind (I.type.here ?_)))
  rw [if_pos (by simp)]
  refine wpAny_bind ((looks_subIn X sub).here ?_)
  simp only [Bool.false_eq_true, if_false]
  refine wpAny_bind (wpAny_tryCompare_declines hT S (dec _ ⟨rfl, ?_⟩))
  simp only [Bool.not_false, if_true]
  refine wpAny_bind (wpAny_mono own (fun r s' z => ?_) fun _ _ e => e)
  obtain ⟨v, rfl, hq⟩ := z
  exact wpAny_pure hq
end
end PySem.W
set_option Elab.async false
set_option linter.all false
set_option maxRecDepth 100000
set_option maxHeartbeats 4000000
namespace Gd
open PySem PySem.Spec PyProof.Rows L2
section
variable {X : Cx} {CX : CXT} {k : Nat} {C f : Addr} {fd : FuncData} {ps : List Str} {sp : Sp} {E : XK}
/-- values of built-in types whose == declines an instance -/
inductive Bt (K : PySem.W.Frag) (H : Hp) : V → Prop where
  | non : Bt K H .non
  | bl (b : Bool) : Bt K H (.bl b)
  | int (i : Int) : Bt K H (.int i)
  | str (z : Str) : Bt K H (.str z)
  | tup {a : Addr} {xs : List V} (h : SqT K H a xs) : Bt K H (.ref a)
  | dct {a : Addr} {kvs : List (Key × V)} (h : H a = some (.dK kvs)) : Bt K H (.ref a)
def rEqT (K : PySem.W.Frag) (C : Addr) (sp : Sp) (E : XK) : R2 := fun x y H Q => ∃ a dx fs, y = .ref a ∧ H a = some (.ins C dx fs) ∧ Bt K H x ∧ sp [.ref a, x] H (fun r H' => ∃ b : Bool, r = .bl b ∧ Q (.bl b) H') E
theorem op_eqT (D : Dm X.K C "__eq__" f) (hsub : ∀ T ∈ ["NoneType", "bool", "int", "str", "tuple", "dict"], PySem.W.subIn X.K (.ref C) (.type T) = some false) (F : FnOk X.prog X.w X.K X.mg X.base CX k f fd ps sp) (hr : Room k X.A) (hb : Binds X.K fd ps []) (hx : Passes CX X.nox E) : OpR X (compareOp .Eq) (rEqT X.K C sp E) := by
  intro pins s σ H x y v u Q I rx ry h
  obtain ⟨a, dx, fs, rfl, ea, bt, q⟩ := h
  obtain rfl : u = Value.ref a := ry
  obtain ⟨mA, J, _⟩ := ins_get I.hok ea
  obtain ⟨od, J, _⟩ := J.look
  obtain ⟨m, hF⟩ := I.fr
  have own : ∀ Ex : Value → Shared → Prop, wpAny (model X.prog X.w) X.A (call (.ref f) [.ref a, v]) (PySem.W.CmpBack (EP X pins σ Q)) Ex s := fun Ex => wpAny_mono (run_at F hr I.env0 hb hx I (.cons (show RelV (V.ref a) (Value.ref a) from rfl) (.cons rx .nil)) q) (fun r s' z => by
    obtain ⟨y, H', I', ry, b, ey, q2⟩ := z
    subst ey
    obtain rfl : r = Value.bool b := ry
    exact ⟨.bl b, H', I', rfl, q2⟩) fun _ _ e => e
  have hu := hr.units0
  have X0 := I.ok.mod.kin
  show wpAny _ _ (richCompare .Eq v (.ref a)) _ _ _
  cases bt with
  | non =>
    cases (show v = Value.none from rx)
    exact PySem.W.eq_turned hu hF X0 J (T := "NoneType") rfl PySem.F.slot_NoneType_eq (hsub _ (by simp)) rfl (fun Q' z => call_gives PySem.F.slot_NoneType_eq rfl PySem.F.entry_NoneType_eq (PySem.F.args_NoneType_eq_2 _ _) (PySem.SeqAt.NoneType___eq___none_ref_0 a) z) D.at_ D.fn (own _)
  | bl b =>
    cases (show v = Value.bool b from rx)
    exact PySem.W.eq_turned hu hF X0 J (T := "bool") rfl PySem.F.slot_bool_eq (hsub _ (by simp)) rfl (fun Q' z => call_meetsIn PySem.F.slot_bool_eq rfl PySem.F.entry_int_eq (PySem.F.args_int_eq_2 _ _) (PySem.W.bool_declines rfl) ⟨J.at_, z⟩) D.at_ D.fn (own _)
  | int i =>
    obtain ⟨t, e⟩ := (show ∃ t, v = Value.int i t from rx)
    cases e
    exact PySem.W.eq_turned hu hF X0 J (T := "int") (typeIs_int s i t) PySem.F.slot_int_eq (hsub _ (by simp)) rfl (fun Q' z => call_meetsIn PySem.F.slot_int_eq (typeIs_int s i t) PySem.F.entry_int_eq (PySem.F.args_int_eq_2 _ _) (PySem.W.int_declines rfl) ⟨J.at_, z⟩) D.at_ D.fn (own _)
  | str w =>
    obtain ⟨t, e⟩ := (show ∃ t, v = Value.str w t from rx)
    cases e
    exact PySem.W.eq_turned hu hF X0 J (T := "str") (typeIs_str s w t) PySem.F.slot_str_eq (hsub _ (by simp)) rfl (fun Q' z => call_meetsIn PySem.F.slot_str_eq (typeIs_str s w t) PySem.F.entry_str_eq (PySem.F.args_str_eq_2 _ _) (PySem.W.str_declines rfl) ⟨J.at_, z⟩) D.at_ D.fn (own _)
  | @tup b xs hq =>
    cases (show v = Value.ref b from rx)
    obtain ⟨its, _, ⟨o, eo, co, _⟩, _⟩ := I.tuple hq
    have hT : s.TypeIs (.ref b) "tuple" := ⟨o, eo, co⟩
    exact PySem.W.eq_turned hu hF X0 J (T := "tuple") hT PySem.F.slot_tuple_eq (hsub _ (by simp)) rfl (fun Q' z => call_meetsIn PySem.F.slot_tuple_eq hT PySem.F.entry_tuple_eq (PySem.F.args_tuple_eq_2 _ _) (PySem.W.tup_declines (hsub _ (by simp))) ⟨⟨I.kIn, J⟩, z⟩) D.at_ D.fn (own _)
  | @dct b kvs hd =>
    cases (show v = Value.ref b from rx)
    obtain ⟨_, _, vs, _, o, es, ep, eo, ex, _⟩ := (show ObjOk X.prog X.w H s.heap b (.dK kvs) from I.hok b _ hd)
    have hT : s.TypeIs (.ref b) "dict" := ⟨o, eo, ex.1⟩
    exact PySem.W.eq_turned hu hF X0 J (T := "dict") hT PySem.F.slot_dict_eq (hsub _ (by simp)) rfl (fun Q' z => call_meetsIn PySem.F.slot_dict_eq hT PySem.F.entry_dict_eq (PySem.F.args_dict_eq_2 _ _) (PySem.W.dict_declines (hsub _ (by simp))) ⟨⟨I.kIn, J⟩, z⟩) D.at_ D.fn (own _)
end
end Gd
set_option Elab.async false
set_option linter.all false
set_option maxRecDepth 100000
set_option maxHeartbeats 4000000
/-! str(x), x an instance with its own __str__ -/
namespace PySem.W
open PySem PySem.Calls PyProof.Rows Builtin
section
variable {prog : Program} {w : World} {A : Around} {E : Value → Shared → Prop} {s : Shared} {K : Frag} {x C L f : Addr} {h₀ : Heap} {m : Str → Option Value} {ox : Obj} {od : Option Obj}
theorem str_new_in {v : Value} : MeetsIn prog w (Builtin.«str.__new__» ⟨[.type "str", v], []⟩) (fun A R s => wpAny (model prog w) A.in1 (Builtin.Str.strOf v) (fun r s' => R (.ok (.ret r)) s') (fun e s' => R (.error e) s') s) :=
  .of_wp fun A R s h => by
    rw [str_new_tree v]
    refine wpAny_bind (wpAny_pure ?_)
    refine wpAny_bind (wpAny_of_eq isSubtype_str_str ?_)
    exact wpAny_bind (wpAny_mono h (fun r s' z => wpAny_pure ⟨_, rfl, z⟩) fun _ _ e => e)
theorem strOf_O {Q : Value → Shared → Prop} (hu : A.units < cLine) (X : K.In s.heap) (I : InstAt s.heap x ox C od) (hs : findIn K (.ref C) "__str__" = some (some (.ref f))) (hf : isFn K (.ref f) = true)
    (h : wpAny (model prog w) A (call (.ref f) [.ref x]) (StrBack Q) E s) : wpAny (model prog w) A (Builtin.Str.strOf (.ref x)) Q E s := by
  have sp : ∀ {Q' : Option Value → Shared → Prop}, (∀ z t s', Q (.str z t) s' → Q' (some (.str z t)) s') → wpAny (model prog w) A (callSpecial? (.ref x) "__str__") Q' E s := fun q => special_fn X I hs (beq_iff_eq.mp hf) (wpAny_mono h (fun r s' hr => by cases r <;> first | exact hr.elim | exact q _ _ _ hr) fun _ _ y => y)
  unfold Builtin.Str.strOf
  repeat (first | with_reducible refine wpAny_cRoomFor hu ?_ | (with_reducible refine sp fun z t s' q => ?_) | exact q | wp_step)
end
end PySem.W
namespace Gd
open PySem PySem.Spec PyProof.Rows L2
section
variable {X : Cx} {CX : CXT} {k : Nat} {C f : Addr} {fd : FuncData} {ps : List Str} {sp : Sp} {E : XK}
/-- str(x) -/
def rStrO (C : Addr) (sp : Sp) (E : XK) : List V → Hp → VK → Prop := fun xs H Q => ∃ a dx fs, xs = [.ref a] ∧ H a = some (.ins C dx fs) ∧ sp [.ref a] H (fun v H' => ∃ z : Str, v = .str z ∧ Q (.str z) H') E
theorem call_strO (D : Dm X.K C "__str__" f) (F : FnOk X.prog X.w X.K X.mg X.base CX k f fd ps sp) (hr : Room (k + 2) X.A) (hb : Binds X.K fd ps []) (hx : Passes CX X.nox E) : CallR X (.type "str") (rStrO C sp E) := by
  intro pins s σ H xs us Q I r h
  obtain ⟨a, dx, fs, rfl, ea, q⟩ := h
  have e1 := Vals.ref1 r
  subst e1
  obtain ⟨mA, J, _⟩ := ins_get I.hok ea
  obtain ⟨od, J, _⟩ := J.look
  refine callType_newIn PySem.F.called_str (by decide) (PySem.F.typeCall_str_1 _) (PySem.F.newCall_str_1 _) (fun obj => PySem.F.args_object_init_2 obj _) PySem.F.entry_str_new PySem.W.str_new_in ?_
  refine PySem.W.strOf_O hr.in1.in1.units0 I.kIn J D.at_ D.fn (wpAny_mono (run_at F hr.in1.in1 I.env0.in1.in1 hb hx I r q) (fun v s' z => ?_) fun _ _ e => e)
  obtain ⟨y, H', I', ry, z, ey, q2⟩ := z
  subst ey
  obtain ⟨t, rfl⟩ := ry
  exact ⟨typeIs_str _ _ _, .str z, H', I', ⟨_, rfl⟩, q2⟩
end
end Gd
set_option Elab.async false
set_option linter.all false
set_option maxRecDepth 100000
set_option maxHeartbeats 4000000
/-! defs with a star parameter; max with a default -/
namespace Gd
open PySem PySem.Spec PyProof.Rows L2 StX
theorem bind_star3 {B : List Value → Sem (List (Str × Value))} {p1 p2 p3 pv : Str} (h0 : ∀ a b c, B [a, b, c] = (newTuple [] >>= fun t => pure [(p1, a), (p2, b), (p3, c), (pv, t)])) (h1 : ∀ a b c r rs, B (a :: b :: c :: r :: rs) = (newTuple (r :: rs) >>= fun t => pure [(p1, a), (p2, b), (p3, c), (pv, t)])) :
    ∀ us rest : List Value, us.length = [p1, p2, p3].length → B (us ++ rest) = (newTuple rest >>= fun t => pure ([p1, p2, p3].zip us ++ [(pv, t)]))
  | [a, b, c], [], _ => h0 a b c
  | [a, b, c], r :: rs, _ => h1 a b c r rs
/-- the greatest of some, at least one -/
def maxL : List Int → Int
  | [] => 0
  | n :: r => PySem.W.maxOf n r
theorem reads_ints {h : Heap} : ∀ {ns : List Int} {its : List Value}, Vals (ns.map V.int) its → ∃ as, ReadsAll h its (ns.map PyData.int) as
  | [], its, r => by
    cases its with
    | nil => exact ⟨_, .nil⟩
    | cons _ _ => cases r
  | n :: ns, its, r => by
    cases r with
    | @cons _ u _ us r1 r2 =>
      obtain ⟨t, e⟩ := (show ∃ t, u = Value.int n t from r1)
      subst e
      obtain ⟨as, ih⟩ := reads_ints (h := h) r2
      exact ⟨_, .cons (.int n t) ih⟩
section
variable {X : Cx}
/-- max(xs, default=d), xs a list of whole numbers -/
def rMaxD (K : PySem.W.Frag) : List V → List V → Hp → VK → Prop := fun xs zs H Q => ∃ (a : Addr) (ns : List Int) (d : V), xs = [.ref a] ∧ zs = [d] ∧ SqL K H a (ns.map V.int) ∧ (ns = [] → Q d H) ∧ (ns ≠ [] → Q (.int (maxL ns)) H)
theorem call_maxD (hc : X.calm = true) (hu : X.A.units + 1 < cLine) : CallRK X (.builtin "max") ["default"] (rMaxD X.K) := by
  intro pins s σ H xs zs us ws Q I r rz h
  obtain ⟨a, ns, d, rfl, rfl, hl, h0, h1⟩ := h
  obtain ⟨u, rfl, rx⟩ := r.one
  cases rx
  obtain ⟨dv, rfl, rd⟩ := rz.one
  obtain ⟨its, rv, pl, hz⟩ := I.list hl
  have hold : PySem.W.HoldAll s.heap its.toArray.toList ns := by
    obtain ⟨as, q⟩ := reads_ints (h := s.heap) rv
    have : its.toArray.toList = its := by simp
    rw [this]
    exact ⟨as, q⟩
  show wpAny _ _ (call (.builtin "max") [.ref a] [(Str.ofString "default", dv)]) _ _ _
  refine PySem.W.max_list_datum_default (I.ok.hd hc) pl.isList hold (by show X.A.units + 1 + 0 < cLine; omega) (fun e h' tk hk => ⟨d, H, I.kept (t' := tk) hk, rd, h0 e⟩) fun y ys i v h' tk e hi hh hk => ?_
  subst e
  obtain ⟨as, q⟩ := hh
  refine ⟨_, H, I.kept (t' := tk) hk, ?_, h1 (by simp)⟩
  have q' : Reads h' v (.int (PySem.W.maxOf y ys)) as := q
  cases q' with
  | int _ t => exact ⟨t, rfl⟩
end
/-! ### an instance made by keywords, the star parameter empty -/
def FnRK (P : Program) (w : World) (K : PySem.W.Frag) (mg : Str → Option Value) (base : Heap) (CX : CXT) (k : Nat) (f : Addr) (ks : List Str) (sp : Sp) : Prop :=
  ∀ (A : Around) (outer : List Env) (s : Shared) (H : Hp) (u : Value) (v : V) (ws : List Value) (zs : List V) (Q : VK) (E : XK), Room k A → Env0 P w K mg base A outer s H → RelV v u → Vals zs ws → zs.length = ks.length → sp (v :: zs) H Q E →
    codeAny (model P w) A (.call (.ref f) ⟨[u], ks.zip ws⟩) (CR CX outer P w H s Q E) s
section
variable {CX : CXT} {P : Program} {w : World} {K : PySem.W.Frag} {mg : Str → Option Value} {base : Heap} {k : Nat} {f : Addr} {name qual : Str} {params : Arguments} {body : List Stmt} {scope : Scope} {dV kV doc pm cdv ct oc : Value} {an od : Option Addr}
  {osl : Array (Option Value)} {N ps ks : List Str} {sp : Sp} {g : List Value → List Value} {gV : List V → List V} {pv : Str}
theorem fn_starK (lk : K.lookup f = some ⟨oc, od, .func (PySem.W.fnOf name qual params body scope dV kV doc pm an cdv ct), osl⟩) (hcd : PySem.W.codeIn K cdv qual = true) (S : FnScope N (ps ++ [pv]) scope) (hCX : CXUp CX)
    (hb : ∀ (u : Value) (ws : List Value), ws.length = ks.length → bindArgs (PySem.W.fnOf name qual params body scope dV kV doc pm an cdv ct) ⟨[u], ks.zip ws⟩ = (newTuple [] >>= fun t => pure (ps.zip (u :: g ws) ++ [(pv, t)])))
    (hg : ∀ (zs : List V) (ws : List Value), Vals zs ws → zs.length = ks.length → Vals (gV zs) (g ws) ∧ (gV zs).length + 1 = ps.length)
    (hbody : ∀ (A : Around) (outer : List Env) (s : Shared) (H : Hp) (vs : List V) (Q : VK) (E : XK), Room k (A.deeper (envOfC qual scope s.heap.objs.size f cdv)) → sp vs H Q E →
      ∃ t, PSs (cxOf CX P w K mg base N qual scope f cdv A outer s H E) body t ∧ t { nx := fun _ H' => Q .non H', rt := Q } (start N vs) H) :
    FnRK P w K mg base CX (k + 1) f ks (fun vs H Q E => ∃ v zs, vs = v :: zs ∧ ∀ p, H p = Option.none → sp (v :: gV zs ++ [V.ref p]) (upd H p (.tup [])) Q E) := by
  intro A outer s H u v ws zs Q E hr e0 r rz hl hsp
  obtain ⟨v', zs', ev, hq⟩ := hsp
  injection ev with e1 e2
  subst e1 e2
  have hn : H s.heap.objs.size = Option.none := e0.hok.fresh (Nat.le_refl _)
  obtain ⟨g1, g2⟩ := hg zs ws rz hl
  refine run_bnd lk hcd S hr e0 (G := fun xs H2 => ∃ p, H p = Option.none ∧ xs = v :: gV zs ++ [V.ref p] ∧ H2 = upd H p (.tup [])) (fun A' Ex Q' h => ?_) fun s2 H2 xs ⟨p, hp, ex, eH⟩ hr' => ?_
  · rw [hb u ws (by rw [← rz.length]; exact hl)]
    refine wpAny_bind (wpAny_newTuple (wpAny_pure ?_) (Nat.zero_le _))
    have new : ObjOk P w (upd H s.heap.objs.size (.tup [])) (s.heap.push ({ cls := .type "tuple", data := .seq ([] : List Value).toArray } : Obj)) s.heap.objs.size (.tup []) := ⟨Nat.zero_le _, [], .nil, ⟨_, Heap.get?_push_size _ rfl, rfl, _, rfl⟩⟩
    have un := un_laid (fs := frs outer) (s := s) (o := ({ cls := .type "tuple", data := .seq ([] : List Value).toArray } : Obj)) (u := .tup []) hn
    have r2 : Vals (v :: gV zs) (u :: g ws) := .cons r g1
    have z := h _ _ (v :: gV zs ++ [V.ref s.heap.objs.size]) (u :: g ws ++ [Value.ref s.heap.objs.size]) (env0_laid e0 new) un rfl (fun e s' => hCX outer s H _ _ E e s' un (fun b o q => Heap.get?_push_of_some _ q) rfl) (r2.append (.cons rfl .nil))
      (by rw [List.length_append, List.length_append, List.length_cons, g2] <;> rfl) ⟨_, hn, rfl, rfl⟩
    have el : (u :: g ws).length = ps.length := by rw [← r2.length, List.length_cons, g2]
    rw [List.zip_append el.symm] at z
    exact z
  · subst ex eH
    exact hbody A outer s2 _ _ Q E hr' (hq p hp)
end
def tMakeRK (C : Addr) (ks : List Str) (sp : Sp) (E : XK) (tk : TA) : TE := fun σ H Q => tk σ H fun zs H1 => zs.length = ks.length ∧ ∀ x dx, H1 x = Option.none → H1 dx = Option.none → dx ≠ x →
  sp (V.ref x :: zs) (upd (upd H1 dx (.own x)) x (.ins C dx [])) (fun v H2 => v = .non ∧ Q (.ref x) H2) E
section
variable {X : Cx} {CX : CXT} {k i : Nat} {f C : Addr} {sp : Sp} {E : XK} {x : Str} {kws : List Keyword} {ks : List Str} {tk : TA} {p pos : Pos}
theorem pe_makeRK (M : Mk X.K C f) (F : FnRK X.prog X.w X.K X.mg X.base CX k f ks sp) (hr : Room (k + 1) X.A) (hg : Gl X x) (hm : X.mg x = some (.ref C)) (hx : Passes CX X E) (hkw : PK X kws tk)
    (hall : (backToKw pos (keywordEach kws X.env)).all (·.1.isSome) = true := by rfl) (hks : (backToKw pos (keywordEach kws X.env)).filterMap (·.1) = ks := by rfl) (hdb : (x == ("__debug__" : Str)) = false := by decide)
    (hpl : ((backTo pos (starEach [] X.env)).any (·.1) || (backToKw pos (keywordEach kws X.env)).any (·.1.isNone)) = false := by rfl) : PE X (.Call (.Name x p) [] kws pos) (tMakeRK C ks sp E tk) := by
  refine ⟨fun pins s σ H Q I h => ?_⟩
  refine wpAny_Call_Name_kw (ld_glob I hg hm ?_ hdb)
  refine PySem.W.callWith_KW0 (h₀ := X.base) I.ok.mod.kin M.kp hall ?_ hpl
  refine thn (hkw.run pos pins s σ H _ I h) fun ws s2 ⟨zs, H2, I2, rz, l2, q2⟩ => ⟨I2.kIn, ?_⟩
  rw [hks]
  have hq := q2 (s2.heap.objs.size + 1) s2.heap.objs.size (I2.hok.fresh (Nat.le_succ _)) (I2.hok.fresh (Nat.le_refl _)) (Nat.ne_of_lt (Nat.lt_succ_self _))
  have I3 := Inv.made (C := C) I2
  refine wpAny_call (make_map (f := f) I2.kIn M.makes M.init (beq_iff_eq.mp M.fn) (codeAny_mono (F _ X.stack _ _ (Value.ref (s2.heap.objs.size + 1)) (V.ref (s2.heap.objs.size + 1)) ws zs _ E (hr.make C [] (ks.zip ws)) (I3.env0.make C [] (ks.zip ws)) rfl rz l2 hq) fun r s' hq' => ?_))
  cases r with
  | error e => exact hx pins σ _ _ e s' I3 hq'
  | ok fl =>
    cases fl with
    | ret u =>
      obtain ⟨v, H', I4, rv, ev, q3⟩ := I3.after hq'
      subst ev
      exact ⟨rv, ⟨V.ref (s2.heap.objs.size + 1), H', I4, rfl, q3⟩⟩
    | next => exact False.elim hq'
    | brk => exact False.elim hq'
    | cont => exact False.elim hq'
end
end Gd
set_option Elab.async false
set_option linter.all false
set_option maxRecDepth 100000
set_option maxHeartbeats 4000000
/-! dicts whose keys are nested tuples: tracked by what is true of their object -/
namespace Gd
open PySem PySem.Spec PyProof.Rows L2
mutual
/-- the value is such a key -/
inductive NK (H : Hp) : NestedKey → V → Prop
  | non : NK H .none .non
  | int (i : Int) : NK H (.num i) (.int i)
  | str (z : Str) : NK H (.text z) (.str z)
  | tup {a : Addr} {xs : List V} {ks : List NestedKey} : H a = some (.tup xs) → NKA H ks xs → NK H (.tup ks) (.ref a)
inductive NKA (H : Hp) : List NestedKey → List V → Prop
  | nil : NKA H [] []
  | cons {k : NestedKey} {x : V} {ks : List NestedKey} {xs : List V} : NK H k x → NKA H ks xs → NKA H (k :: ks) (x :: xs)
end
mutual
theorem NK.keep {H H' : Hp} (s : ∀ b ys, H b = some (.tup ys) → H' b = some (.tup ys)) : ∀ (k : NestedKey) (x : V), NK H k x → NK H' k x
  | .none, _, h => by cases h; exact .non
  | .num i, _, h => by cases h; exact .int i
  | .text z, _, h => by cases h; exact .str z
  | .tup ks, _, h => by
    cases h with
    | tup h1 h2 => exact .tup (s _ _ h1) (NKA.keep s ks _ h2)
theorem NKA.keep {H H' : Hp} (s : ∀ b ys, H b = some (.tup ys) → H' b = some (.tup ys)) : ∀ (ks : List NestedKey) (xs : List V), NKA H ks xs → NKA H' ks xs
  | [], _, h => by cases h; exact .nil
  | k :: r, _, h => by
    cases h with
    | cons h1 h2 => exact .cons (NK.keep s k _ h1) (NKA.keep s r _ h2)
end
section
variable {P : Program} {w : World}
mutual
theorem nk_is {H : Hp} {h : Heap} (ok : HOk P w H h) : ∀ (k : NestedKey) (x : V) (u : Value), NK H k x → RelV x u → NestedIs h k u
  | .none, _, u, hk, r => by
    cases hk
    cases (show u = Value.none from r)
    exact .none
  | .num i, _, u, hk, r => by
    cases hk
    obtain ⟨t, e⟩ := (show ∃ t, u = Value.int i t from r)
    rw [e]
    exact .int i t
  | .text z, _, u, hk, r => by
    cases hk
    obtain ⟨t, e⟩ := (show ∃ t, u = Value.str z t from r)
    rw [e]
    exact .text z t
  | .tup ks, x, u, hk, r => by
    cases hk with
    | @tup a xs _ h1 h2 =>
      cases (show u = Value.ref a from r)
      obtain ⟨_, its, rv, o, e1, e2, n, e3⟩ := (show ObjOk P w H h a (.tup xs) from ok a _ h1)
      refine .tup e1 e2 e3 ?_
      have : its.toArray.toList = its := by simp
      rw [this]
      exact nka_is ok ks xs its h2 rv
theorem nka_is {H : Hp} {h : Heap} (ok : HOk P w H h) : ∀ (ks : List NestedKey) (xs : List V) (us : List Value), NKA H ks xs → Vals xs us → NestedAll h ks us
  | [], _, us, hk, r => by
    cases hk
    cases r
    exact .nil
  | k :: rr, xs, us, hk, r => by
    cases hk with
    | cons h1 h2 =>
      cases r with
      | cons r1 r2 => exact .cons (nk_is ok k _ _ h1 r1) (nka_is ok rr _ _ h2 r2)
end
/-- the object of such a dict -/
def DNh (P : Program) (w : World) (d : Addr) (ys : List (NestedKey × Addr × Value)) : Heap → Prop := fun h => ∃ o es ep, h.get? d = some o ∧ o.ExactDict ∧ o.data = .dict es ep ∧ es.toList = ys.map (entryOfKey (nestedKind P w))
abbrev KN : List (NestedKey × Addr × V) → List (NestedKey × Addr × Value) → Prop := Paired fun p q => p.1 = q.1 ∧ p.2.1 = q.2.1 ∧ RelV p.2.2 q.2.2
/-- the dict at d holds these keys, at these addresses, and values -/
structure DN (P : Program) (w : World) (H : Hp) (d : Addr) (xs : List (NestedKey × Addr × V)) : Prop where
  z : xs.length ≤ sizeLine
  nd : (xs.map (·.1)).Nodup
  keys : ∀ x ∈ xs, NK H x.1 (.ref x.2.1) ∧ x.1.depth ≤ 8
  at_ : (xs = [] ∧ H d = some (.dT [])) ∨ ((d == sysModules) = false ∧ ∃ ys, KN xs ys ∧ H d = some (.ext (DNh P w d ys)))
theorem DN.keep {H H' : Hp} {d : Addr} {xs : List (NestedKey × Addr × V)} (h : DN P w H d xs) (s : ∀ b ys, H b = some (.tup ys) → H' b = some (.tup ys)) (e : H' d = H d) : DN P w H' d xs :=
  ⟨h.z, h.nd, fun x hx => ⟨NK.keep s _ _ (h.keys x hx).1, (h.keys x hx).2⟩, by rw [e]; exact h.at_⟩
theorem DN.same {H H' : Hp} {d : Addr} {xs : List (NestedKey × Addr × V)} (h : DN P w H d xs) (s : Same H H') : DN P w H' d xs := by
  refine h.keep (fun b ys e => s _ _ e) ?_
  rcases h.at_ with ⟨_, e⟩ | ⟨_, _, _, e⟩
  · rw [e, s _ _ e]
  · rw [e, s _ _ e]
theorem DN.new {H : Hp} {d : Addr} (e : H d = some (.dT [])) : DN P w H d [] := ⟨Nat.zero_le _, .nil, (fun x hx => by cases hx), .inl ⟨rfl, e⟩⟩
theorem dn_rd {H : Hp} {h : Heap} {d : Addr} {xs : List (NestedKey × Addr × V)} (ok : HOk P w H h) (e : DN P w H d xs) : (d == sysModules) = false ∧ ∃ ys, KN xs ys ∧ h.DictOfH (nestedKind P w) d ys := by
  rcases e.at_ with ⟨rfl, e1⟩ | ⟨hs, ys, pr, e1⟩
  · obtain ⟨_, y, xs, r, o, es, ep, h1, h2, h3, h4, h5⟩ := dt_of ok e1
    have hx : xs = [] := by cases r; rfl
    subst hx
    exact ⟨y, [], .nil, o, es, ep, h1, h2, h3, h4, (fun x hx => by cases hx), .nil⟩
  · obtain ⟨⟨o, es, ep, h1, h2, h3, h4⟩, _⟩ := (show ObjOk P w H h d (.ext (DNh P w d ys)) from ok d _ e1)
    refine ⟨hs, ys, pr, o, es, ep, h1, h2, h3, h4, ?_, ?_⟩
    · have all : ∀ {l : List (NestedKey × Addr × V)} {m : List (NestedKey × Addr × Value)}, KN l m → (∀ x ∈ l, NK H x.1 (.ref x.2.1) ∧ x.1.depth ≤ 8) → ∀ x ∈ m, (nestedKind P w).is h x.1 x.2.1 := by
        intro l m q
        induction q with
        | nil => intro _ x hx; cases hx
        | @cons p q ps qs hq t ih =>
          intro hl x hx
          rcases List.mem_cons.mp hx with e | hx
          · subst e
            have z := hl p (List.mem_cons_self ..)
            rw [hq.1, hq.2.1] at z
            exact ⟨nk_is ok _ _ _ z.1 rfl, z.2⟩
          · exact ih (fun y hy => hl y (List.mem_cons_of_mem _ hy)) x hx
      exact all pr e.keys
    · have ek : ∀ {l : List (NestedKey × Addr × V)} {m : List (NestedKey × Addr × Value)}, KN l m → l.map (·.1) = m.map (·.1) := by
        intro l m q
        induction q with
        | nil => rfl
        | cons h t ih => rw [List.map_cons, List.map_cons, ih, h.1]
      rw [← ek pr]
      exact e.nd
def fnd (xs : List (NestedKey × Addr × V)) (k : NestedKey) : Option (Addr × V) := (xs.find? fun x => decide (x.1 = k)).map (·.2)
theorem kn_fnd {xs : List (NestedKey × Addr × V)} {ys : List (NestedKey × Addr × Value)} (r : KN xs ys) (k : NestedKey) : (fnd xs k = none ∧ atKey ys k = none) ∨ ∃ a v u, fnd xs k = some (a, v) ∧ atKey ys k = some (a, u) ∧ RelV v u := by
  induction r with
  | nil => exact .inl ⟨rfl, rfl⟩
  | @cons p q ps qs h t ih =>
    obtain ⟨h1, h2, h3⟩ := h
    by_cases e : p.1 = k
    · have e' : q.1 = k := h1.symm.trans e
      refine .inr ⟨p.2.1, p.2.2, q.2.2, by simp [fnd, List.find?_cons, e], ?_, h3⟩
      rw [h2]
      simp [atKey, List.find?_cons, e']
    · have e' : ¬ q.1 = k := fun z => e (h1.trans z)
      have a : fnd (p :: ps) k = fnd ps k := by simp [fnd, List.find?_cons, e]
      have b : atKey (q :: qs) k = atKey qs k := by simp [atKey, List.find?_cons, e']
      rw [a, b]
      exact ih
end
section
variable {X : Cx}
theorem room_n {A : Around} (hu : A.units + 64 < cLine) : (nestedKind X.prog X.w).room A.in1 := by
  show A.in1.units + 8 < cLine
  have : A.in1.units = A.units + 1 := by
    first | rfl | simp [Around.in1]
  omega
/-- row not in d -/
def rNinN (P : Program) (w : World) : R2 := fun x y H Q => ∃ (a d : Addr) (k : NestedKey) (xs : List (NestedKey × Addr × V)), x = .ref a ∧ y = .ref d ∧ NK H k (.ref a) ∧ k.depth ≤ 8 ∧ DN P w H d xs ∧ Q (.bl (!(fnd xs k).isSome)) H
theorem op_notInN (hu : X.A.units + 64 < cLine) : OpR X (compareOp .NotIn) (rNinN X.prog X.w) := by
  intro pins s σ H x y v u Q I rx ry h
  obtain ⟨a, d, k, xs, rfl, rfl, hk, hd, hn, q⟩ := h
  cases (show v = Value.ref a from rx)
  cases (show u = Value.ref d from ry)
  obtain ⟨hs, ys, pr, dd⟩ := dn_rd I.hok hn
  refine wpAny_notIn_heap (room_n (X := X) hu) ⟨nk_is I.hok k _ _ hk rfl, hd⟩ hs dd ?_
  have e : (atKey ys k).isSome = (fnd xs k).isSome := by
    rcases kn_fnd pr k with ⟨h1, h2⟩ | ⟨_, _, _, h1, h2, _⟩
    · rw [h1, h2]; rfl
    · rw [h1, h2]; rfl
  rw [e]
  exact ⟨.bl _, H, I.tok _, rfl, q⟩
/-- d[row] -/
def rIxN (P : Program) (w : World) : R2 := fun x y H Q => ∃ (d a : Addr) (k : NestedKey) (xs : List (NestedKey × Addr × V)) (b : Addr) (v : V), x = .ref d ∧ y = .ref a ∧ NK H k (.ref a) ∧ k.depth ≤ 8 ∧ DN P w H d xs ∧ fnd xs k = some (b, v) ∧ Q v H
def tDGetN (P : Program) (w : World) (td ty : TE) : TE := fun σ H Q => td σ H fun x H1 => ty σ H1 fun y H2 => rIxN P w x y H2 Q
theorem pe_dgetN {o i : Expr} {pos : Pos} {td ty : TE} (hu : X.A.units + 64 < cLine) (ho : PE X o td) (hi : PE X i ty) (hs : NoSl i) : PE X (.Subscript o i pos) (tDGetN X.prog X.w td ty) := by
  refine ⟨fun pins s σ H Q I h => ?_⟩
  refine subD_of PySem.F.slot_dict_getitem.lookup hs (thn (ho.run pins s σ H _ I h) fun u s1 ⟨x, H1, I1, rx, q1⟩ => thn (hi.run pins s1 σ H1 _ I1 q1) fun iv s2 ⟨y, H2, I2, ry, d, a, k, xs, b, v, ex, ey, hk, hd, hn, hf, q2⟩ => ?_)
  subst ex ey
  obtain rfl : u = Value.ref d := rx
  obtain rfl : iv = Value.ref a := ry
  obtain ⟨hs', ys, pr, dd⟩ := dn_rd I2.hok hn
  refine ⟨dd.typeIs, ?_⟩
  rcases kn_fnd pr k with ⟨h1, _⟩ | ⟨a', v', u', h1, h2, rv⟩
  · rw [h1] at hf; cases hf
  · rw [h1] at hf
    cases hf
    exact wpAny_getItem_heap (room_n (X := X) hu) ⟨nk_is I2.hok k _ _ hk rfl, hd⟩ dd h2 ⟨v, H2, I2.tok _, rv, q2⟩
/-- d[row] = v, row not yet there -/
def tSetN (P : Program) (w : World) : TSet := fun o i v H Q => ∃ (d a : Addr) (k : NestedKey) (xs : List (NestedKey × Addr × V)), o = .ref d ∧ i = .ref a ∧ NK H k (.ref a) ∧ k.depth ≤ 8 ∧ DN P w H d xs ∧ fnd xs k = none ∧ xs.length < sizeLine ∧
  ∀ H', (∀ b, b ≠ d → H' b = H b) → DN P w H' d (xs ++ [(k, a, v)]) → Q H'
theorem set_n (hu : X.A.units + 64 < cLine) : PSet X (tSetN X.prog X.w) := by
  intro pins s σ H o i v ov iv u Q I ro ri rv h
  obtain ⟨d, a, k, xs, rfl, rfl, hk, hdep, hn, hf, hl, q⟩ := h
  obtain rfl : ov = Value.ref d := ro
  obtain rfl : iv = Value.ref a := ri
  obtain ⟨hs, ys, pr, dd⟩ := dn_rd I.hok hn
  have ak : atKey ys k = none := by
    rcases kn_fnd pr k with ⟨_, h2⟩ | ⟨_, _, _, h1, _⟩
    · exact h2
    · rw [h1] at hf; cases hf
  have lz : ys.length ≤ sizeLine := by rw [← Paired.length pr]; exact hn.z
  have key := nk_is I.hok k _ (.ref a) hk rfl
  have mu : Mut (H d) := by
    rcases hn.at_ with ⟨_, e⟩ | ⟨_, _, _, e⟩
    · rw [e]; exact True.intro
    · rw [e]; exact True.intro
  have ntup : ∀ b zs, H b = some (.tup zs) → b ≠ d := fun b zs e z => by
    rw [z] at e
    rcases hn.at_ with ⟨_, e2⟩ | ⟨_, _, _, e2⟩
    · rw [e] at e2; cases e2
    · rw [e] at e2; cases e2
  refine wpAny_setItem_heap (hsz := lz) (room_n (X := X) hu) ⟨key, hdep⟩ dd fun h' dd' sb => ?_
  rw [storedH_new ak] at dd'
  obtain ⟨o', es, ep, g1, g2, g3, g4, g5, g6⟩ := dd'
  have pr' : KN (xs ++ [(k, a, v)]) (ys ++ [(k, a, u)]) := Paired.snoc pr ⟨rfl, rfl, rv⟩
  refine ⟨upd H d (.ext (DNh X.prog X.w d (ys ++ [(k, a, u)]))), d_write I mu sb ⟨o', g1⟩ ⟨⟨o', es, ep, g1, g2, g3, g4⟩, ⟨o', g1⟩, ?_⟩, q _ (fun b hb => upd_ne hb) ⟨?_, ?_, ?_, ?_⟩⟩
  · rintro h1 h2 ⟨o, es, ep, z1, z2, z3, z4⟩ kp
    exact ⟨o, es, ep, kp _ z1, z2, z3, z4⟩
  · rw [List.length_append, List.length_singleton]
    omega
  · rw [List.map_append]
    refine List.nodup_append.mpr ⟨hn.nd, List.nodup_cons.mpr ⟨by simp, .nil⟩, fun x hx y hy e => ?_⟩
    obtain ⟨z, hz, rfl⟩ := List.mem_map.mp hx
    have hy' : y = k := by simpa using hy
    have : fnd xs k ≠ none := by
      unfold fnd
      intro hh
      rw [Option.map_eq_none_iff, List.find?_eq_none] at hh
      exact hh z hz (decide_eq_true (by rw [e, hy']))
    exact this hf
  · intro x hx
    have kp : ∀ b zs, H b = some (.tup zs) → (upd H d (.ext (DNh X.prog X.w d (ys ++ [(k, a, u)])))) b = some (.tup zs) := fun b zs e => by
      rw [upd_ne (ntup b zs e)]
      exact e
    rcases List.mem_append.mp hx with hx | hx
    · exact ⟨NK.keep kp _ _ (hn.keys x hx).1, (hn.keys x hx).2⟩
    · rw [List.mem_singleton.mp hx]
      exact ⟨NK.keep kp _ _ hk, hdep⟩
  · exact .inr ⟨hs, _, pr', upd_same⟩
/-- len(d) -/
theorem call_lenN : CallR X (.builtin "len") (fun xs H Q => ∃ (d : Addr) (ys : List (NestedKey × Addr × V)), xs = [.ref d] ∧ DN X.prog X.w H d ys ∧ Q (.int ys.length) H) := by
  intro pins s σ H xs us Q I r h
  obtain ⟨d, zs, rfl, hn, q⟩ := h
  obtain ⟨u, rfl, rx⟩ := r.one
  cases rx
  obtain ⟨hs, ys, pr, dd⟩ := dn_rd I.hok hn
  have hm : s.heap.DictKeyed (nestedKind X.prog X.w) d (pairsH ys) := ⟨ys, dd, rfl⟩
  have ln : (pairsH ys).length = zs.length := by rw [pairsH_length, Paired.length pr]
  have z := hn.z
  rw [sizeLine_eq] at z
  refine PyProof.Rows.call_len_slot (n := (pairsH ys).length) hm.typeIs PySem.F.slot_dict_len (fun Q' hq => len_keyed hs hm hq) (by omega) (by omega) ?_
  rw [ln]
  exact ⟨.int zs.length, H, I.tok _, ⟨_, rfl⟩, q⟩
/-- *d in a list -/
def tStarN (P : Program) (w : World) (te : TE) (t : TA) : TA := fun σ H Q => te σ H fun x H1 => ∃ (d : Addr) (zs : List (NestedKey × Addr × V)), x = .ref d ∧ DN P w H1 d zs ∧ t σ H1 fun ys H2 => Q (zs.map (fun z => V.ref z.2.1) ++ ys) H2
theorem star_n {pins : List (Addr × Obj)} {σ : L2.St} {H : Hp} {s : Shared} {d : Addr} {zs : List (NestedKey × Addr × V)} {E : Value → Shared → Prop} {Q : List Value → Shared → Prop} (hc : X.calm = true) (I : Inv X pins σ H s) (h : DN X.prog X.w H d zs)
    (hQ : ∀ us s', Inv X pins σ H s' → Vals (zs.map fun z => V.ref z.2.1) us → Q us s') : PySem.W.StarOf (model X.prog X.w) X.A E (.ref d) Q s := by
  obtain ⟨hs, ys, pr, o, es, ep, g1, g2, g3, g4, g5, g6⟩ := dn_rd I.hok h
  have hT : s.TypeIs (.ref d) "dict" := ⟨o, g1, g2.1⟩
  have l1 : es.size = ys.length := size_of_entries g4
  have l2 : zs.length = ys.length := Paired.length pr
  have z := h.z
  have col : wpAny (model X.prog X.w) X.A (collect (.ref d)) Q E s := by
    refine PySem.W.kdu_collect (kdl_raw hs g2 g3) (I.ok.hd hc) g1 (by omega) fun h' tk acc kp it => ?_
    refine hQ _ _ (I.kept (t' := tk) kp) ?_
    have hl : acc.toList.length = ys.length := by rw [Array.length_toList, it.1]; exact l1
    have ea : acc.toList = ys.map fun x => Value.ref x.2.1 := by
      apply List.ext_getElem?
      intro j
      rw [List.getElem?_map]
      cases hj : acc.toList[j]? with
      | none =>
        have h1 := List.getElem?_eq_none_iff.mp hj
        rw [List.getElem?_eq_none (by omega)]
        rfl
      | some v =>
        obtain ⟨en, hen, hv⟩ := it.2 j v (by rw [← Array.getElem?_toList]; exact hj)
        have qe := entry_at g4 j
        rw [hen] at qe
        cases hb : ys[j]? with
        | none => rw [hb] at qe; cases qe
        | some y =>
          rw [hb] at qe
          cases qe
          rw [hv]
          rfl
    rw [ea]
    have vs : ∀ {l : List (NestedKey × Addr × V)} {m : List (NestedKey × Addr × Value)}, KN l m → Vals (l.map fun z => V.ref z.2.1) (m.map fun x => Value.ref x.2.1) := by
      intro l m q
      induction q with
      | nil => exact .nil
      | cons h t ih =>
        refine .cons ?_ ih
        show Value.ref _ = Value.ref _
        rw [h.2.1]
    exact vs pr
  unfold PySem.W.StarOf notIterableAtAll
  exact wpAny_bind (wpAny_specialOf hT PySem.F.slot_dict_iter.lookup (wpAny_pure ⟨rfl, col⟩))
theorem pa_starN {e : Expr} {es : List Expr} {te : TE} {t : TA} {p : Pos} (hc : X.calm = true) (he : PE X e te) (hr : PA X es t) (hs : starEach (.Starred e p :: es) X.env = (true, eval e X.env) :: starEach es X.env := by rfl) : PA X (.Starred e p :: es) (tStarN X.prog X.w te t) := by
  refine ⟨fun pos pins s σ H Q I h => ?_⟩
  refine PySem.W.items_star (thn (he.run pins s σ H _ I h) fun v s1 ⟨y, H1, I1, ry, d, zs, ey, hx, q⟩ => ?_) hs
  subst ey
  obtain rfl : v = Value.ref d := ry
  refine star_n hc I1 hx fun us s2 I2 rv => ?_
  exact thn (hr.run pos pins s2 σ H1 _ I2 q) fun ws s3 ⟨vs, H3, I3, r3, q3⟩ => ⟨_ ++ vs, H3, I3, rv.append r3, q3⟩
end
end Gd
set_option Elab.async false
set_option linter.all false
set_option maxRecDepth 100000
set_option maxHeartbeats 4000000
namespace Ks
open PySem PySem.Spec PyProof.Rows L2 Gd Kx
/-! ### trees -/
inductive Tr where
  | n0 (r : Rw)
  | n1 (r : Rw) (a : Tr)
  | n2 (r : Rw) (a b : Tr)
  | n3 (r : Rw) (a b c : Tr)
deriving DecidableEq
namespace Tr
def row : Tr → Rw
  | n0 r => r
  | n1 r _ => r
  | n2 r _ _ => r
  | n3 r _ _ _ => r
def kids : Tr → List Tr
  | n0 _ => []
  | n1 _ a => [a]
  | n2 _ a b => [a, b]
  | n3 _ a b c => [a, b, c]
theorem ind {p : Tr → Prop} (h : ∀ t, (∀ c ∈ t.kids, p c) → p t) : ∀ t, p t
  | n0 r => h _ fun c hc => by cases hc
  | n1 r a => h _ fun c hc => by
    have e : c = a := List.mem_singleton.mp hc
    rw [e]
    exact ind h a
  | n2 r a b => h _ fun c hc => by
    have e : c = a ∨ c = b := by simpa [kids] using hc
    rcases e with e | e
    · rw [e]; exact ind h a
    · rw [e]; exact ind h b
  | n3 r a b d => h _ fun c hc => by
    have e : c = a ∨ c = b ∨ c = d := by simpa [kids] using hc
    rcases e with e | e | e
    · rw [e]; exact ind h a
    · rw [e]; exact ind h b
    · rw [e]; exact ind h d
theorem ext : ∀ {t u : Tr}, t.row = u.row → t.kids = u.kids → t = u := by
  intro t u h k
  cases t <;> cases u <;> simp_all [row, kids]
theorem kids3 (t : Tr) : t.kids.length ≤ 3 := by cases t <;> simp [kids]
def mk (r : Rw) : List Tr → Tr
  | [] => n0 r
  | [a] => n1 r a
  | [a, b] => n2 r a b
  | a :: b :: c :: _ => n3 r a b c
theorem mk_row (r : Rw) (l : List Tr) : (mk r l).row = r := by
  match l with
  | [] => rfl
  | [_] => rfl
  | [_, _] => rfl
  | _ :: _ :: _ :: _ => rfl
theorem mk_kids (r : Rw) {l : List Tr} (h : l.length ≤ 3) : (mk r l).kids = l := by
  match l, h with
  | [], _ => rfl
  | [_], _ => rfl
  | [_, _], _ => rfl
  | [_, _, _], _ => rfl
theorem mk_self (t : Tr) : mk t.row t.kids = t := by cases t <;> rfl
def size : Tr → Nat
  | n0 _ => 1
  | n1 _ a => 1 + a.size
  | n2 _ a b => 1 + (a.size + b.size)
  | n3 _ a b c => 1 + (a.size + (b.size + c.size))
theorem size_eq (t : Tr) : t.size = 1 + (t.kids.map size).sum := by cases t <;> simp [size, kids]
def dep : Tr → Nat
  | n0 _ => 1
  | n1 _ a => 1 + a.dep
  | n2 _ a b => 1 + max a.dep b.dep
  | n3 _ a b c => 1 + max a.dep (max b.dep c.dep)
theorem size_kid {t c : Tr} (h : c ∈ t.kids) : c.size < t.size := by
  cases t <;> simp [kids] at h
  · subst h; simp [size]
  · rcases h with rfl | rfl <;> simp [size] <;> omega
  · rcases h with rfl | rfl | rfl <;> simp [size] <;> omega
def Ok (m : Md) : Tr → Prop
  | n0 r => r ∈ m.rs ∧ r.2.2 = []
  | n1 r a => r ∈ m.rs ∧ r.2.2 = [a.row.2.1] ∧ a.Ok m
  | n2 r a b => r ∈ m.rs ∧ r.2.2 = [a.row.2.1, b.row.2.1] ∧ a.Ok m ∧ b.Ok m
  | n3 r a b c => r ∈ m.rs ∧ r.2.2 = [a.row.2.1, b.row.2.1, c.row.2.1] ∧ a.Ok m ∧ b.Ok m ∧ c.Ok m
theorem ok_iff {m : Md} {t : Tr} : t.Ok m ↔ t.row ∈ m.rs ∧ t.row.2.2 = t.kids.map (·.row.2.1) ∧ ∀ c ∈ t.kids, c.Ok m := by
  cases t <;> simp [Ok, row, kids]
def post : Tr → List Tr
  | n0 r => [n0 r]
  | n1 r a => a.post ++ [n1 r a]
  | n2 r a b => a.post ++ (b.post ++ [n2 r a b])
  | n3 r a b c => a.post ++ (b.post ++ (c.post ++ [n3 r a b c]))
theorem post_eq (t : Tr) : t.post = t.kids.flatMap post ++ [t] := by cases t <;> simp [post, kids]
theorem post_size (t : Tr) : ∀ u ∈ t.post, u.size ≤ t.size := by
  induction t using ind with
  | h t ih =>
    intro u hu
    rw [post_eq] at hu
    rcases List.mem_append.mp hu with hu | hu
    · obtain ⟨c, hc, hu⟩ := List.mem_flatMap.mp hu
      have := ih c hc u hu
      have := size_kid hc
      omega
    · rw [List.mem_singleton.mp hu]
      exact Nat.le_refl _
theorem post_ok {m : Md} (t : Tr) (g : t.Ok m) : ∀ u ∈ t.post, u.Ok m := by
  induction t using ind with
  | h t ih =>
    intro u hu
    rw [post_eq] at hu
    rcases List.mem_append.mp hu with hu | hu
    · obtain ⟨c, hc, hu⟩ := List.mem_flatMap.mp hu
      exact ih c hc ((ok_iff.mp g).2.2 c hc) u hu
    · rw [List.mem_singleton.mp hu]
      exact g
theorem kids_post (t : Tr) : ∀ u ∈ t.post, ∀ c ∈ u.kids, c ∈ t.post := by
  induction t using ind with
  | h t ih =>
    intro u hu c hc
    rw [post_eq] at hu ⊢
    rcases List.mem_append.mp hu with hu | hu
    · obtain ⟨d, hd, hu⟩ := List.mem_flatMap.mp hu
      exact List.mem_append_left _ (List.mem_flatMap.mpr ⟨d, hd, ih d hd u hu c hc⟩)
    · rw [List.mem_singleton.mp hu] at hc
      exact List.mem_append_left _ (List.mem_flatMap.mpr ⟨c, hc, by rw [post_eq]; exact List.mem_append_right _ (List.mem_singleton.mpr rfl)⟩)
end Tr
/-! ### lists without repetition, filled -/
def add (D : List Tr) (t : Tr) : List Tr := if t ∈ D then D else D ++ [t]
def addAll (D : List Tr) (L : List Tr) : List Tr := L.foldl add D
theorem add_in {D : List Tr} {t : Tr} (h : t ∈ D) : add D t = D := if_pos h
theorem add_out {D : List Tr} {t : Tr} (h : t ∉ D) : add D t = D ++ [t] := if_neg h
theorem addAll_app (D L M : List Tr) : addAll D (L ++ M) = addAll (addAll D L) M := List.foldl_append ..
theorem mem_add {D : List Tr} {t u : Tr} : u ∈ add D t ↔ u ∈ D ∨ u = t := by
  unfold add
  split
  · rename_i h
    refine ⟨.inl, fun e => ?_⟩
    rcases e with e | e
    · exact e
    · rw [e]; exact h
  · rw [List.mem_append, List.mem_singleton]
theorem mem_addAll {u : Tr} : ∀ {L D : List Tr}, u ∈ addAll D L ↔ u ∈ D ∨ u ∈ L
  | [], D => by simp [addAll]
  | t :: r, D => by
    show u ∈ addAll (add D t) r ↔ _
    rw [mem_addAll, mem_add, List.mem_cons]
    constructor
    · rintro ((h | h) | h)
      · exact .inl h
      · exact .inr (.inl h)
      · exact .inr (.inr h)
    · rintro (h | h | h)
      · exact .inl (.inl h)
      · exact .inl (.inr h)
      · exact .inr h
theorem add_pre (D : List Tr) (t : Tr) : ∃ E, add D t = D ++ E := by
  unfold add
  split
  · exact ⟨[], (List.append_nil _).symm⟩
  · exact ⟨[t], rfl⟩
theorem addAll_pre : ∀ (L D : List Tr), ∃ E, addAll D L = D ++ E
  | [], D => ⟨[], (List.append_nil _).symm⟩
  | t :: r, D => by
    obtain ⟨E, e⟩ := add_pre D t
    obtain ⟨F, f⟩ := addAll_pre r (add D t)
    refine ⟨E ++ F, ?_⟩
    show addAll (add D t) r = _
    rw [f, e, List.append_assoc]
theorem add_nd {D : List Tr} {t : Tr} (h : D.Nodup) : (add D t).Nodup := by
  unfold add
  split
  · exact h
  · rename_i n
    rw [List.nodup_append]
    exact ⟨h, List.nodup_cons.mpr ⟨by simp, .nil⟩, fun x hx y hy e => n (by rw [List.mem_singleton.mp hy] at e; rw [← e]; exact hx)⟩
theorem addAll_nd : ∀ {L D : List Tr}, D.Nodup → (addAll D L).Nodup
  | [], _, h => h
  | t :: r, D, h => addAll_nd (L := r) (add_nd h)
theorem addAll_dd (D : List Tr) : ∀ L : List Tr, addAll D (addAll [] L) = addAll D L := by
  intro L
  have : ∀ (L : List Tr), addAll D (addAll [] L.reverse) = addAll D L.reverse := by
    intro L
    induction L with
    | nil => rfl
    | cons x r ih =>
      rw [List.reverse_cons, addAll_app, addAll_app]
      show addAll D (add (addAll [] r.reverse) x) = add (addAll D r.reverse) x
      by_cases h : x ∈ addAll [] r.reverse
      · rw [add_in h, ih, add_in (mem_addAll.mpr (.inr (by rcases mem_addAll.mp h with z | z; cases z; exact z)))]
      · rw [add_out h, addAll_app, ih]
        rfl
  have := this L.reverse
  rwa [List.reverse_reverse] at this
/-- each tree's fields stand ahead of it -/
def Ord (D : List Tr) : Prop := ∀ i u, D[i]? = some u → ∀ c ∈ u.kids, c ∈ D.take i
theorem Ord.mem {D : List Tr} (o : Ord D) {u c : Tr} (h : u ∈ D) (hc : c ∈ u.kids) : c ∈ D := by
  obtain ⟨i, hi, e⟩ := List.mem_iff_getElem.mp h
  exact List.mem_of_mem_take (o i u (by rw [List.getElem?_eq_getElem hi, e]) c hc)
theorem ord_nil : Ord [] := fun i u h => by simp at h
theorem ord_add {D : List Tr} {t : Tr} (o : Ord D) (h : ∀ c ∈ t.kids, c ∈ D) : Ord (add D t) := by
  unfold add
  split
  · exact o
  · intro i u e c hc
    by_cases hi : i < D.length
    · rw [List.getElem?_append_left hi] at e
      rw [List.take_append_of_le_length (Nat.le_of_lt hi)]
      exact o i u e c hc
    · have hl := (List.getElem?_eq_some_iff.mp e).1
      rw [List.length_append, List.length_singleton] at hl
      have ei : i = D.length := by omega
      subst ei
      rw [List.getElem?_append_right (Nat.le_refl _), Nat.sub_self] at e
      cases e
      rw [List.take_left' rfl]
      exact h c hc
theorem ord_post (t : Tr) : ∀ D : List Tr, Ord D → Ord (addAll D t.post) := by
  induction t using Tr.ind with
  | h t ih =>
    intro D o
    rw [Tr.post_eq, addAll_app]
    have k : ∀ (L : List Tr), (∀ c ∈ L, c ∈ t.kids) → ∀ D, Ord D → Ord (addAll D (L.flatMap Tr.post)) := by
      intro L
      induction L with
      | nil => intro _ D o; exact o
      | cons c r ih2 =>
        intro h D o
        rw [List.flatMap_cons, addAll_app]
        exact ih2 (fun x hx => h x (List.mem_cons_of_mem _ hx)) _ (ih c (h c (List.mem_cons_self ..)) D o)
    refine ord_add (k t.kids (fun _ h => h) D o) fun c hc => mem_addAll.mpr (.inr (List.mem_flatMap.mpr ⟨c, hc, ?_⟩))
    rw [Tr.post_eq]
    exact List.mem_append_right _ (List.mem_singleton.mpr rfl)
theorem ord_posts (L : List Tr) : ∀ D : List Tr, Ord D → Ord (addAll D (L.flatMap Tr.post)) := by
  induction L with
  | nil => intro D o; exact o
  | cons c r ih =>
    intro D o
    rw [List.flatMap_cons, addAll_app]
    exact ih _ (ord_post c D o)
theorem ord_take {D : List Tr} (o : Ord D) (n : Nat) : Ord (D.take n) := by
  intro i u e c hc
  rw [List.getElem?_take] at e
  split at e
  · rename_i h
    have := o i u e c hc
    rw [List.take_take, Nat.min_eq_left (Nat.le_of_lt h)]
    exact this
  · cases e
/-- all the trees in a tree, each once, fields first -/
def sub (t : Tr) : List Tr := addAll [] t.post
def below (L : List Tr) : List Tr := addAll [] (L.flatMap Tr.post)
theorem sub_eq (t : Tr) : sub t = below t.kids ++ [t] := by
  unfold sub below
  rw [Tr.post_eq, addAll_app]
  refine add_out fun h => ?_
  rcases mem_addAll.mp h with z | z
  · cases z
  · obtain ⟨c, hc, hu⟩ := List.mem_flatMap.mp z
    have := Tr.post_size c t hu
    have := Tr.size_kid hc
    omega
theorem sub_nd (t : Tr) : (sub t).Nodup := addAll_nd .nil
theorem below_nd (L : List Tr) : (below L).Nodup := addAll_nd .nil
theorem sub_ord (t : Tr) : Ord (sub t) := ord_post t [] ord_nil
theorem below_ord (L : List Tr) : Ord (below L) := ord_posts L [] ord_nil
theorem sub_ok {m : Md} {t : Tr} (g : t.Ok m) : ∀ u ∈ sub t, u.Ok m := fun u hu => by
  rcases mem_addAll.mp hu with z | z
  · cases z
  · exact Tr.post_ok t g u z
theorem below_snoc (L : List Tr) (c : Tr) : below (L ++ [c]) = addAll (below L) (sub c) := by
  unfold below sub
  rw [List.flatMap_append, addAll_app, addAll_dd, List.flatMap_cons, List.flatMap_nil, List.append_nil]
theorem below_mem {L : List Tr} {c : Tr} (h : c ∈ L) : c ∈ below L := mem_addAll.mpr (.inr (List.mem_flatMap.mpr ⟨c, h, by rw [Tr.post_eq]; exact List.mem_append_right _ (List.mem_singleton.mpr rfl)⟩))
/-! ### rows -/
abbrev Rn : Type := Str × List Nat
def code (D : List Tr) (t : Tr) : Rn := (t.row.1, t.kids.map fun c => D.idxOf c)
def codes (D : List Tr) : List Rn := D.map (code D)
theorem code_app {D : List Tr} (E : List Tr) {t : Tr} (h : ∀ c ∈ t.kids, c ∈ D) : code (D ++ E) t = code D t := by
  unfold code
  congr 1
  refine List.map_congr_left fun c hc => ?_
  rw [List.idxOf_append, if_pos (h c hc)]
theorem codes_snoc {D : List Tr} {t : Tr} (o : Ord D) (h : ∀ c ∈ t.kids, c ∈ D) : codes (D ++ [t]) = codes D ++ [code D t] := by
  unfold codes
  rw [List.map_append, List.map_cons, List.map_nil, code_app _ h]
  congr 1
  exact List.map_congr_left fun u hu => code_app _ fun c hc => o.mem hu hc
theorem codes_take {D : List Tr} (o : Ord D) (n : Nat) : codes (D.take n) = (codes D).take n := by
  unfold codes
  rw [← List.map_take]
  refine List.map_congr_left fun u hu => ?_
  have e : D = D.take n ++ D.drop n := (List.take_append_drop n D).symm
  conv => rhs; rw [e]
  rw [code_app]
  exact fun c hc => (ord_take o n).mem hu hc
theorem names_inj {m : Md} (g : (m.rs.map (·.1)).Nodup) {r r' : Rw} (h : r ∈ m.rs) (h' : r' ∈ m.rs) (e : r.1 = r'.1) : r = r' := by
  obtain ⟨i, hi, ei⟩ := List.mem_iff_getElem.mp h
  obtain ⟨j, hj, ej⟩ := List.mem_iff_getElem.mp h'
  have : i = j := by
    have := (List.getElem?_inj (l := m.rs.map (·.1)) (i := i) (j := j) (by rw [List.length_map]; exact hi) g).mp (by
      rw [List.getElem?_map, List.getElem?_map, List.getElem?_eq_getElem hi, List.getElem?_eq_getElem hj, ei, ej]
      exact congrArg some e)
    exact this
  subst this
  rw [← ei, ← ej]
theorem idx_at {D : List Tr} {c : Tr} (h : c ∈ D) : D[D.idxOf c]? = some c := by
  have hl := List.idxOf_lt_length_of_mem h
  rw [List.getElem?_eq_getElem hl, List.getElem_idxOf hl]
theorem idx_of {D : List Tr} (nd : D.Nodup) {i : Nat} {c : Tr} (h : D[i]? = some c) : D.idxOf c = i := by
  obtain ⟨hi, e⟩ := List.getElem?_eq_some_iff.mp h
  rw [← e]
  exact nd.idxOf_getElem i hi
theorem idx_inj {D : List Tr} {c d : Tr} (hc : c ∈ D) (hd : d ∈ D) (e : D.idxOf c = D.idxOf d) : c = d := by
  have h1 := idx_at hc
  have h2 := idx_at hd
  rw [e, h2] at h1
  exact (Option.some.inj h1).symm
theorem map_idx_inj {D : List Tr} : ∀ {L M : List Tr}, (∀ c ∈ L, c ∈ D) → (∀ c ∈ M, c ∈ D) → L.map (fun c => D.idxOf c) = M.map (fun c => D.idxOf c) → L = M
  | [], [], _, _, _ => rfl
  | [], _ :: _, _, _, h => by simp at h
  | _ :: _, [], _, _, h => by simp at h
  | a :: r, b :: s, h1, h2, h => by
    rw [List.map_cons, List.map_cons] at h
    injection h with e1 e2
    rw [idx_inj (h1 a (List.mem_cons_self ..)) (h2 b (List.mem_cons_self ..)) e1, map_idx_inj (fun c hc => h1 c (List.mem_cons_of_mem _ hc)) (fun c hc => h2 c (List.mem_cons_of_mem _ hc)) e2]
theorem code_inj {m : Md} (g : (m.rs.map (·.1)).Nodup) {D : List Tr} {t u : Tr} (ht : t.Ok m) (hu : u.Ok m) (kt : ∀ c ∈ t.kids, c ∈ D) (ku : ∀ c ∈ u.kids, c ∈ D) (e : code D t = code D u) : t = u := by
  have e1 : t.row.1 = u.row.1 := congrArg (fun x : Rn => x.1) e
  have e2 : t.kids.map (fun c => D.idxOf c) = u.kids.map (fun c => D.idxOf c) := congrArg (fun x : Rn => x.2) e
  exact Tr.ext (names_inj g (Tr.ok_iff.mp ht).1 (Tr.ok_iff.mp hu).1 e1) (map_idx_inj kt ku e2)
theorem code_mem {m : Md} (g : (m.rs.map (·.1)).Nodup) {D : List Tr} (o : Ord D) (ok : ∀ u ∈ D, u.Ok m) {t : Tr} (ht : t.Ok m) (kt : ∀ c ∈ t.kids, c ∈ D) : code D t ∈ codes D ↔ t ∈ D := by
  constructor
  · intro h
    obtain ⟨u, hu, e⟩ := List.mem_map.mp h
    rw [← code_inj g (ok u hu) ht (fun c hc => o.mem hu hc) kt e]
    exact hu
  · intro h
    exact List.mem_map.mpr ⟨t, h, rfl⟩
theorem codes_nd {m : Md} (g : (m.rs.map (·.1)).Nodup) {D : List Tr} (o : Ord D) (nd : D.Nodup) (ok : ∀ u ∈ D, u.Ok m) : (codes D).Nodup := by
  unfold codes
  rw [List.nodup_iff_pairwise_ne, List.pairwise_map]
  refine List.Pairwise.imp_of_mem (fun {a b} ha hb n e => n ?_) (List.nodup_iff_pairwise_ne.mp nd)
  exact code_inj g (ok a ha) (ok b hb) (fun c hc => o.mem ha hc) (fun c hc => o.mem hb hc) e
theorem sub_last (t : Tr) : (sub t)[(sub t).length - 1]? = some t := by
  rw [sub_eq, List.length_append, List.length_singleton, Nat.add_sub_cancel, List.getElem?_append_right (Nat.le_refl _), Nat.sub_self]
  rfl
end Ks
set_option Elab.async false
set_option linter.all false
set_option maxRecDepth 100000
set_option maxHeartbeats 4000000
namespace Ks
open PySem PySem.Spec PyProof.Rows L2 Gd Kx
/-! ### trees in the heap -/
def cT (i : Nat) : Stmt := inClass (Kx.topS 51) i
/-- the fields of a tree -/
def trF (R s : Addr) (n k : Str) (F : Addr) (z d : Int) : List (Str × V) :=
  putF "_depth" (.int d) (putF "_size" (.int z) (putF "_fields" (.ref F) (putF "kind" (.str k) (putF "name" (.str n) (putF "_schema" (.ref s) (putF "_rows" (.ref R) []))))))
section
variable {R s F : Addr} {n k : Str} {z d : Int}
theorem trF_R : (trF R s n k F z d).lookup ("_rows" : Str) = some (V.ref R) := rfl
theorem trF_s : (trF R s n k F z d).lookup ("_schema" : Str) = some (V.ref s) := rfl
theorem trF_n : (trF R s n k F z d).lookup ("name" : Str) = some (V.str n) := rfl
theorem trF_k : (trF R s n k F z d).lookup ("kind" : Str) = some (V.str k) := rfl
theorem trF_F : (trF R s n k F z d).lookup ("_fields" : Str) = some (V.ref F) := rfl
theorem trF_z : (trF R s n k F z d).lookup ("_size" : Str) = some (V.int z) := rfl
theorem trF_d : (trF R s n k F z d).lookup ("_depth" : Str) = some (V.int d) := rfl
end
def nsV (ks : List Nat) : List V := ks.map fun k => V.int ((k : Nat) : Int)
def RowN (H : Hp) (x : V) (r : Rn) : Prop := ∃ b q : Addr, x = .ref b ∧ H b = some (.tup [.str r.1, .ref q]) ∧ H q = some (.tup (nsV r.2))
def RwsT (H : Hp) (R : Addr) (rs : List Rn) : Prop := ∃ xs : List V, H R = some (.tup xs) ∧ Paired (RowN H) xs rs
theorem RowN.keep {H H' : Hp} {x : V} {r : Rn} (h : RowN H x r) (s : Same H H') : RowN H' x r := by
  obtain ⟨b, q, e, h1, h2⟩ := h
  exact ⟨b, q, e, s _ _ h1, s _ _ h2⟩
theorem RwsT.keep {H H' : Hp} {R : Addr} {rs : List Rn} (h : RwsT H R rs) (s : Same H H') : RwsT H' R rs := by
  obtain ⟨xs, e, p⟩ := h
  exact ⟨xs, s _ _ e, Paired.mapP p fun _ _ q => RowN.keep q s⟩
theorem par_at {α β : Type} {G : α → β → Prop} : ∀ {xs : List α} {rs : List β} {n : Nat} {x : α}, Paired G xs rs → xs[n]? = some x → ∃ r, rs[n]? = some r ∧ G x r
  | _, _, n, x, .nil, h => by simp at h
  | _, _, 0, x, .cons (b := i) r t, h => by
    have e := Option.some.inj h
    subst e
    exact ⟨i, rfl, r⟩
  | _, _, n + 1, x, .cons r t, h => by
    obtain ⟨i, e, q⟩ := par_at (n := n) t (by simpa using h)
    exact ⟨i, by simpa using e, q⟩
/-- a tree at a -/
inductive TrAt (CT CS : Addr) (m : Md) (H : Hp) : Addr → Tr → Prop
  | mk {a dx R s F : Addr} {t : Tr} {bs : List Addr} : H a = some (.ins CT dx (trF R s t.row.1 t.row.2.1 F (t.size : Nat) (t.dep : Nat))) → ScAt CS H s m → RwsT H R (codes (sub t)) → H F = some (.tup (bs.map V.ref)) → bs.length = t.kids.length →
      (∀ (i : Nat) (b : Addr) (c : Tr), bs[i]? = some b → t.kids[i]? = some c → TrAt CT CS m H b c) → TrAt CT CS m H a t
theorem TrAt.keep {CT CS : Addr} {m : Md} {H H' : Hp} {a : Addr} {t : Tr} (h : TrAt CT CS m H a t) (s : Same H H') : TrAt CT CS m H' a t := by
  induction h with
  | mk h1 h2 h3 h4 h5 _ ih => exact .mk (s _ _ h1) (h2.keep s) (h3.keep s) (s _ _ h4) h5 ih
/-- what is known of the class -/
structure TCl (K : PySem.W.Frag) (C : Addr) : Prop where
  cls : Cls K C
  nR : NoAttr K C "_rows"
  ns : NoAttr K C "_schema"
  nn : NoAttr K C "name"
  nk : NoAttr K C "kind"
  nF : NoAttr K C "_fields"
  nz : NoAttr K C "_size"
  nd : NoAttr K C "_depth"
theorem scGs : FnScope ["self"] ["self"] (defScope (cT 3)) := ⟨rfl, rfl, rfl, by decide +kernel, rfl, by decide +kernel, by decide +kernel⟩
theorem scGR : FnScope ["self"] ["self"] (defScope (cT 4)) := ⟨rfl, rfl, rfl, by decide +kernel, rfl, by decide +kernel, by decide +kernel⟩
theorem scGF : FnScope ["self"] ["self"] (defScope (cT 5)) := ⟨rfl, rfl, rfl, by decide +kernel, rfl, by decide +kernel, by decide +kernel⟩
theorem scGz : FnScope ["self"] ["self"] (defScope (cT 6)) := ⟨rfl, rfl, rfl, by decide +kernel, rfl, by decide +kernel, by decide +kernel⟩
theorem scGd : FnScope ["self"] ["self"] (defScope (cT 7)) := ⟨rfl, rfl, rfl, by decide +kernel, rfl, by decide +kernel, by decide +kernel⟩
abbrev sChk : Stmt := Kx.topS 38
abbrev sIto : Stmt := Kx.topS 43
abbrev sCf : Stmt := Kx.topS 44
theorem scChk : FnScope ["schema"] ["schema"] (defScope sChk) := ⟨rfl, rfl, rfl, by decide +kernel, rfl, by decide +kernel, by decide +kernel⟩
theorem scIto : FnScope ["value", "schema", "kind"] ["value", "schema", "kind"] (defScope sIto) := ⟨rfl, rfl, rfl, by decide +kernel, rfl, by decide +kernel, by decide +kernel⟩
theorem scCf : FnScope ["schema", "kinds", "fields", "index", "kind"] ["schema", "kinds", "fields"] (defScope sCf) := ⟨rfl, rfl, rfl, by decide +kernel, rfl, by decide +kernel, by decide +kernel⟩
section
variable {P : Program} {w : World} {K : PySem.W.Frag} {mg : Str → Option Value} {base : Heap} {CT CS : Addr}
/-- an attribute, given back -/
def spGet (C : Addr) (x : Str) : Sp := fun vs H Q _ => ∃ (a dx : Addr) (fs : List (Str × V)) (v : V), vs = [.ref a] ∧ H a = some (.ins C dx fs) ∧ fs.lookup x = some v ∧ Q v H
theorem ok_gs {f : Addr} {fd : FuncData} (F : Fun K "schema" "Tree.schema" (cT 3) f fd) (Z : TCl K CT) : FnOk P w K mg base CX0 1 f fd ["self"] (spGet CT "_schema") := by
  refine F.ok scGs (fun vs H Q E h => ?_) (fun cv A ou s H vs Q E hr h => ?_)
  · obtain ⟨a, dx, fs, v, rfl, _⟩ := h
    rfl
  obtain ⟨a, dx, fs, v, rfl, e, l, q⟩ := h
  exact ⟨_, pss_one (ps_ret (pe_fld (pv 0) rfl)), .ref a, rfl, a, CT, dx, _, _, rfl, e, Z.cls, Z.ns, l, q⟩
theorem ok_gR {f : Addr} {fd : FuncData} (F : Fun K "rows" "Tree.rows" (cT 4) f fd) (Z : TCl K CT) : FnOk P w K mg base CX0 1 f fd ["self"] (spGet CT "_rows") := by
  refine F.ok scGR (fun vs H Q E h => ?_) (fun cv A ou s H vs Q E hr h => ?_)
  · obtain ⟨a, dx, fs, v, rfl, _⟩ := h
    rfl
  obtain ⟨a, dx, fs, v, rfl, e, l, q⟩ := h
  exact ⟨_, pss_one (ps_ret (pe_fld (pv 0) rfl)), .ref a, rfl, a, CT, dx, _, _, rfl, e, Z.cls, Z.nR, l, q⟩
theorem ok_gF {f : Addr} {fd : FuncData} (F : Fun K "fields" "Tree.fields" (cT 5) f fd) (Z : TCl K CT) : FnOk P w K mg base CX0 1 f fd ["self"] (spGet CT "_fields") := by
  refine F.ok scGF (fun vs H Q E h => ?_) (fun cv A ou s H vs Q E hr h => ?_)
  · obtain ⟨a, dx, fs, v, rfl, _⟩ := h
    rfl
  obtain ⟨a, dx, fs, v, rfl, e, l, q⟩ := h
  exact ⟨_, pss_one (ps_ret (pe_fld (pv 0) rfl)), .ref a, rfl, a, CT, dx, _, _, rfl, e, Z.cls, Z.nF, l, q⟩
theorem ok_gz {f : Addr} {fd : FuncData} (F : Fun K "size" "Tree.size" (cT 6) f fd) (Z : TCl K CT) : FnOk P w K mg base CX0 1 f fd ["self"] (spGet CT "_size") := by
  refine F.ok scGz (fun vs H Q E h => ?_) (fun cv A ou s H vs Q E hr h => ?_)
  · obtain ⟨a, dx, fs, v, rfl, _⟩ := h
    rfl
  obtain ⟨a, dx, fs, v, rfl, e, l, q⟩ := h
  exact ⟨_, pss_one (ps_ret (pe_fld (pv 0) rfl)), .ref a, rfl, a, CT, dx, _, _, rfl, e, Z.cls, Z.nz, l, q⟩
theorem ok_gd {f : Addr} {fd : FuncData} (F : Fun K "depth" "Tree.depth" (cT 7) f fd) (Z : TCl K CT) : FnOk P w K mg base CX0 1 f fd ["self"] (spGet CT "_depth") := by
  refine F.ok scGd (fun vs H Q E h => ?_) (fun cv A ou s H vs Q E hr h => ?_)
  · obtain ⟨a, dx, fs, v, rfl, _⟩ := h
    rfl
  obtain ⟨a, dx, fs, v, rfl, e, l, q⟩ := h
  exact ⟨_, pss_one (ps_ret (pe_fld (pv 0) rfl)), .ref a, rfl, a, CT, dx, _, _, rfl, e, Z.cls, Z.nd, l, q⟩
/-- the schema class's services -/
structure Sch (P : Program) (w : World) (K : PySem.W.Frag) (mg : Str → Option Value) (base : Heap) (CS : Addr) : Prop where
  cl : SCl K CS
  ci : SCi K CS
  gl : mg "Schema" = some (.ref CS)
  eq : ∃ f fd, Dm K CS "__eq__" f ∧ FnOk P w K mg base CX0 1 f fd ["self", "other"] (spEq K CS) ∧ Binds K fd ["self", "other"] []
  co : ∃ f fd, Meth K CS "constructor" f ∧ FnOk P w K mg base CX0 3 f fd ["self", "name"] (spCo CS) ∧ Binds K fd ["self", "name"] []
theorem ScAt.ins {H : Hp} {a : Addr} {m : Md} (h : ScAt CS H a m) : ∃ dx fs, H a = some (.ins CS dx fs) := by
  obtain ⟨dx, k, c, n, ⟨dp, e, _⟩, _⟩ := h
  exact ⟨dx, _, e⟩
/-- nothing is wrong with a schema -/
def spChk (CS : Addr) : Sp := fun vs H Q _ => ∃ (s : Addr) (m : Md), vs = [.ref s] ∧ ScAt CS H s m ∧ Q .non H
theorem ok_chk {f : Addr} {fd : FuncData} (F : Fun K "check_schema" "check_schema" sChk f fd) (mi : mg "isinstance" = none) (S : Sch P w K mg base CS) : FnOk P w K mg base CX0 1 f fd ["schema"] (spChk CS) := by
  refine F.ok scChk (fun vs H Q E h => ?_) (fun cv A ou s H vs Q E hr h => ?_)
  · obtain ⟨a, m, rfl, _⟩ := h
    rfl
  obtain ⟨a, m, rfl, hs, q⟩ := h
  refine ⟨_, pss_one (ps_if (pt_not (pt_val (pe_callB call_isi (by rfl) mi boot_isinstance (pa_cons (pv 0) (pa_cons (pe_glob (v := .ref CS) (by rfl) S.gl rfl) pa_nil))))) pss_never pss_nil), ?_⟩
  refine ⟨.ref a, rfl, .ref a, .ref CS, _, .ref CS, true, rfl, .own CS, .base (hs.ty S.cl S.ci), ?_, _, rfl, iteF q⟩
  unfold PySem.W.kitOne
  rw [if_pos (beq_self_eq_true _)]
/-- the tree class's getters -/
structure Tch (P : Program) (w : World) (K : PySem.W.Frag) (mg : Str → Option Value) (base : Heap) (CT : Addr) : Prop where
  cl : TCl K CT
  ci : SCi K CT
  gl : mg "Tree" = some (.ref CT)
  gs : ∃ p f fd, PropOf K CT "schema" p f ∧ FnOk P w K mg base CX0 1 f fd ["self"] (spGet CT "_schema") ∧ Binds K fd ["self"] []
  gR : ∃ p f fd, PropOf K CT "rows" p f ∧ FnOk P w K mg base CX0 1 f fd ["self"] (spGet CT "_rows") ∧ Binds K fd ["self"] []
  gF : ∃ p f fd, PropOf K CT "fields" p f ∧ FnOk P w K mg base CX0 1 f fd ["self"] (spGet CT "_fields") ∧ Binds K fd ["self"] []
  gz : ∃ p f fd, PropOf K CT "size" p f ∧ FnOk P w K mg base CX0 1 f fd ["self"] (spGet CT "_size") ∧ Binds K fd ["self"] []
  gd : ∃ p f fd, PropOf K CT "depth" p f ∧ FnOk P w K mg base CX0 1 f fd ["self"] (spGet CT "_depth") ∧ Binds K fd ["self"] []
theorem TrAt.ty {m : Md} {H : Hp} {a : Addr} {t : Tr} (h : TrAt CT CS m H a t) (Z : TCl K CT) (I : SCi K CT) : TyOf K H (.ref a) (.ref CT) := by
  cases h with
  | mk e _ _ _ _ _ => exact .ins e Z.cls I.ca I.cn I.ct I.mo
theorem kit_self (C : Addr) : PySem.W.kitOne K (.ref C) (.ref C) = some true := by
  unfold PySem.W.kitOne
  rw [if_pos (beq_self_eq_true _)]
/-- a tree of this kind -/
def spIto (CT CS : Addr) : Sp := fun vs H Q _ => ∃ (b s : Addr) (k : Str) (m : Md) (t : Tr), vs = [.ref b, .ref s, .str k] ∧ TrAt CT CS m H b t ∧ ScAt CS H s m ∧ Good m ∧ Q (.bl (decide (t.row.2.1 = k))) H
theorem ok_ito {f : Addr} {fd : FuncData} (F : Fun K "is_tree_of" "is_tree_of" sIto f fd) (mi : mg "isinstance" = none) (S : Sch P w K mg base CS) (T : Tch P w K mg base CT) : FnOk P w K mg base CX0 3 f fd ["value", "schema", "kind"] (spIto CT CS) := by
  refine F.ok scIto (fun vs H Q E h => ?_) (fun cv A ou s H vs Q E hr h => ?_)
  · obtain ⟨b, s, k, m, t, rfl, _⟩ := h
    rfl
  obtain ⟨b, a, k, m, t, rfl, ht, hs, g, q⟩ := h
  obtain ⟨fe, de, De, Fe, be⟩ := S.eq
  obtain ⟨ps, fs, ds, Ps, Fs, bs⟩ := T.gs
  have hr1 : Room 1 (A.deeper (envOfC "is_tree_of" (defScope sIto) s.heap.objs.size f cv)) := hr.mono (by decide)
  refine ⟨_, pss_one (ps_ret (pe_and (pe_callB call_isi (by rfl) mi boot_isinstance (pa_cons (pv 0) (pa_cons (pe_glob (v := .ref CT) (by rfl) T.gl rfl) pa_nil)))
    (pe_and (pe_cmpR op_eq (pe_fld (pv 0) rfl) (pv 2) (nomark _)) (pe_one (pe_cmpR (op_eqO De Fe hr1 be pass0) (pe_prop (pv 0) T.cl.cls Ps Fs hr bs .nil pass0 rfl) (pv 1) (nomark _)))))), ?_⟩
  have ty := ht.ty T.cl T.ci
  cases ht with
  | @mk _ dx R s' F' _ _ e h2 h3 h4 h5 h6 =>
  refine ⟨.ref b, rfl, .ref b, .ref CT, _, .ref CT, true, rfl, .own CT, .base ty, kit_self CT, _, rfl, iteT ?_⟩
  refine ⟨.ref b, rfl, b, CT, dx, _, _, rfl, e, T.cl.cls, T.cl.nk, trF_k, .str k, rfl, rfl, _, rfl, ?_⟩
  rw [show decide (V.str t.row.2.1 = V.str k) = decide (t.row.2.1 = k) by rw [Bool.eq_iff_iff]; simp]
  cases hk : decide (t.row.2.1 = k) with
  | false =>
    rw [hk] at q
    exact iteF q
  | true =>
    rw [hk] at q
    obtain ⟨d1, f1, e1⟩ := h2.ins
    obtain ⟨d2, f2, e2⟩ := hs.ins
    refine iteT ⟨.ref b, rfl, b, dx, _, rfl, e, b, dx, _, .ref s', rfl, e, trF_s, .ref a, rfl, s', d1, f1, rfl, e1, .inl ⟨a, d2, f2, rfl, e2⟩, s', .ref a, m, rfl, h2, g, .inl ⟨a, m, rfl, hs, g, _, rfl, ?_⟩⟩
    rw [decide_eq_true rfl, decide_eq_true rfl]
    exact q
end
end Ks
set_option Elab.async false
set_option linter.all false
set_option maxRecDepth 100000
set_option maxHeartbeats 4000000
namespace Ks
open PySem PySem.Spec PyProof.Rows L2 Gd Kx
/-! ### the rows below a tree -/
abbrev sRb : Stmt := Kx.topS 45
abbrev nRb : List Str := ["name", "fields", "places", "tops", "field", "numbers", "its_name", "its_numbers", "row", "k"]
theorem scRb : FnScope nRb ["name", "fields"] (defScope sRb) := ⟨rfl, rfl, rfl, by decide +kernel, rfl, by decide +kernel, by decide +kernel⟩
/-- a row as a key -/
def rk (r : Rn) : NestedKey := .tup [.text r.1, .tup (r.2.map fun k => .num ((k : Nat) : Int))]
theorem nums_inj : ∀ {a b : List Nat}, a.map (fun k => NestedKey.num ((k : Nat) : Int)) = b.map (fun k => NestedKey.num ((k : Nat) : Int)) → a = b
  | [], [], _ => rfl
  | [], _ :: _, h => by simp at h
  | _ :: _, [], h => by simp at h
  | x :: r, y :: s, h => by
    rw [List.map_cons, List.map_cons] at h
    injection h with h1 h2
    injection h1 with h1
    rw [show x = y by omega, nums_inj h2]
theorem rk_inj {r s : Rn} (h : rk r = rk s) : r = s := by
  obtain ⟨a, b⟩ := r
  obtain ⟨c, d⟩ := s
  unfold rk at h
  injection h with h
  injection h with h1 h2
  injection h1 with h1
  injection h2 with h2 _
  injection h2 with h2
  exact Prod.ext h1 (nums_inj h2)
theorem rk_depth (r : Rn) : (rk r).depth ≤ 8 := by
  have e : ∀ l : List Nat, NestedKey.depthAll (l.map fun k => NestedKey.num ((k : Nat) : Int)) ≤ 1 := by
    intro l
    induction l with
    | nil => simp [NestedKey.depthAll]
    | cons x r ih => simp [NestedKey.depthAll, NestedKey.depth] at ih ⊢; omega
  have := e r.2
  simp only [rk, NestedKey.depth, NestedKey.depthAll]
  omega
theorem nka_nums {H : Hp} : ∀ l : List Nat, NKA H (l.map fun k => .num ((k : Nat) : Int)) (nsV l)
  | [] => .nil
  | k :: r => .cons (.int _) (nka_nums r)
theorem nka_nums' {H : Hp} : ∀ {l : List Nat} {xs : List V}, NKA H (l.map fun k => .num ((k : Nat) : Int)) xs → xs = nsV l
  | [], _, .nil => rfl
  | k :: r, _, .cons (.int _) t => by rw [nka_nums' t]; rfl
theorem rk_of {H : Hp} {x : V} {r : Rn} (h : RowN H x r) : NK H (rk r) x := by
  obtain ⟨b, q, rfl, h1, h2⟩ := h
  exact .tup h1 (.cons (.str _) (.cons (.tup h2 (nka_nums _)) .nil))
theorem of_rk {H : Hp} {x : V} {r : Rn} (h : NK H (rk r) x) : RowN H x r := by
  cases h with
  | @tup b _ _ h1 h2 =>
    cases h2 with
    | cons a t =>
      cases a
      cases t with
      | cons a t =>
        cases t
        cases a with
        | @tup q _ _ h3 h4 =>
          rw [nka_nums' h4] at h3
          exact ⟨b, q, rfl, h1, h3⟩
section
variable {P : Program} {w : World}
/-- the dict at d holds the places of these rows -/
def KD (P : Program) (w : World) (H : Hp) (d : Addr) (rs : List Rn) : Prop := ∃ xs, DN P w H d xs ∧ xs.map (·.1) = rs.map rk ∧ ∀ (i : Nat) (x : NestedKey × Addr × V), xs[i]? = some x → x.2.2 = V.int ((i : Nat) : Int)
theorem KD.keep {H H' : Hp} {d : Addr} {rs : List Rn} (h : KD P w H d rs) (s : Same H H') : KD P w H' d rs := by
  obtain ⟨xs, a, b, c⟩ := h
  exact ⟨xs, a.same s, b, c⟩
theorem kd_new {H : Hp} {d : Addr} (e : H d = some (.dT [])) : KD P w H d [] := ⟨[], .new e, rfl, fun i x h => by simp at h⟩
theorem fnd_none {xs : List (NestedKey × Addr × V)} {rs : List Rn} (e : xs.map (·.1) = rs.map rk) {r : Rn} (n : r ∉ rs) : fnd xs (rk r) = none := by
  unfold fnd
  rw [Option.map_eq_none_iff, List.find?_eq_none]
  intro x hx hd
  have hm : x.1 ∈ rs.map rk := by rw [← e]; exact List.mem_map.mpr ⟨x, hx, rfl⟩
  obtain ⟨s, hs, es⟩ := List.mem_map.mp hm
  have : x.1 = rk r := of_decide_eq_true hd
  rw [← es] at this
  exact n (rk_inj this ▸ hs)
theorem fnd_at : ∀ {xs : List (NestedKey × Addr × V)} {i : Nat} {x : NestedKey × Addr × V}, (xs.map (·.1)).Nodup → xs[i]? = some x → fnd xs x.1 = some x.2
  | [], i, x, _, h => by simp at h
  | y :: r, 0, x, _, h => by
    cases h
    simp [fnd, List.find?_cons]
  | y :: r, i + 1, x, nd, h => by
    rw [List.map_cons, List.nodup_cons] at nd
    rw [List.getElem?_cons_succ] at h
    have ne : ¬ y.1 = x.1 := fun e => nd.1 (e ▸ List.mem_map.mpr ⟨x, List.mem_of_getElem? h, rfl⟩)
    have ih := fnd_at nd.2 h
    unfold fnd at ih ⊢
    rw [List.find?_cons_of_neg (by simpa using ne)]
    exact ih
theorem fnd_some {H : Hp} {d : Addr} {xs : List (NestedKey × Addr × V)} {rs : List Rn} (D : DN P w H d xs) (e : xs.map (·.1) = rs.map rk) (v : ∀ (i : Nat) (x : NestedKey × Addr × V), xs[i]? = some x → x.2.2 = V.int ((i : Nat) : Int))
    {i : Nat} {r : Rn} (h : rs[i]? = some r) : ∃ b, fnd xs (rk r) = some (b, .int ((i : Nat) : Int)) := by
  have h1 : (xs.map (·.1))[i]? = some (rk r) := by rw [e, List.getElem?_map, h]; rfl
  rw [List.getElem?_map] at h1
  cases ex : xs[i]? with
  | none => rw [ex] at h1; cases h1
  | some x =>
    rw [ex] at h1
    have ek : x.1 = rk r := Option.some.inj h1
    have := fnd_at D.nd ex
    rw [ek] at this
    refine ⟨x.2.1, ?_⟩
    rw [this, ← v i x ex]
theorem kd_snoc {H : Hp} {d a : Addr} {xs : List (NestedKey × Addr × V)} {rs : List Rn} {r : Rn} (e : xs.map (·.1) = rs.map rk) (v : ∀ (i : Nat) (x : NestedKey × Addr × V), xs[i]? = some x → x.2.2 = V.int ((i : Nat) : Int))
    (D : DN P w H d (xs ++ [(rk r, a, V.int ((rs.length : Nat) : Int))])) : KD P w H d (rs ++ [r]) := by
  have hl : xs.length = rs.length := by
    have := congrArg List.length e
    rwa [List.length_map, List.length_map] at this
  refine ⟨_, D, by rw [List.map_append, List.map_append, e]; rfl, fun i x h => ?_⟩
  by_cases hi : i < xs.length
  · rw [List.getElem?_append_left hi] at h
    exact v i x h
  · rw [List.getElem?_append_right (by omega)] at h
    have h0 := (List.getElem?_eq_some_iff.mp h).1
    rw [List.length_singleton] at h0
    have ei : i = rs.length := by omega
    subst ei
    rw [show rs.length - xs.length = 0 by omega] at h
    cases h
    rfl
theorem kd_refs {H : Hp} : ∀ {xs : List (NestedKey × Addr × V)} {rs : List Rn}, xs.map (·.1) = rs.map rk → (∀ x ∈ xs, NK H x.1 (.ref x.2.1) ∧ x.1.depth ≤ 8) → Paired (RowN H) (xs.map fun z => V.ref z.2.1) rs
  | [], [], _, _ => .nil
  | [], _ :: _, e, _ => by simp at e
  | _ :: _, [], e, _ => by simp at e
  | x :: r, s :: t, e, k => by
    rw [List.map_cons, List.map_cons] at e
    injection e with e1 e2
    have k1 := (k x (List.mem_cons_self ..)).1
    rw [e1] at k1
    exact .cons (of_rk k1) (kd_refs e2 fun y hy => k y (List.mem_cons_of_mem _ hy))
end
/-- the trees at these addresses -/
structure Kids (CT CS : Addr) (m : Md) (H : Hp) (bs : List Addr) (cs : List Tr) : Prop where
  len : bs.length = cs.length
  at_ : ∀ (i : Nat) (b : Addr) (c : Tr), bs[i]? = some b → cs[i]? = some c → TrAt CT CS m H b c
theorem Kids.keep {CT CS : Addr} {m : Md} {H H' : Hp} {bs : List Addr} {cs : List Tr} (h : Kids CT CS m H bs cs) (s : Same H H') : Kids CT CS m H' bs cs := ⟨h.len, fun i b c e1 e2 => (h.at_ i b c e1 e2).keep s⟩
theorem Kids.get {CT CS : Addr} {m : Md} {H : Hp} {bs : List Addr} {cs : List Tr} (h : Kids CT CS m H bs cs) {i : Nat} {x : V} (e : (bs.map V.ref)[i]? = some x) : ∃ b c, x = .ref b ∧ bs[i]? = some b ∧ cs[i]? = some c ∧ TrAt CT CS m H b c := by
  rw [List.getElem?_map] at e
  cases eb : bs[i]? with
  | none => rw [eb] at e; cases e
  | some b =>
    rw [eb] at e
    have hi := (List.getElem?_eq_some_iff.mp eb).1
    have ec : cs[i]? = some (cs[i]'(by rw [← h.len]; exact hi)) := List.getElem?_eq_getElem _
    exact ⟨b, _, (Option.some.inj e).symm, rfl, ec, h.at_ i b _ eb ec⟩
theorem nsV_at {l : List Nat} {i k : Nat} (h : l[i]? = some k) : (nsV l)[i]? = some (V.int ((k : Nat) : Int)) := by
  unfold nsV
  rw [List.getElem?_map, h]
  rfl
theorem nsV_app (a b : List Nat) : nsV (a ++ b) = nsV a ++ nsV b := List.map_append ..
theorem nsV_len (l : List Nat) : (nsV l).length = l.length := List.length_map ..
theorem idx_app {D : List Tr} (E : List Tr) {L : List Tr} (h : ∀ c ∈ L, c ∈ D) : L.map (fun c => (D ++ E).idxOf c) = L.map (fun c => D.idxOf c) :=
  List.map_congr_left fun c hc => by rw [List.idxOf_append, if_pos (h c hc)]
theorem codes_len (D : List Tr) : (codes D).length = D.length := List.length_map ..
theorem codes_at {D : List Tr} {i : Nat} {u : Tr} (h : D[i]? = some u) : (codes D)[i]? = some (code D u) := by
  unfold codes
  rw [List.getElem?_map, h]
  rfl
theorem codes_at' {D : List Tr} {i : Nat} {r : Rn} (h : (codes D)[i]? = some r) : ∃ u, D[i]? = some u ∧ r = code D u := by
  unfold codes at h
  rw [List.getElem?_map] at h
  cases e : D[i]? with
  | none => rw [e] at h; cases h
  | some u => rw [e] at h; exact ⟨u, rfl, (Option.some.inj h).symm⟩
theorem below_ok {m : Md} {cs : List Tr} (g : ∀ c ∈ cs, c.Ok m) : ∀ u ∈ below cs, u.Ok m := fun u hu => by
  rcases mem_addAll.mp hu with z | z
  · cases z
  · obtain ⟨c, hc, hu⟩ := List.mem_flatMap.mp z
    exact Tr.post_ok c (g c hc) u hu
end Ks
set_option Elab.async false
set_option linter.all false
set_option maxRecDepth 100000
set_option maxHeartbeats 4000000
namespace Ks
open PySem PySem.Spec PyProof.Rows L2 Gd Kx
section
variable {P : Program} {w : World} {K : PySem.W.Frag} {mg : Str → Option Value} {base : Heap} {CT CS : Addr}
/-- nothing is wrong with the fields -/
def spCf (CT CS : Addr) : Sp := fun vs H Q _ => ∃ (s k F : Addr) (m : Md) (bs : List Addr) (cs : List Tr), vs = [.ref s, .ref k, .ref F] ∧ ScAt CS H s m ∧ Good m ∧ StT H k (cs.map (·.row.2.1)) ∧ H F = some (.tup (bs.map V.ref)) ∧ Kids CT CS m H bs cs ∧ cs.length ≤ 3 ∧
  ∀ H', Same H H' → Q .non H'
theorem ok_cf {f fi : Addr} {fd fdi : FuncData} (F : Fun K "_check_fields" "_check_fields" sCf f fd) (T : TS0 mg)
    (GI : FnOk P w K mg base CX0 3 fi fdi ["value", "schema", "kind"] (spIto CT CS)) (ki : PySem.W.keepIn K (.ref fi) = true) (bI : Binds K fdi ["value", "schema", "kind"] []) (gI : mg "is_tree_of" = some (.ref fi)) :
    FnOk P w K mg base CX0 4 f fd ["schema", "kinds", "fields"] (spCf CT CS) := by
  refine F.ok scCf (fun vs H Q E h => ?_) (fun cv A ou s H vs Q E hr h => ?_)
  · obtain ⟨s, k, F, m, bs, cs, rfl, _⟩ := h
    rfl
  obtain ⟨a, k, F, m, bs, cs, rfl, hs, g, hk, hF, kid, l3, q⟩ := h
  refine ⟨_, pss_cons (ps_if (pt_cmpR op_ne (pe_callB call_len_seq (by rfl) T.len PySem.boot_len (pa_cons (pv 2) pa_nil)) (pe_callB call_len_seq (by rfl) T.len PySem.boot_len (pa_cons (pv 1) pa_nil)) (nomark _)) pss_never pss_nil)
    (pss_one (ps_for PassesOwn.never rfl (pi_enT (by rfl) T.enu (pa_cons (pv 1) pa_nil)) (pg_tup rfl (pgs_cons (pg_name (i := 3) scCf.nd rfl (.inl rfl)) (pgs_cons (pg_name (i := 4) scCf.nd rfl (.inl rfl)) pgs_nil)))
      (pss_one (ps_if (pt_not (pt_val (pe_call GI hr (by rfl) gI ki bI .nil pass0 (pa_cons (pe_ix ix_tup (pv 2) (pv 3) (fun _ _ => rfl)) (pa_cons (pv 0) (pa_cons (pv 4) pa_nil)))))) pss_never pss_nil)))), ?_⟩
  refine ⟨.ref F, rfl, F, _, rfl, .inr (SqT.of hF), .ref k, rfl, k, _, rfl, .inr (SqT.of hk), rfl, _, rfl, ?_⟩
  have e : ((bs.map V.ref).length : Int) = (((cs.map (·.row.2.1)).map V.str).length : Int) := by
    rw [List.length_map, List.length_map, List.length_map, kid.len]
  rw [show (!decide (V.int ((bs.map V.ref).length : Int) = V.int (((cs.map (·.row.2.1)).map V.str).length : Int))) = false by rw [e, decide_eq_true rfl]; rfl]
  refine iteF ?_
  refine ⟨.ref k, rfl, k, _, rfl, SqT.of hk, for_enT (K := K) (t := k) (xs := (cs.map (·.row.2.1)).map V.str) (fun i σ H' => ∃ o1 o2 : Option V, σ = [some (.ref a), some (.ref k), some (.ref F), o1, o2] ∧ Same H H') ⟨none, none, rfl, fun _ _ e => e⟩ (fun i σ H' _ p => ?_) ?_ ?_⟩
  · obtain ⟨_, _, _, s1⟩ := p
    exact SqT.of (s1 _ _ hk)
  · rintro i x σ H1 p hx ⟨o1, o2, rfl, s1⟩ np
    rw [List.map_map, List.getElem?_map] at hx
    cases ec : cs[i]? with
    | none => rw [ec] at hx; cases hx
    | some c =>
      rw [ec] at hx
      cases hx
      have hi := (List.getElem?_eq_some_iff.mp ec).1
      have eb : bs[i]? = some (bs[i]'(by rw [kid.len]; exact hi)) := List.getElem?_eq_getElem _
      have s2 := s1.trans (same_new (o := .tup [.int (i : Nat), .str c.row.2.1]) np)
      refine ⟨p, _, rfl, SqT.of upd_same, rfl, _, _, rfl, _, _, rfl, rfl, ?_⟩
      refine ⟨.ref F, rfl, .int (i : Nat), rfl, F, _, _, _, rfl, rfl, SqT.of (s2 _ _ hF), atI_nat (by rw [List.getElem?_map, eb]; rfl), .ref a, rfl, .str c.row.2.1, rfl, ?_⟩
      refine ⟨_, a, c.row.2.1, m, c, rfl, (kid.keep s2).at_ i _ c eb ec, hs.keep s2, g, true, ?_, ?_⟩
      · rw [decide_eq_true rfl]
      · exact iteF ⟨_, _, rfl, s2⟩
  · rintro σ H1 ⟨o1, o2, rfl, s1⟩
    exact q H1 s1
end
end Ks
set_option Elab.async false
set_option linter.all false
set_option maxRecDepth 100000
set_option maxHeartbeats 4000000
namespace Ks
open PySem PySem.Spec PyProof.Rows L2 Gd Kx
theorem last_at {l : List V} {n : Nat} {v : V} (hn : l.length = n) (h : l[n - 1]? = some v) : atI l (-1) = some v := by
  have h0 := (List.getElem?_eq_some_iff.mp h).1
  unfold atI ixN
  subst hn
  have e : (if (-1 : Int) < 0 then (-1 : Int) + (l.length : Nat) else -1) = ((l.length - 1 : Nat) : Int) := by
    rw [if_pos (by decide)]
    omega
  simp only [e] at *
  have c : (1 : Int) ≤ ((l.length : Nat) : Int) := by omega
  have e2 : (-1 + ((l.length : Nat) : Int)).toNat = l.length - 1 := by omega
  simp
  rw [if_pos c, e2]
  exact h
theorem KD.there {P : Program} {w : World} {H : Hp} {d : Addr} {rs : List Rn} (h : KD P w H d rs) : H d = some (.dT []) ∨ ∃ φ, H d = some (.ext φ) := by
  obtain ⟨xs, a, _⟩ := h
  rcases a.at_ with ⟨_, e⟩ | ⟨_, _, _, e⟩
  · exact .inl e
  · exact .inr ⟨_, e⟩
theorem KD.ne {P : Program} {w : World} {H : Hp} {d L : Addr} {rs : List Rn} {ys : List V} (h : KD P w H d rs) (e : H L = some (.lst ys)) : d ≠ L := fun z => by
  rcases h.there with e2 | ⟨_, e2⟩
  · rw [z, e] at e2; cases e2
  · rw [z, e] at e2; cases e2
theorem KD.fresh {P : Program} {w : World} {H : Hp} {d p : Addr} {rs : List Rn} (h : KD P w H d rs) (n : H p = none) : d ≠ p := fun z => by
  rcases h.there with e2 | ⟨_, e2⟩
  · rw [z, n] at e2; cases e2
  · rw [z, n] at e2; cases e2
/-- a list is written: the dict stays -/
theorem KD.lst {P : Program} {w : World} {H : Hp} {d L : Addr} {rs : List Rn} {ys zs : List V} (h : KD P w H d rs) (e : H L = some (.lst ys)) : KD P w (upd H L (.lst zs)) d rs := by
  have n := h.ne e
  obtain ⟨xs, a, b, c⟩ := h
  exact ⟨xs, a.keep (fun b ys' e2 => by rw [upd_ne (fun z => by rw [z, e] at e2; cases e2)]; exact e2) (upd_ne n), b, c⟩
section
variable {P : Program} {w : World} {K : PySem.W.Frag} {mg : Str → Option Value} {base : Heap} {CT CS : Addr}
/-- the rows below, and the top's own row -/
def spRb (CT CS : Addr) : Sp := fun vs H Q _ => ∃ (n : Str) (F : Addr) (m : Md) (bs : List Addr) (cs : List Tr), vs = [.str n, .ref F] ∧ Good m ∧ H F = some (.tup (bs.map V.ref)) ∧ Kids CT CS m H bs cs ∧ cs.length ≤ 3 ∧ (∀ c ∈ cs, c.Ok m) ∧ (below cs).length < 200 ∧
  ∀ R H', Same H H' → RwsT H' R (codes (below cs) ++ [(n, cs.map fun c => (below cs).idxOf c)]) → Q (.ref R) H'
set_option maxHeartbeats 8000000 in
theorem ok_rb {f : Addr} {fd : FuncData} (F : Fun K "_rows_below" "_rows_below" sRb f fd) (T : TS0 mg) (mM : ∃ t, mg "MOST_ROWS" = some (.int 200 t)) (Tc : Tch P w K mg base CT) : FnOk P w K mg base CX0 3 f fd ["name", "fields"] (spRb CT CS) := by
  refine F.ok scRb (fun vs H Q E h => ?_) (fun cv A ou s H vs Q E hr h => ?_)
  · obtain ⟨n, F, m, bs, cs, rfl, _⟩ := h
    rfl
  obtain ⟨n, F, m, bs, cs, rfl, g, hF, kid, l3, ok, small, q⟩ := h
  obtain ⟨tM, mM⟩ := mM
  obtain ⟨pR, fR, dR, PR, FR, bR⟩ := Tc.gR
  have hu := hr.units
  refine ⟨_, pss_cons (ps_set (i := 2) scRb.nd rfl (.inl rfl) pe_dnewT)
    (pss_cons (ps_set (i := 3) scRb.nd rfl (.inl rfl) (pe_lst pa_nil))
    (pss_cons (ps_for PassesOwn.never rfl (pi_tup (pv 1)) (pg_name (i := 4) scRb.nd rfl (.inl rfl))
      (pss_cons (ps_set (i := 5) scRb.nd rfl (.inr rfl) (pe_lst pa_nil))
      (pss_cons (ps_for PassesOwn.never rfl (pi_tup (pe_prop (pv 4) Tc.cl.cls PR FR hr bR .nil pass0 rfl)) (pg_tup rfl (pgs_cons (pg_name (i := 6) scRb.nd rfl (.inl rfl)) (pgs_cons (pg_name (i := 7) scRb.nd rfl (.inl rfl)) pgs_nil)))
        (pss_cons (ps_set (i := 8) scRb.nd rfl (.inl rfl) (pe_tup (pa_cons (pv 6) (pa_cons (pe_tupleOf (by rfl) T.tup (pe_lc (own := [("k", 9)]) (g := gName 9) (tt := tYes) rfl scRb.nd (pi_tup (pv 7)) (blkOk_by (own := [("k", 9)]) (N := nRb) (sc := defScope sRb) (by decide +kernel))
            (fun _ _ _ _ _ => pg_name (i := 9) scRb.nd rfl (Or.inl rfl)) (fun _ _ _ _ _ => pts_nil) (fun _ _ _ _ _ => asTE (te := tOp (rIxL K) (tVar 5) (tVar 9)) (pe_ix ix_list (pv 5) (pv 9) (fun _ _ => rfl)) rfl))) pa_nil))))
        (pss_cons (ps_if (pt_cmpR (op_notInN hu) (pv 8) (pv 2) (by rfl)) (pss_one (ps_asg (pe_callB call_lenN (by rfl) T.len PySem.boot_len (pa_cons (pv 2) pa_nil)) (pg_sub (pv 2) (pv 8) (set_n hu)))) pss_nil)
        (pss_one (ps_expr (pe_bm PySem.F.plainAttrs_list PySem.F.slot_list_append PySem.F.type_list_append mt_append (pv 5) (pa_cons (pe_dgetN hu (pv 2) (pv 8) (fun _ _ => rfl)) pa_nil)))))))
      (pss_one (ps_expr (pe_bm PySem.F.plainAttrs_list PySem.F.slot_list_append PySem.F.type_list_append mt_append (pv 3) (pa_cons (pe_ix ix_list (pv 5) (pe_un un_neg pe_int) (fun _ _ => rfl)) pa_nil)))))))
    (pss_cons (ps_if (pt_cmpR op_ge (pe_callB call_lenN (by rfl) T.len PySem.boot_len (pa_cons (pv 2) pa_nil)) (pe_glob (v := .int 200) (by rfl) mM ⟨_, rfl⟩) (nomark _)) pss_never pss_nil)
    (pss_one (ps_ret (pe_tupleOf (by rfl) T.tup (pe_lst (pa_starN rfl (pv 2) (pa_cons (pe_tup (pa_cons (pv 0) (pa_cons (pe_tupleOf (by rfl) T.tup (pv 3)) pa_nil))) pa_nil))))))))), ?_⟩
  refine fun d nd => ⟨(by show 0 ≤ sizeLine; exact Nat.zero_le _), fun L nL => ?_⟩
  have s1 : Same H (upd (upd H d (.dT [])) L (.lst [])) := (same_new nd).trans (same_new nL)
  have dL : d ≠ L := ne_of_none upd_same nL
  refine ⟨.ref F, rfl, F, rfl, ⟨_, SqT.of (s1 _ _ hF)⟩, for_tup (K := K) (a := F) (xs := bs.map V.ref) (fun i σ H' => ∃ o4 o5 o6 o7 o8 : Option V, σ = [some (.str n), some (.ref F), some (.ref d), some (.ref L), o4, o5, o6, o7, o8, none] ∧ Same H H' ∧
      KD P w H' d (codes (below (cs.take i))) ∧ H' L = some (.lst (nsV ((cs.take i).map fun c => (below (cs.take i)).idxOf c))))
    ⟨none, none, none, none, none, rfl, s1, kd_new (by rw [upd_ne dL]; exact upd_same), upd_same⟩ (fun i σ H' _ p => ?_) ?_ ?_⟩
  · obtain ⟨_, _, _, _, _, _, s2, _⟩ := p
    exact SqT.of (s2 _ _ hF)
  · rintro i x σ H2 hx ⟨o4, o5, o6, o7, o8, rfl, s2, kd2, eL2⟩
    obtain ⟨b, c, rfl, eb, ec, ht⟩ := kid.get hx
    have okc := ok c (List.mem_of_getElem? ec)
    cases ht with
    | @mk _ dx R s' F' _ bs' e _ hR _ _ _ =>
    obtain ⟨xs, eR, pR⟩ := hR
    refine ⟨(by show 0 ≤ sizeLine; exact Nat.zero_le _), fun N nN => ?_⟩
    have LN : L ≠ N := ne_of_none eL2 nN
    have dN : d ≠ N := kd2.fresh nN
    have s3 := s2.trans (same_new (o := .lst []) nN)
    -- the rows of a field
    refine ⟨.ref b, rfl, b, dx, _, rfl, s3 _ _ e, b, dx, _, .ref R, rfl, s3 _ _ e, trF_R, R, rfl, ⟨_, SqT.of (s3 _ _ eR)⟩, for_tup (K := K) (a := R) (xs := xs) (fun j σ H' => ∃ o6 o7 o8 : Option V, σ = [some (.str n), some (.ref F), some (.ref d), some (.ref L), some (.ref b), some (.ref N), o6, o7, o8, none] ∧ Same H H' ∧
        KD P w H' d (codes (addAll (below (cs.take i)) ((sub c).take j))) ∧ H' L = some (.lst (nsV ((cs.take i).map fun c => (below (cs.take i)).idxOf c))) ∧ H' N = some (.lst (nsV (((sub c).take j).map fun x => (addAll (below (cs.take i)) ((sub c).take j)).idxOf x))))
      ⟨o6, o7, o8, rfl, s3, kd2.keep (same_new nN), same_new nN _ _ eL2, upd_same⟩ (fun j σ H' _ p => ?_) ?_ ?_⟩
    · obtain ⟨_, _, _, _, s4, _⟩ := p
      exact SqT.of (s4 _ _ eR)
    · clear eL2 kd2 s3
      rintro j x σ H4 hx ⟨o6, o7, o8, rfl, s4, kd4, eL4, eN4⟩
      obtain ⟨r, er, bx, qx, rfl, h1, h2⟩ := par_at pR hx
      obtain ⟨u, eu, rfl⟩ := codes_at' er
      have oD0 : Ord (below (cs.take i)) := below_ord _
      generalize hD : addAll (below (cs.take i)) ((sub c).take j) = D at kd4 eN4
      have hu2 : u ∈ sub c := List.mem_of_getElem? eu
      have oku := sub_ok okc u hu2
      have jl : j < (sub c).length := (List.getElem?_eq_some_iff.mp eu).1
      have kj : ∀ y ∈ u.kids, y ∈ (sub c).take j := sub_ord c j u eu
      have inD : ∀ y ∈ (sub c).take j, y ∈ D := fun y hy => by rw [← hD]; exact mem_addAll.mpr (.inr hy)
      have kD : ∀ y ∈ u.kids, y ∈ D := fun y hy => inD y (kj y hy)
      have okD : ∀ y ∈ D, y.Ok m := fun y hy => by
        rw [← hD] at hy
        rcases mem_addAll.mp hy with z | z
        · exact below_ok (fun c hc => ok c (List.mem_of_mem_take hc)) y z
        · exact sub_ok okc y (List.mem_of_mem_take z)
      have ndD : D.Nodup := by rw [← hD]; exact addAll_nd (below_nd _)
      have oD : Ord D := by
        rw [← hD]
        have : ∀ n, Ord (addAll (below (cs.take i)) ((sub c).take n)) := fun n => by
          induction n with
          | zero => exact oD0
          | succ n ih =>
            rw [List.take_add_one]
            cases en : (sub c)[n]? with
            | none => rw [Option.toList_none, List.append_nil]; exact ih
            | some y =>
              rw [Option.toList_some, addAll_app]
              exact ord_add ih fun z hz => mem_addAll.mpr (.inr (sub_ord c n y en z hz))
        exact this j
      have nx : addAll (below (cs.take i)) ((sub c).take (j + 1)) = add D u := by
        rw [List.take_add_one, eu, Option.toList_some, addAll_app, hD]
        rfl
      rw [nx]
      have lk : u.kids.length ≤ 3 := u.kids3
      have lN : (((sub c).take j).map fun x => D.idxOf x).length = j := by rw [List.length_map, List.length_take]; omega
      refine ⟨bx, _, rfl, SqT.of (s4 _ _ h1), rfl, _, _, rfl, _, _, rfl, rfl, ?_⟩
      refine seq_join (fun σ G => ∃ T2 : Addr, σ = [some (.str n), some (.ref F), some (.ref d), some (.ref L), some (.ref b), some (.ref N), some (.str u.row.1), some (.ref qx), some (.ref T2), none] ∧ Same H G ∧ KD P w G d (codes D) ∧
        G L = some (.lst (nsV ((cs.take i).map fun c => (below (cs.take i)).idxOf c))) ∧ G N = some (.lst (nsV (((sub c).take j).map fun x => D.idxOf x))) ∧ RowN G (.ref T2) (code D u)) ?_ fun rest1 => ?_
      rotate_left
      · refine ⟨.str u.row.1, rfl, .ref qx, rfl, qx, rfl, ⟨_, SqT.of (s4 _ _ h2)⟩, fun C nC => lc_funT (K := K) (a := qx) (xs := nsV (code (sub c) u).2) (ys := nsV (code D u).2) (fun _ => rfl) nC (SqT.of (s4 _ _ h2)) (by show (nsV (u.kids.map _)).length ≤ 1000; rw [nsV_len, List.length_map]; omega)
          (by show (nsV (u.kids.map _)).length = (nsV (u.kids.map _)).length; rw [nsV_len, nsV_len, List.length_map, List.length_map]) (fun p x y H5 hx hy s5 k => ?_) fun H5 s5 eC => ?_⟩
        · intro kk
          show tOp (rIxL K) (tVar 5) (tVar 9) _ _ _
          have ex : (nsV (u.kids.map fun c' => (sub c).idxOf c'))[p]? = some x := hx
          have ey : (nsV (u.kids.map fun c' => D.idxOf c'))[p]? = some y := hy
          unfold nsV at ex ey
          rw [List.map_map, List.getElem?_map] at ex ey
          cases ek : u.kids[p]? with
          | none => rw [ek] at ex; cases ex
          | some y' =>
            rw [ek] at ex ey
            cases ex
            cases ey
            have hk := kj y' (List.mem_of_getElem? ek)
            have hi : ((sub c).take j)[(sub c).idxOf y']? = some y' := by
              obtain ⟨t, ht, et⟩ := List.mem_iff_getElem.mp hk
              rw [List.getElem_take] at et
              rw [List.length_take] at ht
              have : (sub c).idxOf y' = t := idx_of (sub_nd c) (by rw [List.getElem?_eq_getElem (by omega), et])
              rw [this, List.getElem?_take, if_pos (by omega), List.getElem?_eq_getElem (by omega), et]
            refine ⟨.ref N, rfl, .int _, rfl, N, _, _, _, rfl, rfl, SqL.of (s5 _ _ eN4), atI_nat (nsV_at (by rw [List.getElem?_map, hi]; rfl)), kk H5 fun _ _ e => e⟩
        refine .inl ⟨C, _, rfl, SqL.of eC, fun T1 nT1 => ⟨(by show 2 ≤ sizeLine; decide), fun T2 nT2 => ?_⟩⟩
        have s6 : Same H4 (upd (upd H5 T1 (.tup (nsV (code D u).2))) T2 (.tup [.str u.row.1, .ref T1])) := s5.trans ((same_new nT1).trans (same_new nT2))
        exact rest1 _ _ ⟨T2, rfl, s4.trans s6, kd4.keep s6, s6 _ _ eL4, s6 _ _ eN4, T2, T1, rfl, upd_same, same_new nT2 _ _ upd_same⟩
      rintro σ H6 ⟨T2, rfl, s06, kd6, eL6, eN6, row6⟩
      clear kd4 eL4 eN4
      have nNH : H N = none := by
        cases z : H N with
        | none => rfl
        | some o => rw [s2 _ _ z] at nN; cases nN
      refine seq_join (fun σ G => σ = [some (.str n), some (.ref F), some (.ref d), some (.ref L), some (.ref b), some (.ref N), some (.str u.row.1), some (.ref qx), some (.ref T2), none] ∧ Same H G ∧ KD P w G d (codes (add D u)) ∧
        G L = some (.lst (nsV ((cs.take i).map fun c => (below (cs.take i)).idxOf c))) ∧ G N = some (.lst (nsV (((sub c).take j).map fun x => D.idxOf x))) ∧ RowN G (.ref T2) (code D u)) ?_ fun rest => ?_
      · rintro σ H7 ⟨rfl, s7, kd7, eL7, eN7, row7⟩
        have hmem : u ∈ add D u := mem_add.mpr (.inr rfl)
        obtain ⟨E7, eE⟩ := add_pre D u
        have kc := kd7.lst eN7 (zs := nsV (((sub c).take j).map fun x => D.idxOf x) ++ [V.int (((add D u).idxOf u : Nat) : Int)])
        obtain ⟨ys, dn, ek, ev⟩ := kd7
        have hc : (codes (add D u))[(add D u).idxOf u]? = some (code D u) := by
          rw [codes_at (idx_at hmem), eE, code_app E7 kD]
        obtain ⟨b', ef⟩ := fnd_some dn ek ev hc
        refine ⟨.ref N, rfl, .inl ⟨rfl, _, SqL.of eN7⟩, .ref d, rfl, .ref T2, rfl, d, T2, rk (code D u), ys, b', _, rfl, rfl, rk_of row7, rk_depth _, dn, ef, N, _, _, rfl, rfl, eN7, ?_, _, _, _, rfl, same_upd s7 nNH, kc, ?_, ?_⟩
        · rw [nsV_len, lN]
          have : (sub c).length ≤ (below cs).length := by
            have h1 : ∀ y ∈ sub c, y ∈ below cs := fun y hy => by
              rcases mem_addAll.mp hy with z | z
              · cases z
              · exact mem_addAll.mpr (.inr (List.mem_flatMap.mpr ⟨c, List.mem_of_getElem? ec, z⟩))
            exact (sub_nd c).length_le_of_subset h1
          exact small1000 (by omega)
        · rw [upd_ne LN]
          exact eL7
        · rw [upd_same, List.take_add_one, eu, Option.toList_some, List.map_append, nsV_app, eE, idx_app E7 (L := (sub c).take j) inD]
          rfl
      · obtain ⟨ys, dn, ek, ev⟩ := id kd6
        by_cases hm : u ∈ D
        · obtain ⟨b', ef⟩ := fnd_some dn ek ev (codes_at (idx_at hm))
          refine ⟨.ref T2, rfl, .ref d, rfl, T2, d, rk (code D u), ys, rfl, rfl, rk_of row6, rk_depth _, dn, _, rfl, ?_⟩
          rw [ef]
          exact iteF (rest _ _ ⟨rfl, s06, by rw [add_in hm]; exact kd6, eL6, eN6, row6⟩)
        · have nc : code D u ∉ codes D := fun z => hm ((code_mem g.rd oD okD oku kD).mp z)
          have fn0 := fnd_none ek nc
          have ly : ys.length = (codes D).length := by
            have := congrArg List.length ek
            rwa [List.length_map, List.length_map] at this
          refine ⟨.ref T2, rfl, .ref d, rfl, T2, d, rk (code D u), ys, rfl, rfl, rk_of row6, rk_depth _, dn, _, rfl, ?_⟩
          rw [fn0]
          refine iteT ⟨.ref d, rfl, d, ys, rfl, dn, .ref d, rfl, .ref T2, rfl, d, T2, rk (code D u), ys, rfl, rfl, rk_of row6, rk_depth _, dn, fn0, ?_, fun H7 k7 dn7 => ?_⟩
          · rw [ly, codes_len]
            have h1 : D.length ≤ (below cs).length := by
              refine ndD.length_le_of_subset fun y hy => ?_
              rw [← hD] at hy
              refine mem_addAll.mpr (.inr ?_)
              rcases mem_addAll.mp hy with z | z
              · rcases mem_addAll.mp z with z | z
                · cases z
                · obtain ⟨c', hc', hy'⟩ := List.mem_flatMap.mp z
                  exact List.mem_flatMap.mpr ⟨c', List.mem_of_mem_take hc', hy'⟩
              · rcases mem_addAll.mp (List.mem_of_mem_take z) with z | z
                · cases z
                · exact List.mem_flatMap.mpr ⟨c, List.mem_of_getElem? ec, z⟩
            exact small1000 (by omega)
          · rw [ly] at dn7
            have kd7 := kd_snoc ek ev dn7
            have ndL := kd6.ne eL6
            have ndN := kd6.ne eN6
            have same7 : Same H H7 := fun y o e => by
              rw [k7 y (ne_of_none e nd)]
              exact s06 _ _ e
            refine rest _ _ ⟨rfl, same7, ?_, ?_, ?_, ?_⟩
            · rw [add_out hm, codes_snoc oD kD]
              exact kd7
            · rw [k7 L (Ne.symm ndL)]
              exact eL6
            · rw [k7 N (Ne.symm ndN)]
              exact eN6
            · exact of_rk (dn7.keys _ (List.mem_append_right _ (List.mem_singleton.mpr rfl))).1
    · rintro σ H4 ⟨o6, o7, o8, rfl, s4, kd4, eL4, eN4⟩
      have lx : xs.length = (sub c).length := by rw [Paired.length pR, codes_len]
      have nb : addAll (below (cs.take i)) (sub c) = below (cs.take (i + 1)) := by
        rw [List.take_add_one, ec, Option.toList_some, below_snoc]
      rw [lx, List.take_length, nb] at kd4 eN4
      obtain ⟨E4, eE⟩ : ∃ E, below (cs.take (i + 1)) = below (cs.take i) ++ E := by
        rw [← nb]
        exact addAll_pre _ _
      have nLH : H L = none := by
        cases z : H L with
        | none => rfl
        | some o => rw [same_new nd _ _ z] at nL; cases nL
      have hl := sub_last c
      refine ⟨.ref L, rfl, .inl ⟨rfl, _, SqL.of eL4⟩, .ref N, rfl, _, rfl, N, _, _, _, rfl, rfl, SqL.of eN4, last_at (n := (sub c).length) (by rw [nsV_len, List.length_map]) (nsV_at (by rw [List.getElem?_map, hl]; rfl)), L, _, _, rfl, rfl, eL4, ?_, _, _, _, _, _, rfl, same_upd s4 nLH, kd4.lst eL4, ?_⟩
      · rw [nsV_len, List.length_map, List.length_take]
        exact small1000 (by omega)
      · rw [upd_same, List.take_add_one, ec, Option.toList_some, List.map_append, nsV_app]
        have e2 : (below (cs.take i ++ [c])) = below (cs.take i) ++ E4 := by
          rw [← eE, List.take_add_one, ec, Option.toList_some]
        rw [e2, idx_app E4 (fun y hy => below_mem hy)]
        rfl
  · rintro σ H2 ⟨o4, o5, o6, o7, o8, rfl, s2, kd2, eL2⟩
    have ll : (bs.map V.ref).length = cs.length := by rw [List.length_map, kid.len]
    rw [ll, List.take_length] at kd2 eL2
    obtain ⟨ys, dn, ek, ev⟩ := kd2
    have ly : ys.length = (below cs).length := by
      have := congrArg List.length ek
      rwa [List.length_map, List.length_map, codes_len] at this
    refine ⟨.ref d, rfl, d, ys, rfl, dn, _, _, rfl, rfl, _, rfl, ?_⟩
    rw [decide_eq_false (show ¬ (200 : Int) ≤ (ys.length : Int) by omega)]
    refine iteF ?_
    refine ⟨.ref d, rfl, d, ys, rfl, dn, .str n, rfl, .ref L, rfl, .inl ⟨L, _, rfl, SqL.of eL2, fun T1 nT1 => ⟨(by show 2 ≤ sizeLine; decide), fun T2 nT2 => ⟨?_, fun M nM => .inl ⟨M, _, rfl, SqL.of upd_same, fun R nR => ?_⟩⟩⟩⟩⟩
    · rw [List.length_append, List.length_map, List.length_singleton, ly]
      exact Nat.le_of_lt (small1000 (by omega))
    · have s3 := (same_new (o := .tup (nsV (cs.map fun c => (below cs).idxOf c))) nT1).trans (same_new (o := .tup [.str n, .ref T1]) nT2)
      have s4 := s3.trans ((same_new (o := .lst (ys.map (fun z => V.ref z.2.1) ++ [V.ref T2])) nM).trans (same_new (o := .tup (ys.map (fun z => V.ref z.2.1) ++ [V.ref T2])) nR))
      refine q R _ (s2.trans s4) ⟨_, upd_same, ?_⟩
      have p1 := Paired.mapP (kd_refs ek dn.keys) fun _ _ z => RowN.keep z s4
      exact Paired.snoc p1 ⟨T2, T1, rfl, (same_new nM).trans (same_new nR) _ _ upd_same, (same_new nT2).trans ((same_new nM).trans (same_new nR)) _ _ upd_same⟩
end
end Ks
set_option Elab.async false
set_option linter.all false
set_option maxRecDepth 100000
set_option maxHeartbeats 4000000
namespace Ks
open PySem PySem.Spec PyProof.Rows L2 Gd Kx
/-! ### Tree.__init__ -/
abbrev nTi : List Str := ["self", "schema", "name", "fields", "own_name", "kind", "kinds", "field"]
theorem scTi : FnScope nTi ["self", "schema", "name", "fields"] (defScope (cT 0)) := ⟨rfl, rfl, rfl, by decide +kernel, rfl, by decide +kernel, by decide +kernel⟩
theorem cast_sum : ∀ l : List Tr, (l.map fun c => ((c.size : Nat) : Int)).sum = (((l.map Tr.size).sum : Nat) : Int)
  | [] => rfl
  | c :: r => by
    rw [List.map_cons, List.map_cons, List.sum_cons, List.sum_cons, cast_sum r]
    omega
theorem size_int (t : Tr) : (1 : Int) + (t.kids.map fun c => ((c.size : Nat) : Int)).sum = ((t.size : Nat) : Int) := by
  rw [cast_sum, Tr.size_eq t]
  omega
def mxI (t : Tr) : Int := if t.kids = [] then 0 else maxL (t.kids.map fun c => ((c.dep : Nat) : Int))
theorem dep_int (t : Tr) : (1 : Int) + mxI t = ((t.dep : Nat) : Int) := by
  cases t <;> simp [mxI, Tr.kids, Tr.dep, maxL, PySem.W.maxOf, PySem.W.DatumOrd.lt]
  · split <;> omega
  · split <;> split <;> omega
end Ks
namespace Ks
open PySem PySem.Spec PyProof.Rows L2 Gd Kx
/-- all stands but what has no attribute yet -/
def Bz (H H' : Hp) : Prop := ∀ a o, (∀ C d, o ≠ .ins C d []) → H a = some o → H' a = some o
theorem Bz.of {x C d : Addr} {H H' : Hp} (b : But x H H') (hx : H x = some (.ins C d [])) : Bz H H' := fun a o n e => b a o (fun z => by rw [z, hx] at e; cases e; exact n _ _ rfl) e
theorem RowV.bz {H H' : Hp} {x : V} {r : Rw} (h : RowV H x r) (s : Bz H H') : RowV H' x r := by
  obtain ⟨b, f, e, h1, h2⟩ := h
  exact ⟨b, f, e, s _ _ (fun _ _ z => by cases z) h1, s _ _ (fun _ _ z => by cases z) h2⟩
theorem ScAt.bz {C : Addr} {H H' : Hp} {a : Addr} {m : Md} (h : ScAt C H a m) (s : Bz H H') : ScAt C H' a m := by
  obtain ⟨dx, k, c, n, ⟨dp, e, edp⟩, h1, ⟨xs, h2, hp⟩, o, h3, h4⟩ := h
  exact ⟨dx, k, c, n, ⟨dp, s _ _ (fun _ _ z => by cases z) e, s _ _ (fun _ _ z => by cases z) edp⟩, s _ _ (fun _ _ z => by cases z) h1, ⟨xs, h2.by (fun o _ n e => s _ _ (fun _ _ z => n _ _ _ z) e), Paired.mapP hp fun _ _ z => RowV.bz z s⟩, o, s _ _ (fun _ _ z => by cases z) h3, h4⟩
theorem RwsT.bz {H H' : Hp} {R : Addr} {rs : List Rn} (h : RwsT H R rs) (s : Bz H H') : RwsT H' R rs := by
  obtain ⟨xs, e, p⟩ := h
  exact ⟨xs, s _ _ (fun _ _ z => by cases z) e, Paired.mapP p fun _ _ ⟨b, q, e, h1, h2⟩ => ⟨b, q, e, s _ _ (fun _ _ z => by cases z) h1, s _ _ (fun _ _ z => by cases z) h2⟩⟩
theorem TrAt.bz {CT CS : Addr} {m : Md} {H H' : Hp} {a : Addr} {t : Tr} (h : TrAt CT CS m H a t) (s : Bz H H') : TrAt CT CS m H' a t := by
  induction h with
  | mk h1 h2 h3 h4 h5 _ ih => exact .mk (s _ _ (fun _ _ z => by cases z) h1) (h2.bz s) (h3.bz s) (s _ _ (fun _ _ z => by cases z) h4) h5 ih
theorem nx_join {t u : TS} {D : Ends} {r : VK} {b c : L2.St → Hp → Prop} {σ : L2.St} {H : Hp} (R : L2.St → Hp → Prop) (hR : ∀ σ H, R σ H → u D σ H) (h : (∀ σ H, R σ H → u D σ H) → t { D with nx := u D } σ H) :
    ({ nx := tSeq t u D, rt := r, bk := b, ct := c } : Ends).nx σ H := h hR
theorem rows_has' {H : Hp} : ∀ {xs : List V} {rs : List Rw} {n : Nat} {r : Rw}, Paired (RowV H) xs rs → rs[n]? = some r → ∃ x, xs[n]? = some x ∧ RowV H x r
  | _, _, n, r, .nil, h => by simp at h
  | _, _, 0, r, .cons (a := i) q t, h => by
    have e := Option.some.inj h
    subst e
    exact ⟨i, rfl, q⟩
  | _, _, n + 1, r, .cons q t, h => by
    obtain ⟨i, e, q⟩ := rows_has' (n := n) t (by simpa using h)
    exact ⟨i, by simpa using e, q⟩
section
variable {P : Program} {w : World} {K : PySem.W.Frag} {mg : Str → Option Value} {base : Heap} {CT CS : Addr}
/-- a tree is made: its __init__, the fields in a tuple -/
def spTi (CT CS : Addr) : Sp := fun vs H Q _ => ∃ (x dx s F : Addr) (m : Md) (t : Tr) (bs : List Addr), vs = [.ref x, .ref s, .str t.row.1, .ref F] ∧ H x = some (.ins CT dx []) ∧ ScAt CS H s m ∧ Good m ∧ t.Ok m ∧ H F = some (.tup (bs.map V.ref)) ∧ Kids CT CS m H bs t.kids ∧ (sub t).length ≤ 200 ∧
  ∀ H', But x H H' → TrAt CT CS m H' x t → Q .non H'
structure TsX (mg : Str → Option Value) : Prop where
  max : mg "max" = none
  sum : mg "sum" = none
set_option maxHeartbeats 8000000 in
theorem body_tin {f fk fc fr : Addr} {fdk fdc fdr : FuncData} {cv : Value} {A : Around} {ou : List Env} {s : Shared} {H : Hp} {vs : List V} {Q : VK} {E : XK} (T : TS0 mg) (TX : TsX mg) (S : Sch P w K mg base CS) (Tc : Tch P w K mg base CT)
    (GK : FnOk P w K mg base CX0 1 fk fdk ["schema"] (spChk CS)) (kk : PySem.W.keepIn K (.ref fk) = true) (bK : Binds K fdk ["schema"] []) (gK : mg "check_schema" = some (.ref fk))
    (GC : FnOk P w K mg base CX0 4 fc fdc ["schema", "kinds", "fields"] (spCf CT CS)) (kc : PySem.W.keepIn K (.ref fc) = true) (bC : Binds K fdc ["schema", "kinds", "fields"] []) (gC : mg "_check_fields" = some (.ref fc))
    (GR : FnOk P w K mg base CX0 3 fr fdr ["name", "fields"] (spRb CT CS)) (kr : PySem.W.keepIn K (.ref fr) = true) (bR : Binds K fdr ["name", "fields"] []) (gR : mg "_rows_below" = some (.ref fr))
    (hr : Room 4 (A.deeper (envOfC "Tree.__init__" (defScope (cT 0)) s.heap.objs.size f cv))) (h : spTi CT CS vs H Q E) :
    ∃ t, PSs (cxOf CX0 P w K mg base nTi "Tree.__init__" (defScope (cT 0)) f cv A ou s H E) (defBody (cT 0)) t ∧ t { nx := fun _ H' => Q .non H', rt := Q } (start nTi vs) H := by
  obtain ⟨x, dx, sc, F, m, t, bs, rfl, hx, hs, g, ok, hF, kid, l2, q⟩ := h
  obtain ⟨fo, dfo, mo, Fo, bo⟩ := S.co
  obtain ⟨pz, fz, dz, Pz, Fz, bz⟩ := Tc.gz
  obtain ⟨pd, fdp, dd, Pd, Fd, bd⟩ := Tc.gd
  have hr1 : Room 1 (A.deeper (envOfC "Tree.__init__" (defScope (cT 0)) s.heap.objs.size f cv)) := hr.mono (by decide)
  have hr2 : Room 2 (A.deeper (envOfC "Tree.__init__" (defScope (cT 0)) s.heap.objs.size f cv)) := hr.mono (by decide)
  have hr3 : Room 3 (A.deeper (envOfC "Tree.__init__" (defScope (cT 0)) s.heap.objs.size f cv)) := hr.mono (by decide)
  have hun := hr.units
  refine ⟨_, pss_cons (ps_expr (pe_call GK hr1 (by rfl) gK kk bK .nil pass0 (pa_cons (pv 1) pa_nil)))
    (pss_cons (ps_asg (pe_meth (pv 1) S.cl.cls mo Fo hr3 bo .nil pass0 (pa_cons (pv 2) pa_nil)) (pg_tup rfl (pgs_cons (pg_name (i := 4) scTi.nd rfl (.inl rfl)) (pgs_cons (pg_name (i := 5) scTi.nd rfl (.inl rfl)) (pgs_cons (pg_name (i := 6) scTi.nd rfl (.inl rfl)) pgs_nil)))))
    (pss_cons (ps_expr (pe_call GC hr (by rfl) gC kc bC .nil pass0 (pa_cons (pv 1) (pa_cons (pv 6) (pa_cons (pv 3) pa_nil)))))
    (pss_cons (ps_fld (pv 0) (pe_call GR hr3 (by rfl) gR kr bR .nil pass0 (pa_cons (pv 4) (pa_cons (pv 3) pa_nil))) rfl)
    (pss_cons (ps_fld (pv 0) (pv 1) rfl)
    (pss_cons (ps_fld (pv 0) (pv 4) rfl)
    (pss_cons (ps_fld (pv 0) (pv 5) rfl)
    (pss_cons (ps_fld (pv 0) (pv 3) rfl)
    (pss_cons (ps_fld (pv 0) (pe_op op_add pe_int (pe_callB (cr_sum rfl) (by rfl) TX.sum boot_sum (pa_cons (pe_lc (own := [("field", 7)]) (g := gName 7) (tt := tYes) rfl scTi.nd (pi_tup (pv 3)) (blkOk_by (own := [("field", 7)]) (N := nTi) (sc := defScope (cT 0)) (by decide +kernel))
        (fun _ _ _ _ _ => pg_name (i := 7) scTi.nd rfl (Or.inl rfl)) (fun _ _ _ _ _ => pts_nil) (fun _ _ _ _ _ => asTE (te := tProp CT (spGet CT "_size") [] E0 (tVar 7)) (pe_prop (pv 7) Tc.cl.cls Pz Fz hr2 bz .nil pass0 rfl) rfl)) pa_nil))) rfl)
    (pss_one (ps_fld (pv 0) (pe_op op_add pe_int (pe_callBK (call_maxD rfl (Nat.lt_of_le_of_lt (Nat.add_le_add_left (by decide : 1 ≤ 64) _) hun)) (by rfl) TX.max boot_max (pa_cons (pe_lc (own := [("field", 7)]) (g := gName 7) (tt := tYes) rfl scTi.nd (pi_tup (pv 3)) (blkOk_by (own := [("field", 7)]) (N := nTi) (sc := defScope (cT 0)) (by decide +kernel))
        (fun _ _ _ _ _ => pg_name (i := 7) scTi.nd rfl (Or.inl rfl)) (fun _ _ _ _ _ => pts_nil) (fun _ _ _ _ _ => asTE (te := tProp CT (spGet CT "_depth") [] E0 (tVar 7)) (pe_prop (pv 7) Tc.cl.cls Pd Fd hr2 bd .nil pass0 rfl) rfl)) pa_nil) (pk_cons pe_int pk_nil))) rfl)))))))))), ?_⟩
  obtain ⟨r0, rk0, okk⟩ := Tr.ok_iff.mp ok
  obtain ⟨j, hj, ej⟩ := List.mem_iff_getElem.mp r0
  have ej2 : m.rs[j]? = some t.row := by rw [List.getElem?_eq_getElem hj, ej]
  obtain ⟨ds, k, c, n, ⟨dp, e, edp⟩, ek, ⟨xs, ec, hp⟩, en⟩ := id hs
  obtain ⟨y, ey, b, fa, rfl, hb, hf⟩ := rows_has' hp ej2
  have l3 := t.kids3
  refine ⟨.ref sc, rfl, sc, m, rfl, hs, ?_⟩
  refine ⟨.ref sc, rfl, sc, ds, _, rfl, e, rfl, .str t.row.1, rfl, sc, k, c, n, _, xs, t.row.1, j, .ref b, rfl, ⟨ds, _, ⟨dp, e, edp⟩, en⟩, en, g.rd, by rw [List.getElem?_map, ej2]; rfl, ec, ey, ?_⟩
  refine ⟨b, _, rfl, SqT.of hb, rfl, _, _, rfl, _, _, rfl, _, _, rfl, rfl, ?_⟩
  have hf' : StT H fa (t.kids.map (·.row.2.1)) := by rw [← rk0]; exact hf
  refine ⟨.ref sc, rfl, .ref fa, rfl, .ref F, rfl, sc, fa, F, m, bs, t.kids, rfl, hs, g, hf', hF, kid, l3, fun H1 s1 => ?_⟩
  have lb : (below t.kids).length < 200 := by
    have := congrArg List.length (sub_eq t)
    rw [List.length_append, List.length_singleton] at this
    omega
  refine ⟨.str t.row.1, rfl, .ref F, rfl, t.row.1, F, m, bs, t.kids, rfl, g, s1 _ _ hF, kid.keep s1, l3, okk, lb, fun R H2 s2 hR => ?_⟩
  have s12 := s1.trans s2
  have rws : codes (below t.kids) ++ [(t.row.1, t.kids.map fun c => (below t.kids).idxOf c)] = codes (sub t) := by
    rw [sub_eq, codes_snoc (below_ord _) fun c hc => below_mem hc]
    rfl
  rw [rws] at hR
  have x2 := s12 _ _ hx
  -- five attributes
  refine ⟨.ref x, rfl, x, CT, dx, _, rfl, x2, Tc.cl.cls, Tc.cl.nR, (show 0 < 1000 by decide), ?_⟩
  refine ⟨.ref sc, rfl, .ref x, rfl, x, CT, dx, _, rfl, upd_same, Tc.cl.cls, Tc.cl.ns, (show 1 < 1000 by decide), ?_⟩
  refine ⟨.str t.row.1, rfl, .ref x, rfl, x, CT, dx, _, rfl, upd_same, Tc.cl.cls, Tc.cl.nn, (show 2 < 1000 by decide), ?_⟩
  refine ⟨.str t.row.2.1, rfl, .ref x, rfl, x, CT, dx, _, rfl, upd_same, Tc.cl.cls, Tc.cl.nk, (show 3 < 1000 by decide), ?_⟩
  refine ⟨.ref F, rfl, .ref x, rfl, x, CT, dx, _, rfl, upd_same, Tc.cl.cls, Tc.cl.nF, (show 4 < 1000 by decide), ?_⟩
  let fs5 : List (Str × V) := putF "_fields" (.ref F) (putF "kind" (.str t.row.2.1) (putF "name" (.str t.row.1) (putF "_schema" (.ref sc) (putF "_rows" (.ref R) []))))
  have Fx : F ≠ x := fun z => by rw [z, hx] at hF; cases hF
  have F2 := s12 _ _ hF
  have kx : ∀ (i : Nat) (b : Addr) (c : Tr), bs[i]? = some b → t.kids[i]? = some c → b ≠ x := fun i b c eb ec z => by
    have h1 := kid.at_ i b c eb ec
    cases h1 with
    | mk e1 _ _ _ _ _ =>
      rw [z, hx] at e1
      cases e1
  have get : ∀ G : Hp, But x H2 G → ∀ (i : Nat) (y : V), (bs.map V.ref)[i]? = some y → ∃ (b : Addr) (c : Tr) (d1 R1 s1 F1 : Addr), y = .ref b ∧ t.kids[i]? = some c ∧ G b = some (.ins CT d1 (trF R1 s1 c.row.1 c.row.2.1 F1 (c.size : Nat) (c.dep : Nat))) := fun G bG i y ey => by
    obtain ⟨b, c, rfl, eb, ec, ht⟩ := kid.get ey
    have nb := kx i b c eb ec
    cases ht with
    | @mk _ d1 R1 s1 F1 _ _ e1 _ _ _ _ _ => exact ⟨b, c, d1, R1, s1, F1, rfl, ec, bG _ _ nb (s12 _ _ e1)⟩
  have lbk : (bs.map V.ref).length = t.kids.length := by rw [List.length_map, kid.len]
  let σ7 : L2.St := [some (.ref x), some (.ref sc), some (.str t.row.1), some (.ref F), some (.str t.row.1), some (.str t.row.2.1), some (.ref fa), none]
  refine nx_join (fun σ G => σ = σ7 ∧ But x H2 G ∧ G x = some (.ins CT dx (putF "_size" (.int (t.size : Nat)) fs5))) ?_ fun rest => ?_
  rotate_left
  have b5 : But x H2 (upd (upd (upd (upd (upd H2 x (.ins CT dx (putF "_rows" (.ref R) []))) x (.ins CT dx (putF "_schema" (.ref sc) (putF "_rows" (.ref R) [])))) x (.ins CT dx (putF "name" (.str t.row.1) (putF "_schema" (.ref sc) (putF "_rows" (.ref R) []))))) x (.ins CT dx (putF "kind" (.str t.row.2.1) (putF "name" (.str t.row.1) (putF "_schema" (.ref sc) (putF "_rows" (.ref R) [])))))) x (.ins CT dx fs5)) := fun a o ne e => by
    rw [upd_ne ne, upd_ne ne, upd_ne ne, upd_ne ne, upd_ne ne]
    exact e
  have x5 : (upd (upd (upd (upd (upd H2 x (.ins CT dx (putF "_rows" (.ref R) []))) x (.ins CT dx (putF "_schema" (.ref sc) (putF "_rows" (.ref R) [])))) x (.ins CT dx (putF "name" (.str t.row.1) (putF "_schema" (.ref sc) (putF "_rows" (.ref R) []))))) x (.ins CT dx (putF "kind" (.str t.row.2.1) (putF "name" (.str t.row.1) (putF "_schema" (.ref sc) (putF "_rows" (.ref R) [])))))) x (.ins CT dx fs5)) x = some (.ins CT dx fs5) := upd_same
  revert b5 x5
  generalize upd (upd (upd (upd (upd H2 x (.ins CT dx (putF "_rows" (.ref R) []))) x (.ins CT dx (putF "_schema" (.ref sc) (putF "_rows" (.ref R) [])))) x (.ins CT dx (putF "name" (.str t.row.1) (putF "_schema" (.ref sc) (putF "_rows" (.ref R) []))))) x (.ins CT dx (putF "kind" (.str t.row.2.1) (putF "name" (.str t.row.1) (putF "_schema" (.ref sc) (putF "_rows" (.ref R) [])))))) x (.ins CT dx fs5) = G5
  intro b5 x5
  have F5 := b5 _ _ Fx F2
  -- the size
  refine ⟨.ref F, rfl, F, rfl, ⟨_, SqT.of F5⟩, fun D nD => lc_funT (K := K) (a := F) (xs := bs.map V.ref) (te := tProp CT (spGet CT "_size") [] E0 (tVar 7)) (j := 7) (vs := [7]) (ys := (t.kids.map fun c => ((c.size : Nat) : Int)).map V.int) (fun _ => rfl) nD (SqT.of F5) (by omega) (by rw [List.length_map, List.length_map, lbk]) (fun i y z H6 hy hz s6 p => ?_) fun H6 s6 eD => ?_⟩
  · intro kk
    obtain ⟨b, c, d1, R1, s1', F1, rfl, ec, e1⟩ := get G5 b5 i y hy
    rw [List.getElem?_map, List.getElem?_map, ec] at hz
    cases hz
    exact ⟨.ref b, rfl, b, d1, _, rfl, s6 _ _ e1, b, d1, _, _, rfl, s6 _ _ e1, trF_z, kk H6 fun _ _ e => e⟩
  · refine ⟨D, _, rfl, SqL.of eD, _, _, rfl, rfl, .ref x, rfl, x, CT, dx, _, rfl, s6 _ _ x5, Tc.cl.cls, Tc.cl.nz, (show 5 < 1000 by decide), rest _ _ ⟨rfl, fun a o ne e => ?_, ?_⟩⟩
    · rw [upd_ne ne]
      exact s6 _ _ (b5 _ _ ne e)
    · rw [← size_int t]
      exact upd_same
  rintro σ G7 ⟨rfl, b7, x7⟩
  have F7 := b7 _ _ Fx F2
  -- the depth
  refine ⟨.ref F, rfl, F, rfl, ⟨_, SqT.of F7⟩, fun D' nD' => lc_funT (K := K) (a := F) (xs := bs.map V.ref) (te := tProp CT (spGet CT "_depth") [] E0 (tVar 7)) (j := 7) (vs := [7]) (ys := (t.kids.map fun c => ((c.dep : Nat) : Int)).map V.int) (fun _ => rfl) nD' (SqT.of F7) (by omega) (by rw [List.length_map, List.length_map, lbk]) (fun i y z H8 hy hz s8 p => ?_) fun H8 s8 eD' => ?_⟩
  · intro kk
    obtain ⟨b, c, d1, R1, s1', F1, rfl, ec, e1⟩ := get G7 b7 i y hy
    rw [List.getElem?_map, List.getElem?_map, ec] at hz
    cases hz
    exact ⟨.ref b, rfl, b, d1, _, rfl, s8 _ _ e1, b, d1, _, _, rfl, s8 _ _ e1, trF_d, kk H8 fun _ _ e => e⟩
  have R2 : R ≠ x := fun z => by
    obtain ⟨_, e1, _⟩ := hR
    rw [z, x2] at e1
    cases e1
  have fin : ∀ H9 : Hp, But x H8 H9 → H9 x = some (.ins CT dx (putF "_depth" (.int (t.dep : Nat)) (putF "_size" (.int (t.size : Nat)) fs5))) → Q .non H9 := fun H9 b9 x9 => by
    have b9' : But x H2 H9 := fun a o ne e => b9 _ _ ne (s8 _ _ (b7 _ _ ne e))
    have b0 : But x H H9 := fun a o ne e => b9' _ _ ne (s12 _ _ e)
    have z0 := Bz.of b0 hx
    exact q _ b0 (.mk (bs := bs) x9 (hs.bz z0) (hR.bz (.of b9' x2)) (b0 _ _ Fx hF) kid.len fun i b c eb ec => (kid.at_ i b c eb ec).bz z0)
  have fin2 : ∀ v : Int, v = mxI t → But x H8 (upd H8 x (.ins CT dx (putF "_depth" (.int (1 + v)) (putF "_size" (.int (t.size : Nat)) fs5)))) ∧ (upd H8 x (.ins CT dx (putF "_depth" (.int (1 + v)) (putF "_size" (.int (t.size : Nat)) fs5)))) x = some (.ins CT dx (putF "_depth" (.int (t.dep : Nat)) (putF "_size" (.int (t.size : Nat)) fs5))) := fun v ev =>
    ⟨fun a o ne e => by rw [upd_ne ne]; exact e, by rw [ev, dep_int t]; exact upd_same⟩
  refine ⟨D', t.kids.map (fun c => ((c.dep : Nat) : Int)), .int 0, rfl, rfl, SqL.of eD', fun e0 => ?_, fun e0 => ?_⟩
  · have ev : (0 : Int) = mxI t := by rw [mxI, if_pos (List.map_eq_nil_iff.mp e0)]
    obtain ⟨h1, h2⟩ := fin2 0 ev
    exact ⟨_, _, rfl, rfl, .ref x, rfl, x, CT, dx, _, rfl, s8 _ _ x7, Tc.cl.cls, Tc.cl.nd, (show 6 < 1000 by decide), fin _ h1 h2⟩
  · have ev : maxL (t.kids.map fun c => ((c.dep : Nat) : Int)) = mxI t := by rw [mxI, if_neg (fun z => e0 (by rw [z]; rfl))]
    obtain ⟨h1, h2⟩ := fin2 _ ev
    exact ⟨_, _, rfl, rfl, .ref x, rfl, x, CT, dx, _, rfl, s8 _ _ x7, Tc.cl.cls, Tc.cl.nd, (show 6 < 1000 by decide), fin _ h1 h2⟩
end
end Ks
set_option Elab.async false
set_option linter.all false
set_option maxRecDepth 100000
set_option maxHeartbeats 4000000
namespace Ks
open PySem PySem.Spec PyProof.Rows L2 Gd Kx
/-! ### rows are told by one tree -/
theorem ord_idx {D : List Tr} (o : Ord D) (nd : D.Nodup) {i : Nat} {u : Tr} (h : D[i]? = some u) : code D u = code (D.take i) u := by
  have e : D = D.take i ++ D.drop i := (List.take_append_drop i D).symm
  conv => lhs; rw [e]
  exact code_app _ (o i u h)
theorem codes_inj {m : Md} (g : (m.rs.map (·.1)).Nodup) {D D' : List Tr} (o : Ord D) (o' : Ord D') (nd : D.Nodup) (nd' : D'.Nodup) (ok : ∀ u ∈ D, u.Ok m) (ok' : ∀ u ∈ D', u.Ok m) (e : codes D = codes D') : D = D' := by
  have hl : D.length = D'.length := by
    have := congrArg List.length e
    rwa [codes_len, codes_len] at this
  have step : ∀ n, n ≤ D.length → D.take n = D'.take n := by
    intro n
    induction n with
    | zero => intro _; rfl
    | succ n ih =>
      intro hn
      have ih' := ih (by omega)
      have e1 : D[n]? = some (D[n]'(by omega)) := List.getElem?_eq_getElem _
      have e2 : D'[n]? = some (D'[n]'(by omega)) := List.getElem?_eq_getElem _
      have c1 := codes_at e1
      have c2 := codes_at e2
      rw [e, c2] at c1
      have c3 := Option.some.inj c1
      rw [ord_idx o nd e1, ord_idx o' nd' e2, ← ih'] at c3
      have k2 : ∀ c ∈ (D'[n]'(by omega)).kids, c ∈ D.take n := by
        rw [ih']
        exact o' n _ e2
      have := code_inj g (ok _ (List.mem_of_getElem? e1)) (ok' _ (List.mem_of_getElem? e2)) (o n _ e1) k2 c3.symm
      rw [List.take_add_one, List.take_add_one, ih', e1, e2, this]
  have := step D.length (Nat.le_refl _)
  rwa [List.take_length, hl, List.take_length] at this
theorem sub_inj {t u : Tr} (h : sub t = sub u) : t = u := by
  have a := sub_last t
  rw [h, sub_last u] at a
  exact (Option.some.inj a).symm
theorem tree_eq {m : Md} (g : (m.rs.map (·.1)).Nodup) {t u : Tr} (ht : t.Ok m) (hu : u.Ok m) : codes (sub t) = codes (sub u) ↔ t = u :=
  ⟨fun e => sub_inj (codes_inj g (sub_ord t) (sub_ord u) (sub_nd t) (sub_nd u) (sub_ok ht) (sub_ok hu) e), fun e => by rw [e]⟩
/-! ### rows as data -/
def dNs (l : List Nat) : PyData := .tuple (l.map fun k => .int ((k : Nat) : Int))
def dRn (r : Rn) : PyData := .tuple [.str r.1, dNs r.2]
def dRns (rs : List Rn) : PyData := .tuple (rs.map dRn)
section
variable {K : PySem.W.Frag} {H : Hp}
theorem dp_nums : ∀ l : List Nat, DpAll K H (nsV l) (l.map fun k => .int ((k : Nat) : Int))
  | [] => .nil
  | k :: r => .cons (.int _) (dp_nums r)
theorem dp_rn {x : V} {r : Rn} (h : RowN H x r) : Dp K H x (dRn r) := by
  obtain ⟨b, q, rfl, h1, h2⟩ := h
  exact .tup (SqT.of h1) (.cons (.str _) (.cons (.tup (SqT.of h2) (dp_nums _)) .nil))
theorem dp_rnAll : ∀ {xs : List V} {rs : List Rn}, Paired (RowN H) xs rs → DpAll K H xs (rs.map dRn)
  | _, _, .nil => .nil
  | _, _, .cons h t => .cons (dp_rn h) (dp_rnAll t)
theorem dp_rns {R : Addr} {rs : List Rn} (h : RwsT H R rs) : Dp K H (.ref R) (dRns rs) := by
  obtain ⟨xs, e, p⟩ := h
  exact .tup (SqT.of e) (dp_rnAll p)
end
theorem eqv_nat (a b : Nat) : PyData.eqv (.int ((a : Nat) : Int)) (.int ((b : Nat) : Int)) = decide (a = b) := by
  simp only [PyData.eqv]
  rw [Bool.eq_iff_iff]
  simp
  exact ⟨fun h => by omega, fun h => by omega⟩
theorem eqv_ns (a b : List Nat) : PyData.eqv (dNs a) (dNs b) = decide (a = b) := eqvAll_map eqv_nat a b
theorem eqv_rn (a b : Rn) : PyData.eqv (dRn a) (dRn b) = decide (a = b) := by
  obtain ⟨a1, a2⟩ := a
  obtain ⟨b1, b2⟩ := b
  show (PyData.eqv (.str a1) (.str b1) && (PyData.eqv (dNs a2) (dNs b2) && true)) = _
  rw [eqv_str, eqv_ns, Bool.and_true, ← Bool.decide_and]
  exact decide_eq_decide.mpr ⟨fun e => Prod.ext e.1 e.2, fun e => by injection e with e1 e2; exact ⟨e1, e2⟩⟩
theorem eqv_rns (a b : List Rn) : PyData.eqv (dRns a) (dRns b) = decide (a = b) := eqvAll_map eqv_rn a b
theorem lay_ns (l : List Nat) : (dNs l).canLay0 = true ∧ (dNs l).depth ≤ 3 := by
  refine ⟨lay_all fun d hd => ?_, ?_⟩
  · obtain ⟨k, _, rfl⟩ := List.mem_map.mp hd
    rfl
  · have := dep_all (n := 1) (ds := l.map fun k => PyData.int ((k : Nat) : Int)) fun d hd => by
      obtain ⟨k, _, rfl⟩ := List.mem_map.mp hd
      rw [PyData.depth]
      omega
    unfold dNs
    rw [PyData.depth]
    omega
theorem lay_rns {rs : List Rn} (h : ∀ r ∈ rs, nmS r.1 = true) : SeqAt.shaped (dRns rs) = true := by
  have all : ∀ d ∈ rs.map dRn, d.canLay0 = true ∧ d.depth ≤ 6 := fun d hd => by
    obtain ⟨r, hr, rfl⟩ := List.mem_map.mp hd
    have e := lay_ns r.2
    have one : ∀ d ∈ [PyData.str r.1, dNs r.2], d.canLay0 = true ∧ d.depth ≤ 3 := by
      intro d hd
      simp only [List.mem_cons, List.not_mem_nil, or_false] at hd
      rcases hd with rfl | rfl
      · exact ⟨nm_ok (h r hr), by rw [PyData.depth]; omega⟩
      · exact e
    refine ⟨lay_all fun d hd => (one d hd).1, ?_⟩
    have := dep_all (n := 3) fun d hd => (one d hd).2
    unfold dRn
    rw [PyData.depth]
    omega
  have d := dep_all (n := 6) fun d hd => (all d hd).2
  unfold SeqAt.shaped
  have e : (dRns rs).depth ≤ 64 := by
    unfold dRns
    rw [PyData.depth]
    omega
  rw [show (dRns rs).canLay0 = true from lay_all fun d hd => (all d hd).1, decide_eq_true e]
  rfl
theorem codes_nm {m : Md} (g : Good m) {D : List Tr} (ok : ∀ u ∈ D, u.Ok m) : ∀ r ∈ codes D, nmS r.1 = true := fun r hr => by
  obtain ⟨u, hu, rfl⟩ := List.mem_map.mp hr
  exact g.rn _ (Tr.ok_iff.mp (ok u hu)).1
theorem scLnT : FnScope ["self"] ["self"] (defScope (cT 12)) := ⟨rfl, rfl, rfl, by decide +kernel, rfl, by decide +kernel, by decide +kernel⟩
theorem scEqT : FnScope ["self", "other"] ["self", "other"] (defScope (cT 14)) := ⟨rfl, rfl, rfl, by decide +kernel, rfl, by decide +kernel, by decide +kernel⟩
section
variable {P : Program} {w : World} {K : PySem.W.Frag} {mg : Str → Option Value} {base : Heap} {CT CS : Addr}
def spLnT (CT CS : Addr) : Sp := fun vs H Q _ => ∃ (a : Addr) (m : Md) (t : Tr), vs = [.ref a] ∧ TrAt CT CS m H a t ∧ Q (.int ((sub t).length : Nat)) H
theorem ok_lnT {f : Addr} {fd : FuncData} (F : Fun K "__len__" "Tree.__len__" (cT 12) f fd) (T : TS0 mg) (Z : TCl K CT) : FnOk P w K mg base CX0 1 f fd ["self"] (spLnT CT CS) := by
  refine F.ok scLnT (fun vs H Q E h => ?_) (fun cv A ou s H vs Q E hr h => ?_)
  · obtain ⟨a, m, t, rfl, _⟩ := h
    rfl
  obtain ⟨a, m, t, rfl, ht, q⟩ := h
  cases ht with
  | @mk _ dx R s' F' _ bs e _ hR _ _ _ =>
  obtain ⟨xs, eR, pR⟩ := hR
  have l : xs.length = (sub t).length := by rw [Paired.length pR, codes_len]
  rw [← l] at q
  exact ⟨_, pss_one (ps_ret (pe_callB call_len_seq (by rfl) T.len PySem.boot_len (pa_cons (pe_fld (pv 0) rfl) pa_nil))), .ref a, rfl, a, CT, dx, _, _, rfl, e, Z.cls, Z.nR, trF_R, R, xs, rfl, .inr (SqT.of eR), q⟩
/-- the == of trees -/
def spEqT (K : PySem.W.Frag) (CT CS : Addr) : Sp := fun vs H Q _ => ∃ (a : Addr) (y : V) (m : Md) (t : Tr), vs = [.ref a, y] ∧ TrAt CT CS m H a t ∧ Good m ∧ t.Ok m ∧
  ((∃ (b : Addr) (u : Tr), y = .ref b ∧ TrAt CT CS m H b u ∧ u.Ok m ∧ Q (.bl (decide (t = u))) H) ∨ (∃ t, TyX K H y t ∧ PySem.W.kitOne K t (.ref CT) = some false ∧ Q (.bl false) H))
theorem ok_eqT {f : Addr} {fd : FuncData} (F : Fun K "__eq__" "Tree.__eq__" (cT 14) f fd) (mi : mg "isinstance" = none) (S : Sch P w K mg base CS) (Tc : Tch P w K mg base CT) : FnOk P w K mg base CX0 2 f fd ["self", "other"] (spEqT K CT CS) := by
  refine F.ok scEqT (fun vs H Q E h => ?_) (fun cv A ou s H vs Q E hr h => ?_)
  · obtain ⟨a, y, m, t, rfl, _⟩ := h
    rfl
  obtain ⟨a, y, m, t, rfl, ha, g, ok, h⟩ := h
  have hu := hr.units
  obtain ⟨fe, de, De, Fe, be⟩ := S.eq
  refine ⟨_, pss_one (ps_ret (pe_and (pe_callB call_isi (by rfl) mi boot_isinstance (pa_cons (pv 1) (pa_cons (pe_glob (v := .ref CT) (by rfl) Tc.gl rfl) pa_nil)))
    (pe_and (pe_cmpR (op_eqD hu) (pe_fld (pv 0) rfl) (pe_fld (pv 1) rfl) (nomark _)) (pe_one (pe_cmpR (op_eqO De Fe hr be pass0) (pe_fld (pv 0) rfl) (pe_fld (pv 1) rfl) (nomark _)))))), ?_⟩
  rcases h with ⟨b, u, rfl, hb, oku, q⟩ | ⟨t', ty, ek, q⟩
  · have ty := hb.ty Tc.cl Tc.ci
    cases ha with
    | @mk _ dx R s1 F1 _ bs e hs1 hR _ _ _ =>
    cases hb with
    | @mk _ dy R2 s2 F2 _ bs2 e2 hs2 hR2 _ _ _ =>
    refine ⟨.ref b, rfl, .ref b, .ref CT, _, .ref CT, true, rfl, .own CT, .base ty, kit_self CT, _, rfl, iteT ?_⟩
    refine ⟨.ref a, rfl, a, CT, dx, _, _, rfl, e, Tc.cl.cls, Tc.cl.nR, trF_R, .ref b, rfl, b, CT, dy, _, _, rfl, e2, Tc.cl.cls, Tc.cl.nR, trF_R, _, _, dp_rns hR, dp_rns hR2, lay_rns (codes_nm g (sub_ok ok)), lay_rns (codes_nm g (sub_ok oku)), ?_⟩
    rw [eqv_rns]
    refine ⟨_, rfl, ?_⟩
    by_cases ee : t = u
    · rw [decide_eq_true ee] at q
      rw [decide_eq_true ((tree_eq g.rd ok oku).mpr ee)]
      obtain ⟨d1, f1, i1⟩ := hs1.ins
      obtain ⟨d2, f2, i2⟩ := hs2.ins
      refine iteT ⟨.ref a, rfl, a, CT, dx, _, _, rfl, e, Tc.cl.cls, Tc.cl.ns, trF_s, .ref b, rfl, b, CT, dy, _, _, rfl, e2, Tc.cl.cls, Tc.cl.ns, trF_s, s1, d1, f1, rfl, i1, .inl ⟨s2, d2, f2, rfl, i2⟩, s1, .ref s2, m, rfl, hs1, g, .inl ⟨s2, m, rfl, hs2, g, _, rfl, ?_⟩⟩
      rw [decide_eq_true rfl, decide_eq_true rfl]
      exact q
    · rw [decide_eq_false ee] at q
      rw [decide_eq_false fun z => ee ((tree_eq g.rd ok oku).mp z)]
      exact iteF q
  · exact ⟨y, rfl, y, .ref CT, _, .ref CT, false, rfl, .own CT, ty, ek, _, rfl, iteF q⟩
/-- a tree made by its fields -/
def spMk (CT CS : Addr) : Sp := fun vs H Q _ => ∃ (x dx s : Addr) (m : Md) (t : Tr) (bs : List Addr), vs = .ref x :: .ref s :: .str t.row.1 :: bs.map V.ref ∧ H x = some (.ins CT dx []) ∧ ScAt CS H s m ∧ Good m ∧ t.Ok m ∧ Kids CT CS m H bs t.kids ∧ (sub t).length ≤ 200 ∧
  ∀ H', But x H H' → TrAt CT CS m H' x t → Q .non H'
theorem spTi_of {x dx s p : Addr} {m : Md} {t : Tr} {bs : List Addr} {H : Hp} {Q : VK} {E : XK} (hx : H x = some (.ins CT dx [])) (hs : ScAt CS H s m) (g : Good m) (ok : t.Ok m) (kid : Kids CT CS m H bs t.kids) (l : (sub t).length ≤ 200) (q : ∀ H', But x H H' → TrAt CT CS m H' x t → Q .non H') (hp : H p = none) :
    spTi CT CS [.ref x, .ref s, .str t.row.1, .ref p] (upd H p (.tup (bs.map V.ref))) Q E := by
  have sm := same_new (o := .tup (bs.map V.ref)) hp
  exact ⟨x, dx, s, p, m, t, bs, rfl, sm _ _ hx, hs.keep sm, g, ok, upd_same, kid.keep sm, l, fun H' b ht => q H' (fun a o n e => b a o n (sm _ _ e)) ht⟩
theorem ok_mk {f fk fc fr : Addr} {fd fdk fdc fdr : FuncData} (F : Fun K "__init__" "Tree.__init__" (cT 0) f fd) (T : TS0 mg) (TX : TsX mg) (S : Sch P w K mg base CS) (Tc : Tch P w K mg base CT)
    (GK : FnOk P w K mg base CX0 1 fk fdk ["schema"] (spChk CS)) (kk : PySem.W.keepIn K (.ref fk) = true) (bK : Binds K fdk ["schema"] []) (gK : mg "check_schema" = some (.ref fk))
    (GC : FnOk P w K mg base CX0 4 fc fdc ["schema", "kinds", "fields"] (spCf CT CS)) (kc : PySem.W.keepIn K (.ref fc) = true) (bC : Binds K fdc ["schema", "kinds", "fields"] []) (gC : mg "_check_fields" = some (.ref fc))
    (GR : FnOk P w K mg base CX0 3 fr fdr ["name", "fields"] (spRb CT CS)) (kr : PySem.W.keepIn K (.ref fr) = true) (bR : Binds K fdr ["name", "fields"] []) (gR : mg "_rows_below" = some (.ref fr)) :
    FnR P w K mg base CX0 5 f (spMk CT CS) ∧ FnRK P w K mg base CX0 5 f ["name", "schema"] (fun vs H Q E => ∃ (x dx s : Addr) (m : Md) (t : Tr), vs = [.ref x, .str t.row.1, .ref s] ∧ t.kids = [] ∧ H x = some (.ins CT dx []) ∧ ScAt CS H s m ∧ Good m ∧ t.Ok m ∧ ∀ H', But x H H' → TrAt CT CS m H' x t → Q .non H') := by
  obtain ⟨oc, od, kV, doc, pm, an, cdv, ct, osl, rfl, lk, hcd⟩ := F.ex
  constructor
  · refine (StX.fn_star (CX := CX0) (k := 4) (N := nTi) (ps := ["self", "schema", "name"]) (pv := "fields") (sp := spTi CT CS) lk hcd scTi StX.cxUp_none (bind_star3 (B := fun us => bindArgs (PySem.W.fnOf "__init__" "Tree.__init__" (defArgs (cT 0)) (defBody (cT 0)) (defScope (cT 0)) .none kV doc pm an cdv ct) ⟨us, []⟩) (fun a b c => rfl) (fun a b c r rs => rfl)) (fun A ou s H vs Q E hr h => body_tin T TX S Tc GK kk bK gK GC kc bC gC GR kr bR gR hr h)).imp fun vs H Q E h => ?_
    obtain ⟨x, dx, s, m, t, bs, rfl, hx, hs, g, ok, kid, l, q⟩ := h
    refine ⟨[.ref x, .ref s, .str t.row.1], bs.map V.ref, rfl, rfl, ?_, fun p hp => spTi_of hx hs g ok kid l q hp⟩
    rw [List.length_map, kid.len]
    exact Nat.le_of_lt (small1000 (by have := t.kids3; omega))
  · have z := fn_starK (CX := CX0) (k := 4) (N := nTi) (ps := ["self", "schema", "name"]) (ks := ["name", "schema"]) (pv := "fields") (sp := spTi CT CS) (g := List.reverse) (gV := List.reverse) (P := P) (w := w) (mg := mg) (base := base) lk hcd scTi StX.cxUp_none
      (fun u ws hl => by match ws, hl with | [a, b], _ => rfl) (fun zs ws r hl => ⟨r.reverse, by rw [List.length_reverse, hl]; rfl⟩) (fun A ou s H vs Q E hr h => body_tin T TX S Tc GK kk bK gK GC kc bC gC GR kr bR gR hr h)
    intro A outer s H u v ws zs Q E hr e0 r rz hl h
    obtain ⟨x, dx, sc, m, t, ev, kt, hx, hs, g, ok, q⟩ := h
    injection ev with ev1 ev2
    subst ev1 ev2
    refine z A outer s H u _ ws _ Q E hr e0 r rz hl ⟨.ref x, [.str t.row.1, .ref sc], rfl, fun p hp => ?_⟩
    have kid : Kids CT CS m H [] t.kids := ⟨by rw [kt]; rfl, fun i b c e _ => by simp at e⟩
    have ls : (sub t).length ≤ 200 := by
      rw [sub_eq, kt]
      exact (by decide : 1 ≤ 200)
    exact spTi_of (bs := []) hx hs g ok kid ls q hp
end
end Ks
set_option Elab.async false
set_option linter.all false
set_option maxRecDepth 100000
set_option maxHeartbeats 4000000
namespace Ks
open PySem PySem.Spec PyProof.Rows L2 Gd Kx
/-- a whole number, written -/
abbrev nsS (n : Nat) : Str := ((toString ((n : Nat) : Int) : String) : Str)
theorem nsS_len {n k : Nat} (hk : 1 ≤ k) (h : n < 10 ^ k) : (nsS n).length ≤ k := by
  rw [← Kx.len_list, PySem.W.KIN.signs_num, List.length_map]
  exact toDigits_len_pow (by decide) hk h
theorem log_ok {n : Nat} (h : n < 10 ^ 31) : ((n : Nat) : Int).natAbs.log2 < 1920 := by
  have e : ((n : Nat) : Int).natAbs = n := rfl
  rw [e]
  by_cases z : n = 0
  · rw [z]; decide
  · exact (Nat.log2_lt z).mpr (Nat.lt_of_lt_of_le h (by decide +kernel))
/-- repr of a tree -/
def rpT (t : Tr) : Str := ((((Str.empty ++ Str.ofString "Tree(") ++ t.row.1) ++ Str.ofString ", size ") ++ nsS t.size) ++ Str.ofString ")"
theorem scRpT : FnScope ["self"] ["self"] (defScope (cT 13)) := ⟨rfl, rfl, rfl, by decide +kernel, rfl, by decide +kernel, by decide +kernel⟩
abbrev nStT : List Str := ["self", "name", "numbers", "at"]
theorem scStT : FnScope nStT ["self"] (defScope (cT 11)) := ⟨rfl, rfl, rfl, by decide +kernel, rfl, by decide +kernel, by decide +kernel⟩
section
variable {P : Program} {w : World} {K : PySem.W.Frag} {mg : Str → Option Value} {base : Heap} {CT CS : Addr}
def spRpT (CT CS : Addr) : Sp := fun vs H Q _ => ∃ (a : Addr) (m : Md) (t : Tr), vs = [.ref a] ∧ TrAt CT CS m H a t ∧ Good m ∧ t.Ok m ∧ t.size < 10 ^ 31 ∧ Q (.str (rpT t)) H
theorem ok_rpT {f : Addr} {fd : FuncData} (F : Fun K "__repr__" "Tree.__repr__" (cT 13) f fd) (T : TS0 mg) (Z : TCl K CT) : FnOk P w K mg base CX0 1 f fd ["self"] (spRpT CT CS) := by
  refine F.ok scRpT (fun vs H Q E h => ?_) (fun cv A ou s H vs Q E hr h => ?_)
  · obtain ⟨a, m, t, rfl, _⟩ := h
    rfl
  obtain ⟨a, m, t, rfl, ht, g, ok, hz, q⟩ := h
  refine ⟨_, pss_one (ps_ret (pe_joined (.cons pe_str (.cons (pe_fmt (pe_fld (pv 0) rfl)) (.cons pe_str (.cons (pe_fmt (pe_fld (pv 0) rfl)) (.cons pe_str .nil))))))), ?_⟩
  cases ht with
  | @mk _ dx R s1 F1 _ bs e _ _ _ _ _ =>
  have l1 : (Str.ofString "Tree(").length = 5 := by decide +kernel
  have l2 : (Str.ofString ", size ").length = 7 := by decide +kernel
  have l3 : (Str.ofString ")").length = 1 := by decide +kernel
  have l0 : Str.empty.length = 0 := rfl
  have sz := sizeLine_eq
  have ln := (nm_len (g.rn _ (Tr.ok_iff.mp ok).1)).2
  have lz : (nsS t.size).length ≤ 31 := nsS_len (by decide) hz
  have lz' : (Str.ofString (toString ((t.size : Nat) : Int))).length ≤ 31 := lz
  have ap := fun x y : Str => Str.length_append x y
  refine ⟨_, rfl, ?_, .ref a, rfl, a, CT, dx, _, _, rfl, e, Z.cls, Z.nn, trF_n, .inl ⟨_, rfl, by omega, _, rfl, ?_, _, rfl, ?_, .ref a, rfl, a, CT, dx, _, _, rfl, e, Z.cls, Z.nz, trF_z, .inr ⟨_, rfl, log_ok hz, _, rfl, ?_, _, rfl, ?_, q⟩⟩⟩
  · rw [ap, l0, l1]; omega
  · rw [ap, ap, l0, l1]; omega
  · rw [ap, ap, ap, l0, l1, l2]; omega
  · rw [ap, ap, ap, ap, l0, l1, l2]; omega
  · rw [ap, ap, ap, ap, ap, l0, l1, l2, l3]; omega
/-- str of a tree -/
def rowS (r : Rn) : Str := Txt.join (Str.ofString " ") (r.1 :: r.2.map nsS)
def stT (t : Tr) : Str := Txt.join (Str.ofString "; ") ((codes (sub t)).map rowS)
def spStT (CT CS : Addr) : Sp := fun vs H Q _ => ∃ (a : Addr) (m : Md) (t : Tr), vs = [.ref a] ∧ TrAt CT CS m H a t ∧ Good m ∧ t.Ok m ∧ (sub t).length ≤ 200 ∧ ∀ H' : Hp, Same H H' → Q (.str (stT t)) H'
theorem ok_stT {f : Addr} {fd : FuncData} (F : Fun K "__str__" "Tree.__str__" (cT 11) f fd) (T : TS0 mg) (Z : TCl K CT) : FnOk P w K mg base CX0 1 f fd ["self"] (spStT CT CS) := by
  refine F.ok scStT (fun vs H Q E h => ?_) (fun cv A ou s H vs Q E hr h => ?_)
  · obtain ⟨a, m, t, rfl, _⟩ := h
    rfl
  obtain ⟨a, m, t, rfl, ht, g, ok, l2, q⟩ := h
  refine ⟨_, pss_one (ps_ret (pe_join pe_str (pe_lc (own := [("name", 1), ("numbers", 2)]) (g := gTup K 2 (gCons (gName 1) (gCons (gName 2) gNil))) (tt := tYes) (by rfl) scStT.nd (pi_tup (pe_fld (pv 0) rfl)) (blkOk_by (own := [("name", 1), ("numbers", 2)]) (N := nStT) (sc := defScope (cT 11)) (by decide +kernel))
      (fun _ _ _ _ _ => pg_tup (by rfl) (pgs_cons (pg_name (i := 1) scStT.nd rfl (Or.inl rfl)) (pgs_cons (pg_name (i := 2) scStT.nd rfl (Or.inl rfl)) pgs_nil))) (fun _ _ _ _ _ => pts_nil)
      (fun _ _ _ _ _ => asTE (te := tM1 (fun x xs H Q => ∃ a p, ∃ ys : List Str, x = .str a ∧ xs = [.ref p] ∧ (SqL K H p (ys.map V.str) ∨ SqT K H p (ys.map V.str)) ∧ (ys.map (·.length)).sum + ys.length * a.length ≤ 16777216 ∧ Q (.str (Txt.join a ys)) H) (tC (.str " ")) (tLst (tCons (tVar 1) (StX.tStar K (tLc (iTup K (tVar 2)) (gName 3) tYes (tCB (fun xs H Q => ∃ i, xs = [V.int i] ∧ i.natAbs.log2 < 1920 ∧ Q (.str (toString i)) H) (tCons (tVar 3) tNil)) [3]) tNil))))
        (pe_join pe_str (pe_lst (pa_cons (pv 1) (StX.pa_star (pe_lc (own := [("at", 3)]) (g := gName 3) (tt := tYes) (by rfl) scStT.nd (pi_tup (pv 2)) (blkOk_by (own := [("at", 3)]) (N := nStT) (sc := { kind := .function, names := [(".0", .local), ("name", .local), ("numbers", .local)], isGenerator := false, isCoroutine := false }) (by decide +kernel)) (fun _ _ _ _ _ => pg_name (i := 3) scStT.nd rfl (Or.inl rfl)) (fun _ _ _ _ _ => pts_nil) (fun _ _ _ _ _ => pe_callTy call_str_int (by rfl) T.str boot_str (pa_cons (pv 3) pa_nil))) pa_nil)))) rfl)))), ?_⟩
  cases ht with
  | @mk _ dx R s1 F1 _ bs e _ hR _ _ _ =>
  obtain ⟨xs, eR, pR⟩ := hR
  have lx : xs.length = (codes (sub t)).length := Paired.length pR
  have lc : (codes (sub t)).length ≤ 200 := by rw [codes_len]; exact l2
  have l1 : (Str.ofString " ").length = 1 := by decide +kernel
  have l1' : (Str.ofString "; ").length = 2 := by decide +kernel
  have wd : ∀ r ∈ codes (sub t), r.1.length ≤ 8 ∧ r.2.length ≤ 3 ∧ ∀ k ∈ r.2, k < 200 := fun r hr => by
    obtain ⟨u, hu, rfl⟩ := List.mem_map.mp hr
    refine ⟨(nm_len (g.rn _ (Tr.ok_iff.mp (sub_ok ok u hu)).1)).2, ?_, fun k hk => ?_⟩
    · show (u.kids.map _).length ≤ 3
      rw [List.length_map]
      exact u.kids3
    · obtain ⟨c, hc, rfl⟩ := List.mem_map.mp hk
      exact Nat.lt_of_lt_of_le (List.idxOf_lt_length_of_mem ((sub_ord t).mem hu hc)) l2
  have ws : ∀ r ∈ codes (sub t), ((r.1 :: r.2.map nsS).map (·.length)).sum ≤ 17 := fun r hr => by
    obtain ⟨h1, h2, h3⟩ := wd r hr
    rw [List.map_cons, List.sum_cons]
    have : ∀ l : List Nat, (∀ k ∈ l, k < 200) → ((l.map nsS).map (·.length)).sum ≤ l.length * 3 := by
      intro l
      induction l with
      | nil => intro _; exact Nat.le_refl _
      | cons k r ih =>
        intro h
        have a := nsS_len (n := k) (k := 3) (by decide) (Nat.lt_of_lt_of_le (h k (List.mem_cons_self ..)) (by decide))
        have b := ih fun x hx => h x (List.mem_cons_of_mem _ hx)
        rw [List.map_cons, List.map_cons, List.sum_cons, List.length_cons, Nat.add_mul, Nat.one_mul]
        omega
    have := this r.2 h3
    omega
  refine ⟨⟨_, rfl⟩, .ref a, rfl, a, CT, dx, _, _, rfl, e, Z.cls, Z.nR, trF_R, R, rfl, ⟨_, SqT.of eR⟩, fun D nD => lc_tup (K := K) (a := R) (xs := xs) (fun i H' => i ≤ xs.length ∧ Same H H' ∧ H' D = some (.lst ((((codes (sub t)).take i).map rowS).map V.str))) ⟨Nat.zero_le _, same_new nD, upd_same⟩ (fun i H' _ p => SqT.of (p.2.1 _ _ eR)) (fun i x H' hx p => ?_) fun H' p => ?_⟩
  · obtain ⟨hi, s4, eD⟩ := p
    obtain ⟨r, hr2, b, fa, rfl, hb, hf⟩ := par_at pR hx
    have hlt : i < xs.length := (List.getElem?_eq_some_iff.mp hx).1
    have hrm := List.mem_of_getElem? hr2
    obtain ⟨w1, w2, w3⟩ := wd r hrm
    refine ⟨b, _, rfl, SqT.of (s4 _ _ hb), rfl, _, _, rfl, _, _, rfl, rfl, rfl, Gd.yes_if ⟨⟨_, rfl⟩, .str r.1, rfl, .ref fa, rfl, fa, rfl, ⟨_, SqT.of (s4 _ _ hf)⟩, fun D2 nD2 => lc_funT (K := K) (te := tCB (fun xs H Q => ∃ i, xs = [V.int i] ∧ i.natAbs.log2 < 1920 ∧ Q (.str (toString i)) H) (tCons (tVar 3) tNil)) (j := 3) (vs := [3]) (a := fa) (xs := nsV r.2) (ys := (r.2.map nsS).map V.str) (fun _ => rfl) nD2 (SqT.of (s4 _ _ hf)) (by rw [nsV_len]; omega) (by rw [List.length_map, List.length_map, nsV_len]) (fun p x y H5 hx hy s5 k => ?_) fun H5 s5 eC => ?_⟩⟩
    · intro kk
      unfold nsV at hx
      rw [List.getElem?_map] at hx hy
      rw [List.getElem?_map] at hy
      cases ek : r.2[p]? with
      | none => rw [ek] at hx; cases hx
      | some n =>
        rw [ek] at hx hy
        cases hx
        cases hy
        exact ⟨.int _, rfl, _, rfl, log_ok (Nat.lt_of_lt_of_le (w3 n (List.mem_of_getElem? ek)) (by decide)), kk H5 fun _ _ e => e⟩
    · refine ⟨D2, _, rfl, .inr (SqL.of eC), ?_, fun L nL => ?_⟩
      · rw [List.length_cons, List.length_append, List.length_map, List.length_map, List.length_nil]
        exact Nat.le_of_lt (small1000 (by omega))
      · have es : (r.2.map nsS).map V.str ++ ([] : List V) = (r.2.map nsS).map V.str := List.append_nil _
        have sL := same_new (o := .lst (V.str r.1 :: ((r.2.map nsS).map V.str ++ []))) nL
        have s7 := s4.trans (s5.trans sL)
        refine ⟨_, L, r.1 :: r.2.map nsS, rfl, rfl, .inl (SqL.of (by rw [upd_same, es]; rfl)), ?_, _, (s5.trans sL) _ _ eD, ?_, hlt, ?_, ?_⟩
        · have := ws r hrm
          rw [List.length_cons, List.length_map, l1]
          omega
        · rw [List.length_map, List.length_map, List.length_take]
          exact small1000 (by omega)
        · intro x o e
          rw [upd_ne (ne_of_none e nD)]
          exact s7 _ _ e
        · rw [upd_same, List.take_add_one, hr2, Option.toList_some, List.map_append, List.map_append]
          rfl
  · obtain ⟨_, s4, eD⟩ := p
    rw [lx, List.take_length] at eD
    have rl : ∀ z ∈ (codes (sub t)).map rowS, z.length ≤ 21 := fun z hz => by
      obtain ⟨r, hr, rfl⟩ := List.mem_map.mp hz
      show (Txt.join (Str.ofString " ") (r.1 :: r.2.map nsS)).length ≤ 21
      rw [TL.join_eq]
      have a := StrLaws.join_length_le (Str.ofString " ") (r.1 :: r.2.map nsS)
      have b := ws r hr
      have c := (wd r hr).2.1
      rw [l1, List.length_cons, List.length_map] at a
      omega
    have sm : ∀ l : List Str, (∀ z ∈ l, z.length ≤ 21) → (l.map (·.length)).sum ≤ l.length * 21 := by
      intro l
      induction l with
      | nil => intro _; exact Nat.le_refl _
      | cons z r ih =>
        intro h
        have a := h z (List.mem_cons_self ..)
        have b := ih fun x hx => h x (List.mem_cons_of_mem _ hx)
        rw [List.map_cons, List.sum_cons, List.length_cons, Nat.add_mul, Nat.one_mul]
        omega
    have b := sm _ rl
    rw [List.length_map] at b
    refine ⟨_, D, (codes (sub t)).map rowS, rfl, rfl, .inl (SqL.of eD), ?_, q _ s4⟩
    rw [List.length_map, l1']
    omega
end
end Ks
set_option Elab.async false
set_option linter.all false
set_option maxRecDepth 100000
set_option maxHeartbeats 4000000
namespace Ks
open PySem PySem.Spec PyProof.Rows L2 Gd Kx
/-! ### what stays: tuples; everything but lists -/
/-- tuples stay -/
def Tk (H H' : Hp) : Prop := ∀ b ys, H b = some (.tup ys) → H' b = some (.tup ys)
theorem Tk.of {H H' : Hp} (s : Same H H') : Tk H H' := fun b ys e => s _ _ e
theorem Tk.sb {H H' : Hp} {p : Addr} {ys : List V} (e : H p = some (.lst ys)) (s : Sb p H H') : Tk H H' := fun b zs h => s b _ (fun z => by rw [z, e] at h; cases h) h
theorem Tk.deal {H H' : Hp} {p : Addr} (D : DealAt H p) (s : Sb p H H') : Tk H H' := by
  obtain ⟨_, _, _, e, _⟩ := D
  exact Tk.sb e s
theorem Tk.trans {H H1 H2 : Hp} (a : Tk H H1) (b : Tk H1 H2) : Tk H H2 := fun c ys e => b _ _ (a _ _ e)
theorem StT.tk {H H' : Hp} {a : Addr} {zs : List Str} (h : StT H a zs) (s : Tk H H') : StT H' a zs := s _ _ h
theorem RowV.tk {H H' : Hp} {x : V} {r : Rw} (h : RowV H x r) (s : Tk H H') : RowV H' x r := by
  obtain ⟨b, f, e, h1, h2⟩ := h
  exact ⟨b, f, e, s _ _ h1, s _ _ h2⟩
/-! ### everything but lists stands -/
def Nl (H H' : Hp) : Prop := ∀ b o, (∀ zs, o ≠ HO.lst zs) → H b = some o → H' b = some o
section
variable {H H' H'' : Hp} {a : Addr} {m : Md} {rs : List Rw}
theorem Nl.refl : Nl H H := fun _ _ _ e => e
theorem Nl.of (s : Same H H') : Nl H H' := fun b o _ e => s b o e
theorem Nl.trans (s : Nl H H') (t : Nl H' H'') : Nl H H'' := fun b o n e => t b o n (s b o n e)
theorem Nl.deal {p : Addr} (D : DealAt H p) (s : Sb p H H') : Nl H H' := fun b o n e => s b o (fun z => by
  obtain ⟨_, _, _, ep, _⟩ := D
  rw [z, ep] at e
  cases e
  exact n _ rfl) e
theorem Nl.upd {a : Addr} {zs ys : List V} (e : H a = some (.lst zs)) : Nl H (upd H a (.lst ys)) := fun b o n h => by
  rw [upd_ne (fun z => by rw [z, e] at h; cases h; exact n _ rfl)]
  exact h
theorem Nl.tk (s : Nl H H') : Tk H H' := fun b ys e => s _ _ (fun _ z => by cases z) e
theorem RowsT.nl (h : RowsT H a rs) (s : Nl H H') : RowsT H' a rs := by
  obtain ⟨xs, e, p⟩ := h
  exact ⟨xs, e.by (fun o n _ e => s _ _ n e), Paired.mapP p fun _ _ z => RowV.tk z s.tk⟩
theorem MdAt.nl (h : MdAt H a m) (s : Nl H H') : MdAt H' a m := by
  obtain ⟨k, r, e, h1, h2⟩ := h
  exact ⟨k, r, s.tk _ _ e, h1.tk s.tk, h2.nl s⟩
theorem KnM.keep {H H' : Hp} {a : Addr} (h : KnM H a) (s : Same H H') : KnM H' a := by
  obtain ⟨k, r, xs, e, fz⟩ := h
  exact ⟨k, r, xs, s _ _ e, fz.keep s⟩
theorem KnM.nl (h : KnM H a) (s : Nl H H') : KnM H' a := by
  obtain ⟨k, r, xs, e, o, e2, q⟩ := h
  exact ⟨k, r, xs, s.tk _ _ e, o, s _ _ (fun _ z => by cases z) e2, q⟩
end
end Ks
set_option Elab.async false
set_option linter.all false
set_option maxRecDepth 100000
set_option maxHeartbeats 4000000
namespace Ks
open PySem PySem.Spec PyProof.Rows L2 Gd Kx
theorem asTT {X : Cx} {es : List Expr} {t t' : TT} (h : PTs X es t') (q : t' = t) : PTs X es t := q ▸ h
inductive LtAt (H : Hp) : V → Tr → Prop
  | mk {b ra q : Addr} {t : Tr} {xs : List V} : H b = some (.tup [.ref ra, .ref q]) → RowV H (.ref ra) t.row → H q = some (.tup xs) → xs.length = t.kids.length → (∀ (i : Nat) (x : V) (c : Tr), xs[i]? = some x → t.kids[i]? = some c → LtAt H x c) → LtAt H (.ref b) t
theorem RowN.tk {H H' : Hp} {x : V} {r : Rn} (h : RowN H x r) (s : Tk H H') : RowN H' x r := by
  obtain ⟨b, q, e, h1, h2⟩ := h
  exact ⟨b, q, e, s _ _ h1, s _ _ h2⟩
theorem LtAt.tk {H H' : Hp} {x : V} {t : Tr} (h : LtAt H x t) (s : Tk H H') : LtAt H' x t := by
  induction h with
  | mk h1 h2 h3 h4 _ ih => exact .mk (s _ _ h1) (h2.tk s) (s _ _ h3) h4 ih
/-- some of the rows -/
def selZ (xs : List V) (rs : List Rw) (p : Rw → Bool) : List (Bool × V) := List.zipWith (fun x r => (p r, x)) xs rs
theorem selZ_len {xs : List V} {rs : List Rw} {p : Rw → Bool} (h : xs.length = rs.length) : (selZ xs rs p).length = xs.length := by
  unfold selZ
  rw [List.length_zipWith, h, Nat.min_self]
theorem selZ_at {xs : List V} {rs : List Rw} {p : Rw → Bool} {i : Nat} {x : V} {r : Rw} {z : Bool × V} (hx : xs[i]? = some x) (hr : rs[i]? = some r) (hz : (selZ xs rs p)[i]? = some z) : z = (p r, x) := by
  unfold selZ at hz
  rw [List.getElem?_zipWith, hx, hr] at hz
  exact (Option.some.inj hz).symm
theorem sel_pair {H : Hp} {p : Rw → Bool} : ∀ {xs : List V} {rs : List Rw}, Paired (RowV H) xs rs → Paired (RowV H) (picked (selZ xs rs p)) (rs.filter p)
  | _, _, .nil => .nil
  | x :: xs, r :: rs, .cons h t => by
    have ih := sel_pair (p := p) t
    cases e : p r with
    | true =>
      have e1 : picked (selZ (x :: xs) (r :: rs) p) = x :: picked (selZ xs rs p) := by
        unfold selZ picked
        simp [e]
      rw [e1, List.filter_cons_of_pos e]
      exact .cons h ih
    | false =>
      have e1 : picked (selZ (x :: xs) (r :: rs) p) = picked (selZ xs rs p) := by
        unfold selZ picked
        simp [e]
      rw [e1, List.filter_cons_of_neg (by rw [e]; decide)]
      exact ih
theorem dp_row0 {K : PySem.W.Frag} {H : Hp} {a : Addr} {zs : List Str} (h : StT H a zs) : Dp K H (.ref a) (dSs zs) := dp_st (SqT.of h)
theorem sh_ss {zs : List Str} (h : ∀ z ∈ zs, nmS z = true) : SeqAt.shaped (dSs zs) = true := by
  obtain ⟨h1, h2⟩ := lay_ss h
  unfold SeqAt.shaped
  rw [h1, decide_eq_true (by omega)]
  rfl
theorem dep_mk {r : Rw} {cs : List Tr} {d : Int} (h0 : 1 ≤ d) (hl : cs.length ≤ 3) (h : ∀ c ∈ cs, ((c.dep : Nat) : Int) ≤ d - 1) : (((Tr.mk r cs).dep : Nat) : Int) ≤ d := by
  match cs, hl with
  | [], _ => show ((1 : Nat) : Int) ≤ d; omega
  | [a], _ =>
    have := h a (by simp)
    show ((1 + a.dep : Nat) : Int) ≤ d
    omega
  | [a, b], _ =>
    have := h a (by simp)
    have := h b (by simp)
    show ((1 + max a.dep b.dep : Nat) : Int) ≤ d
    omega
  | [a, b, c], _ =>
    have := h a (by simp)
    have := h b (by simp)
    have := h c (by simp)
    show ((1 + max a.dep (max b.dep c.dep) : Nat) : Int) ≤ d
    omega
end Ks
set_option Elab.async false
set_option linter.all false
set_option maxRecDepth 100000
set_option maxHeartbeats 4000000
namespace Ks
open PySem PySem.Spec PyProof.Rows L2 Gd Kx
theorem dep_pos (t : Tr) : 1 ≤ t.dep := by cases t <;> simp [Tr.dep] <;> omega
theorem dep_kid {t c : Tr} (h : c ∈ t.kids) : c.dep < t.dep := by
  cases t <;> simp [Tr.kids] at h
  · subst h; simp [Tr.dep]
  · rcases h with rfl | rfl <;> simp [Tr.dep] <;> omega
  · rcases h with rfl | rfl | rfl <;> simp [Tr.dep] <;> omega
/-- what stands at a law's tree -/
theorem LtAt.at {H : Hp} {x : V} {t : Tr} (h : LtAt H x t) : ∃ (b ra fa q : Addr) (xs : List V), x = .ref b ∧ H b = some (.tup [.ref ra, .ref q]) ∧ H ra = some (.tup [.str t.row.1, .str t.row.2.1, .ref fa]) ∧ StT H fa t.row.2.2 ∧ H q = some (.tup xs) ∧ xs.length = t.kids.length ∧
    ∀ (i : Nat) (x : V) (c : Tr), xs[i]? = some x → t.kids[i]? = some c → LtAt H x c := by
  cases h with
  | @mk b ra q _ xs h1 h2 h3 h4 h5 =>
    obtain ⟨ra', fa, e, h6, h7⟩ := h2
    cases e
    exact ⟨b, ra, fa, q, xs, rfl, h1, h6, h7, h3, h4, h5⟩
theorem kid_of {t : Tr} {xs : List V} {H : Hp} (hl : xs.length = t.kids.length) (h : ∀ (i : Nat) (x : V) (c : Tr), xs[i]? = some x → t.kids[i]? = some c → LtAt H x c) {i : Nat} {x : V} (e : xs[i]? = some x) : ∃ c, t.kids[i]? = some c ∧ LtAt H x c := by
  have hi := (List.getElem?_eq_some_iff.mp e).1
  have ec : t.kids[i]? = some (t.kids[i]'(by omega)) := List.getElem?_eq_getElem _
  exact ⟨_, ec, h i x _ e ec⟩
theorem addAll_len {D L M : List Tr} : (addAll D L).length ≤ (addAll (addAll D L) M).length := by
  obtain ⟨E, e⟩ := addAll_pre M (addAll D L)
  rw [e, List.length_append]
  omega
theorem shape_item {ds : List PyData} {d : PyData} (h : SeqAt.shaped (.list ds) = true) (hd : d ∈ ds) : True := True.intro
theorem sh_rn {r : Rn} (h : nmS r.1 = true) : SeqAt.shaped (dRn r) = true := by
  have e := lay_ns r.2
  have one : ∀ d ∈ [PyData.str r.1, dNs r.2], d.canLay0 = true ∧ d.depth ≤ 3 := by
    intro d hd
    simp only [List.mem_cons, List.not_mem_nil, or_false] at hd
    rcases hd with rfl | rfl
    · exact ⟨nm_ok h, by rw [PyData.depth]; omega⟩
    · exact e
  have d := dep_all (n := 3) fun d hd => (one d hd).2
  unfold SeqAt.shaped
  have e2 : (dRn r).depth ≤ 64 := by
    unfold dRn
    rw [PyData.depth]
    omega
  rw [show (dRn r).canLay0 = true from lay_all fun d hd => (one d hd).1, decide_eq_true e2]
  rfl
theorem sh_lst {rs : List Rn} (h : ∀ r ∈ rs, nmS r.1 = true) : SeqAt.shaped (.list (rs.map dRn)) = true := by
  have e := lay_rns h
  have e1 : (PyData.list (rs.map dRn)).canLay0 = (dRns rs).canLay0 := rfl
  have e2 : (PyData.list (rs.map dRn)).depth = (dRns rs).depth := by
    unfold dRns
    rw [PyData.depth, PyData.depth]
  unfold SeqAt.shaped at e ⊢
  rw [e1, e2]
  exact e
theorem any_rn (rs : List Rn) (r : Rn) : ((rs.map dRn).any fun z => PyData.eqv z (dRn r)) = decide (r ∈ rs) := by
  rw [List.any_map, Bool.eq_iff_iff, List.any_eq_true, decide_eq_true_eq]
  constructor
  · rintro ⟨x, hx, e⟩
    have e' : PyData.eqv (dRn x) (dRn r) = true := e
    rw [eqv_rn, decide_eq_true_eq] at e'
    rw [← e']
    exact hx
  · intro h
    exact ⟨r, h, by show PyData.eqv (dRn r) (dRn r) = true; rw [eqv_rn, decide_eq_true_eq]⟩
end Ks
set_option Elab.async false
set_option linter.all false
set_option maxRecDepth 100000
set_option maxHeartbeats 4000000
namespace Ks
open PySem PySem.Spec PyProof.Rows L2 Gd Kx
/-! ### one comparison with two readings -/
theorem op_or2 {X : Cx} {f : Value → Value → Sem Value} {r1 r2 : R2} (h1 : OpR X f r1) (h2 : OpR X f r2) : OpR X f (fun x y H Q => r1 x y H Q ∨ r2 x y H Q) := by
  intro pins s σ H x y v u Q I rx ry h
  rcases h with h | h
  · exact h1 pins s σ H x y v u Q I rx ry h
  · exact h2 pins s σ H x y v u Q I rx ry h
section
variable {H H' : Hp}
theorem ScAt.nl {C a : Addr} {m : Md} (h : ScAt C H a m) (s : Nl H H') : ScAt C H' a m := by
  obtain ⟨dx, k, c, n, ⟨dp, e, edp⟩, h1, ⟨xs, h2, hp⟩, o, h3, h4⟩ := h
  exact ⟨dx, k, c, n, ⟨dp, s _ _ (fun _ z => by cases z) e, s _ _ (fun _ z => by cases z) edp⟩, s _ _ (fun _ z => by cases z) h1, ⟨xs, h2.by (fun o n _ e => s _ _ n e), Paired.mapP hp fun _ _ z => RowV.tk z s.tk⟩, o, s _ _ (fun _ z => by cases z) h3, h4⟩
end
theorem mk_baseT {C x dx : Addr} {H : Hp} (nx : H x = none) (nd : H dx = none) : Same H (upd (upd H dx (.own x)) x (.ins C dx [])) := fun b o e => by
  rw [upd_ne (ne_of_none e nx), upd_ne (ne_of_none e nd)]
  exact e
theorem mk_sameT {C x dx : Addr} {H H' : Hp} (nx : H x = none) (nd : H dx = none) (h : But x (upd (upd H dx (.own x)) x (.ins C dx [])) H') : Same H H' := fun b o e => h b o (ne_of_none e nx) (mk_baseT nx nd _ _ e)
end Ks
set_option Elab.async false
set_option linter.all false
set_option maxRecDepth 100000
namespace Ks
open PySem PySem.Spec PyProof.Rows L2 Gd Kx
/-! ### a law's tree as data -/
def dLt : Tr → PyData
  | .n0 r => .tuple [dRw r, .tuple []]
  | .n1 r a => .tuple [dRw r, .tuple [dLt a]]
  | .n2 r a b => .tuple [dRw r, .tuple [dLt a, dLt b]]
  | .n3 r a b c => .tuple [dRw r, .tuple [dLt a, dLt b, dLt c]]
theorem dLt_eq (t : Tr) : dLt t = .tuple [dRw t.row, .tuple (t.kids.map dLt)] := by cases t <;> rfl
theorem eqv_lt2 (r s : Rw) (a b : List PyData) : PyData.eqv (.tuple [dRw r, .tuple a]) (.tuple [dRw s, .tuple b]) = (decide (r = s) && PyData.eqvAll a b) := by
  show (PyData.eqv (dRw r) (dRw s) && (PyData.eqvAll a b && true)) = _
  rw [eqv_rw, Bool.and_true]
theorem eqv_lt : ∀ t u : Tr, PyData.eqv (dLt t) (dLt u) = decide (t = u)
  | .n0 r, u => by
    cases u <;> rw [dLt, dLt, eqv_lt2] <;> simp [PyData.eqvAll]
  | .n1 r a, u => by
    cases u with
    | n1 s x =>
      rw [dLt, dLt, eqv_lt2, show PyData.eqvAll [dLt a] [dLt x] = (PyData.eqv (dLt a) (dLt x) && true) from rfl, eqv_lt a x]
      simp
    | _ => rw [dLt, dLt, eqv_lt2] <;> simp [PyData.eqvAll]
  | .n2 r a b, u => by
    cases u with
    | n2 s x y =>
      rw [dLt, dLt, eqv_lt2, show PyData.eqvAll [dLt a, dLt b] [dLt x, dLt y] = (PyData.eqv (dLt a) (dLt x) && (PyData.eqv (dLt b) (dLt y) && true)) from rfl, eqv_lt a x, eqv_lt b y]
      simp
    | _ => rw [dLt, dLt, eqv_lt2] <;> simp [PyData.eqvAll]
  | .n3 r a b c, u => by
    cases u with
    | n3 s x y z =>
      rw [dLt, dLt, eqv_lt2, show PyData.eqvAll [dLt a, dLt b, dLt c] [dLt x, dLt y, dLt z] = (PyData.eqv (dLt a) (dLt x) && (PyData.eqv (dLt b) (dLt y) && (PyData.eqv (dLt c) (dLt z) && true))) from rfl, eqv_lt a x, eqv_lt b y, eqv_lt c z]
      simp
    | _ => rw [dLt, dLt, eqv_lt2] <;> simp [PyData.eqvAll]
theorem lay_lt {m : Md} (g : Good m) {t : Tr} : t.Ok m → (dLt t).canLay0 = true ∧ ∀ n, t.dep ≤ n → (dLt t).depth ≤ 4 * n + 8 := by
  induction t using Tr.ind with
  | h t ih =>
  intro ok
  obtain ⟨o1, o2, o3⟩ := Tr.ok_iff.mp ok
  have lr := lay_rw g.kn (g.row o1)
  rw [dLt_eq]
  have ly : PyData.canLay0 (.tuple (t.kids.map dLt)) = true := lay_all fun d hd => by
    obtain ⟨c, hc, rfl⟩ := List.mem_map.mp hd
    exact (ih c hc (o3 c hc)).1
  refine ⟨lay_all fun d hd => ?_, fun n hn => ?_⟩
  · simp only [List.mem_cons, List.not_mem_nil, or_false] at hd
    rcases hd with rfl | rfl
    · exact lr.1
    · exact ly
  · have dk := dep_all (n := 4 * (n - 1) + 8) (ds := t.kids.map dLt) fun d hd => by
      obtain ⟨c, hc, rfl⟩ := List.mem_map.mp hd
      have := dep_kid hc
      exact (ih c hc (o3 c hc)).2 (n - 1) (by omega)
    have dp := dep_pos t
    have d2 : (PyData.tuple (t.kids.map dLt)).depth ≤ 4 * n + 6 := by
      rw [PyData.depth]
      omega
    have lr2 := lr.2
    have := dep_all (n := 4 * n + 6) (ds := [dRw t.row, .tuple (t.kids.map dLt)]) fun d hd => by
      simp only [List.mem_cons, List.not_mem_nil, or_false] at hd
      rcases hd with rfl | rfl
      · omega
      · exact d2
    rw [PyData.depth]
    omega
theorem sh_lt {m : Md} (g : Good m) {t : Tr} (ok : t.Ok m) (d : t.dep ≤ 14) : SeqAt.shaped (dLt t) = true := by
  obtain ⟨h1, h2⟩ := lay_lt g ok
  have := h2 14 d
  unfold SeqAt.shaped
  rw [h1, decide_eq_true (by omega)]
  rfl
theorem dpAll_of {K : PySem.W.Frag} {H : Hp} {α : Type} {f : α → PyData} : ∀ {xs : List V} {cs : List α}, xs.length = cs.length → (∀ (i : Nat) (x : V) (c : α), xs[i]? = some x → cs[i]? = some c → Dp K H x (f c)) → DpAll K H xs (cs.map f)
  | [], [], _, _ => .nil
  | [], c :: cs, l, _ => by cases l
  | x :: xs, [], l, _ => by cases l
  | x :: xs, c :: cs, l, h => .cons (h 0 x c rfl rfl) (dpAll_of (by simpa using l) fun i y d e1 e2 => h (i + 1) y d (by simpa using e1) (by simpa using e2))
theorem dp_lt {K : PySem.W.Frag} {H : Hp} {x : V} {t : Tr} (h : LtAt H x t) : Dp K H x (dLt t) := by
  induction h with
  | mk h1 h2 h3 h4 _ ih =>
    rw [dLt_eq]
    exact .tup (SqT.of h1) (.cons (dp_row h2) (.cons (.tup (SqT.of h3) (dpAll_of h4 ih)) .nil))
/-- values that are no trees -/
inductive NoTr (CS : Addr) (H : Hp) : V → Prop where
  | non : NoTr CS H .non
  | bl (b : Bool) : NoTr CS H (.bl b)
  | int (i : Int) : NoTr CS H (.int i)
  | str (z : Str) : NoTr CS H (.str z)
  | tup {a : Addr} {xs : List V} (h : H a = some (.tup xs)) : NoTr CS H (.ref a)
  | sch {a : Addr} {m : Md} (h : ScAt CS H a m) (g : Good m) : NoTr CS H (.ref a)
theorem NoTr.keep {CS : Addr} {H H' : Hp} {x : V} (h : NoTr CS H x) (s : Same H H') : NoTr CS H' x := by
  cases h with
  | non => exact .non
  | bl b => exact .bl b
  | int i => exact .int i
  | str z => exact .str z
  | tup h => exact .tup (s _ _ h)
  | sch h g => exact .sch (h.keep s) g
section
variable {H H' H'' : Hp}
theorem TrAt.nl {CT CS a : Addr} {m : Md} {t : Tr} (h : TrAt CT CS m H a t) (s : Nl H H') : TrAt CT CS m H' a t := by
  induction h with
  | mk g1 g2 g3 g4 g5 _ ih =>
    obtain ⟨ys, e5, p5⟩ := g3
    exact .mk (s _ _ (fun _ z => by cases z) g1) (g2.nl s) ⟨ys, s.tk _ _ e5, Paired.mapP p5 fun _ _ z => RowN.tk z s.tk⟩ (s _ _ (fun _ z => by cases z) g4) g5 ih
end
theorem picked_flt {rs : List Rw} (p : Rw → Bool) : picked (rs.map fun r => (p r, V.str r.1)) = ((rs.filter p).map (·.1)).map V.str := by
  unfold picked
  induction rs with
  | nil => rfl
  | cons r t ih => cases h : p r <;> simp [h] <;> simpa using ih
theorem any_rep' (n : Nat) : (List.replicate n false).any id = false := by
  rw [List.any_eq_false]
  intro x hx
  rw [(List.mem_replicate.mp hx).2]
  decide
end Ks
set_option Elab.async false
set_option linter.all false
set_option maxRecDepth 100000
set_option maxHeartbeats 4000000
namespace Ks
open PySem PySem.Spec PyProof.Rows L2 Gd Kx
/-! ### parts of a law's tree; tuples joined -/
section
variable {K : PySem.W.Frag}
theorem same_rfl {H : Hp} : Same H H := fun _ _ e => e
theorem catA_all {a b : Addr} {xs ys : List V} {H : Hp} {Q : VK} (ha : H a = some (.tup xs)) (hb : H b = some (.tup ys)) (hz : xs.length + ys.length ≤ sizeLine) (q : ∀ p H', Same H H' → H' p = some (.tup (xs ++ ys)) → Q (.ref p) H') : rCatA K (.ref a) (.ref b) H Q :=
  ⟨a, b, xs, ys, rfl, rfl, SqT.of ha, SqT.of hb, hz, fun e => q b H same_rfl (by rw [e]; exact hb), fun _ e => q a H same_rfl (by rw [e, List.append_nil]; exact ha), fun _ _ p np => q p _ (same_new np) upd_same⟩
theorem lay_kids {m : Md} (g : Good m) {t : Tr} (ok : t.Ok m) (d : t.dep ≤ 5) : SeqAt.shaped (.tuple (t.kids.map dLt)) = true := by
  have ly : PyData.canLayAll0 (t.kids.map dLt) = true := lay_all fun d hd => by
    obtain ⟨c, hc, rfl⟩ := List.mem_map.mp hd
    exact (lay_lt g ((Tr.ok_iff.mp ok).2.2 c hc)).1
  have dk := dep_all (n := 28) (ds := t.kids.map dLt) fun d hd => by
    obtain ⟨c, hc, rfl⟩ := List.mem_map.mp hd
    have := dep_kid hc
    exact (lay_lt g ((Tr.ok_iff.mp ok).2.2 c hc)).2 5 (by omega)
  unfold SeqAt.shaped
  have e2 : (PyData.tuple (t.kids.map dLt)).depth ≤ 64 := by
    rw [PyData.depth]
    omega
  rw [show (PyData.tuple (t.kids.map dLt)).canLay0 = true by rw [PyData.canLay0]; exact ly, decide_eq_true e2]
  rfl
theorem eqv_kids0 (t : Tr) : PyData.eqv (.tuple (t.kids.map dLt)) (.tuple []) = decide (t.kids = []) := by
  cases t <;> rfl
theorem dp_kids {H : Hp} {q0 : Addr} {xs : List V} {t : Tr} (e : H q0 = some (.tup xs)) (l : xs.length = t.kids.length) (k : ∀ (i : Nat) (x : V) (c : Tr), xs[i]? = some x → t.kids[i]? = some c → LtAt H x c) : Dp K H (.ref q0) (.tuple (t.kids.map dLt)) :=
  .tup (SqT.of e) (dpAll_of l fun i x c hx hc => dp_lt (k i x c hx hc))
end
end Ks
set_option Elab.async false
set_option linter.all false
set_option maxRecDepth 100000
set_option maxHeartbeats 4000000
namespace Ks
open PySem PySem.Spec PyProof.Rows L2 Gd Kx
/-! ### pairs of lists; parts of tuples; comprehensions of new objects -/
theorem deal_upd {p a : Addr} {H : Hp} {o : HO} (D : DealAt H p) (n : a ≠ p) : DealAt (upd H a o) p := by
  obtain ⟨x, y, z, e, l⟩ := D
  exact ⟨x, y, z, by rw [upd_ne (Ne.symm n)]; exact e, l⟩
theorem some_injG {α : Type} : ∀ {a b : List α}, a.map some = b.map some → a = b
  | [], [], _ => rfl
  | [], _ :: _, h => by cases h
  | _ :: _, [], h => by cases h
  | x :: a, y :: b, h => by
    rw [List.map_cons, List.map_cons] at h
    injection h with h1 h2
    rw [Option.some.inj h1, some_injG h2]
theorem slA_all {K : PySem.W.Frag} {a : Addr} {xs : List V} {H : Hp} {lo hi : Option Int} {Q : VK} (ha : H a = some (.tup xs)) (q : ∀ p H', Same H H' → H' p = some (.tup (cutV xs lo hi)) → Q (.ref p) H') : rSlA K (.ref a) lo hi H Q :=
  ⟨a, xs, rfl, SqT.of ha, fun h => q a H (fun _ _ e => e) (by
    have : cutV xs lo hi = xs := by unfold cutV; rw [h.1, h.2, List.drop_zero, Nat.sub_zero, List.take_length]
    rw [this]; exact ha), fun _ p np => q p _ (same_new np) upd_same⟩
theorem par_takeG {α β : Type} {G : α → β → Prop} : ∀ (n : Nat) {xs : List α} {rs : List β}, Paired G xs rs → Paired G (xs.take n) (rs.take n)
  | 0, _, _, _ => .nil
  | _ + 1, _, _, .nil => .nil
  | n + 1, _, _, .cons a t => .cons a (par_takeG n t)
theorem par_dropG {α β : Type} {G : α → β → Prop} : ∀ (n : Nat) {xs : List α} {rs : List β}, Paired G xs rs → Paired G (xs.drop n) (rs.drop n)
  | 0, _, _, h => h
  | _ + 1, _, _, .nil => .nil
  | n + 1, _, _, .cons a t => par_dropG n t
theorem par_appG {α β : Type} {G : α → β → Prop} : ∀ {xs ys : List α} {rs us : List β}, Paired G xs rs → Paired G ys us → Paired G (xs ++ ys) (rs ++ us)
  | _, _, _, _, .nil, h => h
  | _, _, _, _, .cons a t, h => .cons a (par_appG t h)
theorem par_mapG {α β γ : Type} {G : α → β → Prop} {G' : α → γ → Prop} {f : β → γ} : ∀ {xs : List α} {rs : List β}, Paired G xs rs → (∀ x r, r ∈ rs → G x r → G' x (f r)) → Paired G' xs (rs.map f)
  | _, _, .nil, _ => .nil
  | _, _, .cons a t, h => .cons (h _ _ (List.mem_cons_self ..) a) (par_mapG t fun x r hr => h x r (List.mem_cons_of_mem _ hr))
/-! ### comprehensions whose values are new objects: everything but lists stands -/
section
variable {K : PySem.W.Frag} {a : Addr} {xs : List V} {j : Nat} {te : TE} {vs : List Nat} {σ : L2.St} {H1 : Hp} {D : Addr} {Qd : Hp → Prop} {α : Type} {cs : List α} {G : Hp → V → α → Prop}
theorem rel_stepN (kp : ∀ H H' v c, G H v c → Nl H H' → G H' v c) (hw : ∀ v, wipe ((wipe σ vs).set j (some v)) vs = wipe σ vs) (nD : H1 D = none) (hz : xs.length ≤ 1000) (hl : cs.length = xs.length)
    (he : ∀ (i : Nat) (x : V) (c : α) (H : Hp), xs[i]? = some x → cs[i]? = some c → Same H1 H → ∀ q : VK, (∀ z H4, Same H H4 → G H4 z c → q z H4) → te ((wipe σ vs).set j (some x)) H q)
    (i : Nat) (x : V) (H : Hp) (hx : xs[i]? = some x) (p : i ≤ xs.length ∧ Same H1 H ∧ ∃ zs, H D = some (.lst zs) ∧ Paired (G H) zs (cs.take i)) :
    wipe ((wipe σ vs).set j (some x)) vs = wipe σ vs ∧ tYes ((wipe σ vs).set j (some x)) H fun b H3 =>
        if b = true then te ((wipe σ vs).set j (some x)) H3 fun y H4 => ∃ acc, H4 D = some (.lst acc) ∧ acc.length < sizeLine ∧ (i + 1 ≤ xs.length ∧ Same H1 (upd H4 D (.lst (acc ++ [y]))) ∧ ∃ zs, (upd H4 D (.lst (acc ++ [y]))) D = some (.lst zs) ∧ Paired (G (upd H4 D (.lst (acc ++ [y])))) zs (cs.take (i + 1)))
        else (i + 1 ≤ xs.length ∧ Same H1 H3 ∧ ∃ zs, H3 D = some (.lst zs) ∧ Paired (G H3) zs (cs.take (i + 1))) := by
  obtain ⟨hi, s, zs, eD, pz⟩ := p
  have hi2 : i < xs.length := (List.getElem?_eq_some_iff.mp hx).1
  have ec : cs[i]? = some (cs[i]'(by omega)) := List.getElem?_eq_getElem _
  refine ⟨hw x, Gd.yes_if (he i x _ H hx ec s _ fun z H4 s4 g => ?_)⟩
  have lz : zs.length = i := by rw [Paired.length pz, List.length_take]; omega
  have t0 : Nl H4 (upd H4 D (.lst (zs ++ [z]))) := Nl.upd (s4 _ _ eD)
  refine ⟨zs, s4 _ _ eD, by rw [lz]; exact small1000 (by omega), hi2, same_upd (s.trans s4) nD, zs ++ [z], upd_same, ?_⟩
  rw [List.take_succ, ec]
  exact Paired.snoc (Paired.mapP pz fun v c g0 => kp _ _ _ _ (kp _ _ _ _ g0 (.of s4)) t0) (kp _ _ _ _ g t0)
theorem lc_relTN (kp : ∀ H H' v c, G H v c → Nl H H' → G H' v c) (hw : ∀ v, wipe ((wipe σ vs).set j (some v)) vs = wipe σ vs) (nD : H1 D = none) (hx : SqT K H1 a xs) (hz : xs.length ≤ 1000) (hl : cs.length = xs.length)
    (he : ∀ (i : Nat) (x : V) (c : α) (H : Hp), xs[i]? = some x → cs[i]? = some c → Same H1 H → ∀ q : VK, (∀ z H4, Same H H4 → G H4 z c → q z H4) → te ((wipe σ vs).set j (some x)) H q)
    (hd : ∀ H zs, Same H1 H → H D = some (.lst zs) → Paired (G H) zs cs → Qd H) : ∃ W : Nat → Nat → Hp → Prop, (∃ m, W 0 m (upd H1 D (.lst []))) ∧ ∀ i m H, W i m H →
      ((Itt K a).stop i H ∧ Qd H) ∨ ((Itt K a).go i H ∧ ∃ Nx : Hp → Prop, (∀ H', Nx H' → ∃ m', m' < m ∧ W (i + 1) m' H') ∧ ∀ v H', (Itt K a).yld i H v H' → gName j v (wipe σ vs) H' fun τ H2 => wipe τ vs = wipe σ vs ∧ tYes τ H2 fun b H3 =>
        if b = true then te τ H3 fun y H4 => ∃ acc, H4 D = some (.lst acc) ∧ acc.length < sizeLine ∧ Nx (upd H4 D (.lst (acc ++ [y]))) else Nx H3) :=
  lc_tup (fun i H => i ≤ xs.length ∧ Same H1 H ∧ ∃ zs, H D = some (.lst zs) ∧ Paired (G H) zs (cs.take i)) ⟨Nat.zero_le _, same_new nD, [], upd_same, .nil⟩ (fun i H _ p => SqT.ext hx p.2.1)
    (fun i x H hx p => rel_stepN kp hw nD hz hl he i x H hx p) fun H p => by
      obtain ⟨_, s, zs, eD, pz⟩ := p
      rw [← hl, List.take_length] at pz
      exact hd H zs s eD pz
theorem lc_relLN (kp : ∀ H H' v c, G H v c → Nl H H' → G H' v c) (hw : ∀ v, wipe ((wipe σ vs).set j (some v)) vs = wipe σ vs) (nD : H1 D = none) (hx : SqL K H1 a xs) (hz : xs.length ≤ 1000) (hl : cs.length = xs.length)
    (he : ∀ (i : Nat) (x : V) (c : α) (H : Hp), xs[i]? = some x → cs[i]? = some c → Same H1 H → ∀ q : VK, (∀ z H4, Same H H4 → G H4 z c → q z H4) → te ((wipe σ vs).set j (some x)) H q)
    (hd : ∀ H zs, Same H1 H → H D = some (.lst zs) → Paired (G H) zs cs → Qd H) : ∃ W : Nat → Nat → Hp → Prop, (∃ m, W 0 m (upd H1 D (.lst []))) ∧ ∀ i m H, W i m H →
      ((Itl K a).stop i H ∧ Qd H) ∨ ((Itl K a).go i H ∧ ∃ Nx : Hp → Prop, (∀ H', Nx H' → ∃ m', m' < m ∧ W (i + 1) m' H') ∧ ∀ v H', (Itl K a).yld i H v H' → gName j v (wipe σ vs) H' fun τ H2 => wipe τ vs = wipe σ vs ∧ tYes τ H2 fun b H3 =>
        if b = true then te τ H3 fun y H4 => ∃ acc, H4 D = some (.lst acc) ∧ acc.length < sizeLine ∧ Nx (upd H4 D (.lst (acc ++ [y]))) else Nx H3) :=
  lc_list (fun i H => i ≤ xs.length ∧ Same H1 H ∧ ∃ zs, H D = some (.lst zs) ∧ Paired (G H) zs (cs.take i)) ⟨Nat.zero_le _, same_new nD, [], upd_same, .nil⟩ (fun i H _ p => SqL.ext hx p.2.1)
    (fun i x H hx p => rel_stepN kp hw nD hz hl he i x H hx p) fun H p => by
      obtain ⟨_, s, zs, eD, pz⟩ := p
      rw [← hl, List.take_length] at pz
      exact hd H zs s eD pz
end
end Ks
set_option Elab.async false
set_option linter.all false
set_option maxRecDepth 100000
set_option maxHeartbeats 4000000
/-! sorted(xs), xs a list of data of one kind -/
namespace Ks
open PySem PySem.Spec PyProof.Rows L2 Gd Kx
section
variable {X : Cx}
/-- the items are told by numbers: v is the item, e what it reads as -/
def rSortedDt (K : PySem.W.Frag) : List V → Hp → VK → Prop := fun vs H Q => ∃ (a : Addr) (bs : List Nat) (v : Nat → V) (e : Nat → PyData), vs = [.ref a] ∧ SqL K H a (bs.map v) ∧ (∀ b ∈ bs, Dp K H (v b) (e b)) ∧ PySem.W.AllAlike (bs.map e) ∧ PySem.W.Sortable (bs.map e) ∧ (∀ b ∈ bs, (e b).depth ≤ 60) ∧
  ∀ p, H p = none → Q (.ref p) (upd H p (.lst ((bs.mergeSort (PySem.W.dataLe false e)).map v)))
theorem each_vals {v : Nat → V} : ∀ {bs : List Nat} {us : List Value}, Vals (bs.map v) us → PySem.W.EachIs (fun u b => RelV (v b) u) us bs
  | [], _, .nil => .nil
  | _ :: _, _, .cons h t => .cons h (each_vals t)
theorem vals_each {v : Nat → V} : ∀ {bs : List Nat} {us : List Value}, PySem.W.EachIs (fun u b => RelV (v b) u) us bs → Vals (bs.map v) us
  | [], _, .nil => .nil
  | _ :: _, _, .cons h t => .cons h (vals_each t)
theorem each_reads {pins : List (Addr × Obj)} {σ : L2.St} {H : Hp} {s : Shared} {v : Nat → V} {e : Nat → PyData} (I : Inv X pins σ H s) : ∀ {bs : List Nat} {us : List Value}, (∀ b ∈ bs, Dp X.K H (v b) (e b)) → Vals (bs.map v) us → PySem.W.EachIs (fun u b => ∃ as, Reads s.heap u (e b) as) us bs
  | [], _, _, .nil => .nil
  | b :: bs, _, hd, .cons h t => .cons (Dp.reads I (e b) (v b) _ (hd b (List.mem_cons_self ..)) h) (each_reads I (fun y hy => hd y (List.mem_cons_of_mem _ hy)) t)
theorem cr_sortedDt (hu : X.A.units + 64 < cLine) : CallR X (.builtin "sorted") (rSortedDt X.K) := by
  intro pins s σ H vs us Q I r h
  obtain ⟨a, bs, v, e, rfl, hs, hd, hal, hk, hdp, q⟩ := h
  obtain ⟨its, rv, hl, hz⟩ := I.list hs
  have e1 := Vals.ref1 r
  subst e1
  have lz : its.length = bs.length := by rw [← rv.length, List.length_map]
  refine PySem.W.sorted_data (β := Nat) (R := fun u b => RelV (v b) u) (enc := e) hl.isList (each_vals rv) (each_reads I hd rv) hal hk (by rw [← lz, ← rv.length]; exact hz) (fun z hz => ?_) fun out hlen he => ?_
  · have := hdp z hz
    omega
  · obtain ⟨ep, he'⟩ := PyProof.Rows.sortedAll_at s.heap its out.toArray
    refine ⟨.ref _, upd H (s.heap.objs.size + 1) (.lst ((bs.mergeSort (PySem.W.dataLe false e)).map v)), I.laid (t' := s.toks) (fun _ _ => PyProof.Rows.sortedAll_old) (Nat.le_succ _) ⟨?_, out, ep, vals_each he, he'⟩, rfl, q _ (I.hok.fresh (Nat.le_succ _))⟩
    rw [List.length_map, (List.mergeSort_perm _ _).length_eq, ← lz, ← rv.length]
    exact hz
end
/-! ### sorted data: what the order tells -/
theorem lt_irrefl (d : PyData) : PySem.W.dataLt d d = false := PyProof.Rows.lex_irrefl (O := PyProof.Rows.itemOrd) _
theorem lt_trans {a b c : PyData} (h1 : PySem.W.dataLt a b = true) (h2 : PySem.W.dataLt b c = true) : PySem.W.dataLt a c = true := PyProof.Rows.lex_trans (O := PyProof.Rows.itemOrd) _ _ _ h1 h2
theorem lt_neg {a b c : PyData} (h : PySem.W.dataLt a c = true) : PySem.W.dataLt a b = true ∨ PySem.W.dataLt b c = true := PyProof.Rows.lex_negTrans (O := PyProof.Rows.itemOrd) _ _ _ h
theorem le_def {e : Nat → PyData} (a b : Nat) : PySem.W.dataLe false e a b = !PySem.W.dataLt (e b) (e a) := rfl
theorem sorted_le {e : Nat → PyData} (bs : List Nat) : (bs.mergeSort (PySem.W.dataLe false e)).Pairwise fun a b => PySem.W.dataLt (e b) (e a) = false := by
  have := List.pairwise_mergeSort (le := PySem.W.dataLe false e) (fun a b c h1 h2 => by
    rw [le_def, Bool.not_eq_true'] at *
    cases h : PySem.W.dataLt (e c) (e a) with
    | false => rfl
    | true =>
      rcases lt_neg (b := e b) h with z | z
      · rw [h2] at z; cases z
      · rw [h1] at z; cases z) (fun a b => by
    rw [le_def, le_def]
    cases h1 : PySem.W.dataLt (e b) (e a) with
    | false => rfl
    | true =>
      cases h2 : PySem.W.dataLt (e a) (e b) with
      | false => rfl
      | true =>
        have := lt_trans h1 h2
        rw [lt_irrefl] at this
        cases this) bs
  exact this.imp fun {a b} h => by
    rw [le_def, Bool.not_eq_true'] at h
    exact h
end Ks
set_option Elab.async false
set_option linter.all false
set_option maxRecDepth 100000
set_option maxHeartbeats 4000000
namespace Ks
open PySem PySem.Spec PyProof.Rows L2 Gd Kx
/-! ### the order of trees -/
/-- the place of a row -/
def rpl (m : Md) (r : Rw) : Nat := m.rs.idxOf r
theorem rpl_at {m : Md} {r : Rw} (h : r ∈ m.rs) : m.rs[rpl m r]? = some r := by
  have hl := List.idxOf_lt_length_of_mem h
  unfold rpl
  rw [List.getElem?_eq_getElem hl, List.getElem_idxOf hl]
theorem rpl_inj {m : Md} {r r' : Rw} (h : r ∈ m.rs) (h' : r' ∈ m.rs) (e : rpl m r = rpl m r') : r = r' := by
  have h1 := rpl_at h
  have h2 := rpl_at h'
  rw [e, h2] at h1
  exact (Option.some.inj h1).symm
/-- a tree's key as data -/
def dKy (m : Md) : Tr → PyData
  | .n0 r => .tuple [.int (((Tr.n0 r).size : Nat) : Int), .int ((rpl m r : Nat) : Int), .tuple []]
  | .n1 r a => .tuple [.int (((Tr.n1 r a).size : Nat) : Int), .int ((rpl m r : Nat) : Int), .tuple [dKy m a]]
  | .n2 r a b => .tuple [.int (((Tr.n2 r a b).size : Nat) : Int), .int ((rpl m r : Nat) : Int), .tuple [dKy m a, dKy m b]]
  | .n3 r a b c => .tuple [.int (((Tr.n3 r a b c).size : Nat) : Int), .int ((rpl m r : Nat) : Int), .tuple [dKy m a, dKy m b, dKy m c]]
theorem dKy_eq (m : Md) (t : Tr) : dKy m t = .tuple [.int ((t.size : Nat) : Int), .int ((rpl m t.row : Nat) : Int), .tuple (t.kids.map (dKy m))] := by cases t <;> rfl
theorem alikeAll_map {f : Tr → PyData} : ∀ {L M : List Tr}, (∀ c ∈ L, ∀ d, PySem.W.alike (f c) (f d) = true) → PySem.W.alikeAll (L.map f) (M.map f) = true
  | [], _, _ => by rw [List.map_nil, PySem.W.alikeAll]
  | _ :: _, [], _ => by rw [List.map_nil, List.map_cons, PySem.W.alikeAll]
  | c :: L, d :: M, h => by
    rw [List.map_cons, List.map_cons, PySem.W.alikeAll, h c (List.mem_cons_self ..) d, alikeAll_map fun x hx => h x (List.mem_cons_of_mem _ hx)]
    rfl
theorem alike_int (a b : Int) : PySem.W.alike (.int a) (.int b) = true := by rw [PySem.W.alike]
theorem alike_ky {m : Md} (t : Tr) : ∀ u, PySem.W.alike (dKy m t) (dKy m u) = true := by
  induction t using Tr.ind with
  | h t ih =>
  intro u
  rw [dKy_eq, dKy_eq m u, PySem.W.alike, PySem.W.alikeAll, PySem.W.alikeAll, PySem.W.alikeAll, alike_int, alike_int, PySem.W.alike, alikeAll_map ih, PySem.W.alikeAll]
  rfl
theorem eqvAll_mapM {f : Tr → PyData} : ∀ {L M : List Tr}, (∀ c ∈ L, ∀ d ∈ M, PyData.eqv (f c) (f d) = decide (c = d)) → PyData.eqvAll (L.map f) (M.map f) = decide (L = M)
  | [], [], _ => rfl
  | [], _ :: _, _ => rfl
  | _ :: _, [], _ => rfl
  | c :: L, d :: M, h => by
    show (PyData.eqv (f c) (f d) && PyData.eqvAll (L.map f) (M.map f)) = _
    rw [h c (List.mem_cons_self ..) d (List.mem_cons_self ..), eqvAll_mapM fun x hx y hy => h x (List.mem_cons_of_mem _ hx) y (List.mem_cons_of_mem _ hy), Bool.eq_iff_iff]
    simp
theorem eqv_ky {m : Md} {t : Tr} : ∀ {u : Tr}, t.Ok m → u.Ok m → PyData.eqv (dKy m t) (dKy m u) = decide (t = u) := by
  induction t using Tr.ind with
  | h t ih =>
  intro u ht hu
  obtain ⟨t1, t2, t3⟩ := Tr.ok_iff.mp ht
  obtain ⟨u1, u2, u3⟩ := Tr.ok_iff.mp hu
  rw [dKy_eq, dKy_eq m u]
  show (((t.size : Nat) : Int) == ((u.size : Nat) : Int) && (((rpl m t.row : Nat) : Int) == ((rpl m u.row : Nat) : Int) && (PyData.eqvAll (t.kids.map (dKy m)) (u.kids.map (dKy m)) && true))) = _
  rw [eqvAll_mapM fun c hc d hd => ih c hc (t3 c hc) (u3 d hd), Bool.and_true, Bool.eq_iff_iff, Bool.and_eq_true, Bool.and_eq_true, beq_iff_eq, beq_iff_eq, decide_eq_true_iff, decide_eq_true_iff]
  constructor
  · rintro ⟨_, h2, h3⟩
    exact Tr.ext (rpl_inj t1 u1 (by omega)) h3
  · rintro rfl
    exact ⟨rfl, rfl, rfl⟩
/-- -1, 0, 1 as the keys tell -/
def cmpT (m : Md) (t u : Tr) : Int := if t = u then 0 else if PySem.W.dataLt (dKy m t) (dKy m u) = true then -1 else 1
theorem cmp_self {m : Md} {t : Tr} : cmpT m t t = 0 := if_pos rfl
theorem eqv_int (a b : Int) : PyData.eqv (.int a) (.int b) = (a == b) := by rw [PyData.eqv]
theorem cmp_size {m : Md} {t u : Tr} (h : t.size ≠ u.size) : cmpT m t u = if t.size < u.size then -1 else 1 := by
  unfold cmpT
  rw [if_neg fun e => h (by rw [e]), dKy_eq, dKy_eq m u, PySem.W.dataLt_tuple, PySem.W.dataLt_all_no (alike_int _ _) (by rw [eqv_int, beq_eq_false_iff_ne]; omega), PySem.W.dataLt_int]
  by_cases hl : t.size < u.size
  · rw [if_pos hl, decide_eq_true (by omega)]
    rfl
  · rw [if_neg hl, decide_eq_false (by omega)]
    rfl
theorem cmp_rpl {m : Md} {t u : Tr} (hs : t.size = u.size) (h : rpl m t.row ≠ rpl m u.row) : cmpT m t u = if rpl m t.row < rpl m u.row then -1 else 1 := by
  unfold cmpT
  rw [if_neg fun e => h (by rw [e]), dKy_eq, dKy_eq m u, PySem.W.dataLt_tuple, PySem.W.dataLt_all_yes (alike_int _ _) (by rw [eqv_int, hs, beq_self_eq_true]), PySem.W.dataLt_all_no (alike_int _ _) (by rw [eqv_int, beq_eq_false_iff_ne]; omega), PySem.W.dataLt_int]
  by_cases hl : rpl m t.row < rpl m u.row
  · rw [if_pos hl, decide_eq_true (by omega)]
    rfl
  · rw [if_neg hl, decide_eq_false (by omega)]
    rfl
theorem lt_diff {m : Md} : ∀ {L M : List Tr} {j : Nat} {c d : Tr}, (∀ x ∈ L, x.Ok m) → (∀ x ∈ M, x.Ok m) → L[j]? = some c → M[j]? = some d → c ≠ d → (∀ i < j, L[i]? = M[i]?) →
    PyProof.Rows.lexLt itemOrd (PySem.W.keyToksAll (L.map (dKy m))) (PySem.W.keyToksAll (M.map (dKy m))) = PySem.W.dataLt (dKy m c) (dKy m d)
  | [], _, j, c, d, _, _, h, _, _, _ => by simp at h
  | _ :: _, [], j, c, d, _, _, _, h, _, _ => by simp at h
  | x :: L, y :: M, 0, c, d, hL, hM, h1, h2, n, _ => by
    cases h1
    cases h2
    rw [List.map_cons, List.map_cons, PySem.W.dataLt_all_no (alike_ky x y) (by rw [eqv_ky (hL x (List.mem_cons_self ..)) (hM y (List.mem_cons_self ..)), decide_eq_false n])]
  | x :: L, y :: M, j + 1, c, d, hL, hM, h1, h2, n, pre => by
    have e : x = y := by
      have := pre 0 (Nat.succ_pos j)
      simpa using this
    subst e
    rw [List.map_cons, List.map_cons, PySem.W.dataLt_all_yes (alike_ky x x) (by rw [eqv_ky (hL x (List.mem_cons_self ..)) (hL x (List.mem_cons_self ..)), decide_eq_true rfl])]
    exact lt_diff (fun z hz => hL z (List.mem_cons_of_mem _ hz)) (fun z hz => hM z (List.mem_cons_of_mem _ hz)) (by simpa using h1) (by simpa using h2) n fun i hi => by
      have := pre (i + 1) (by omega)
      simpa using this
theorem cmp_kid {m : Md} {t u c d : Tr} {j : Nat} (ht : t.Ok m) (hu : u.Ok m) (hs : t.size = u.size) (hr : t.row = u.row) (h1 : t.kids[j]? = some c) (h2 : u.kids[j]? = some d) (n : c ≠ d) (pre : ∀ i < j, t.kids[i]? = u.kids[i]?) : cmpT m t u = cmpT m c d := by
  obtain ⟨_, _, t3⟩ := Tr.ok_iff.mp ht
  obtain ⟨_, _, u3⟩ := Tr.ok_iff.mp hu
  have ne : t ≠ u := fun e => by
    rw [e, h2] at h1
    exact n (Option.some.inj h1).symm
  have lt : PySem.W.dataLt (dKy m t) (dKy m u) = PySem.W.dataLt (dKy m c) (dKy m d) := by
    have ev : PyData.eqv (dKy m c) (dKy m d) = false := by rw [eqv_ky (t3 c (List.mem_of_getElem? h1)) (u3 d (List.mem_of_getElem? h2)), decide_eq_false n]
    have al : PySem.W.alikeAll (t.kids.map (dKy m)) (u.kids.map (dKy m)) = true := alikeAll_map fun c _ d => alike_ky c d
    have ea : PyData.eqvAll (t.kids.map (dKy m)) (u.kids.map (dKy m)) = false := by
      rw [eqvAll_mapM fun c hc d hd => eqv_ky (t3 c hc) (u3 d hd), decide_eq_false]
      exact fun e => ne (Tr.ext hr e)
    rw [dKy_eq, dKy_eq m u, PySem.W.dataLt_tuple, PySem.W.dataLt_all_yes (alike_int _ _) (by rw [eqv_int, hs, beq_self_eq_true]), PySem.W.dataLt_all_yes (alike_int _ _) (by rw [eqv_int, hr, beq_self_eq_true]),
      PySem.W.dataLt_all_no (by rw [PySem.W.alike]; exact al) (by rw [PyData.eqv]; exact ea), PySem.W.dataLt_tuple, lt_diff t3 u3 h1 h2 n pre]
  unfold cmpT
  rw [if_neg ne, if_neg n, lt]
theorem first_diff {α : Type} [DecidableEq α] : ∀ {L M : List α}, L.length = M.length → L ≠ M → ∃ (j : Nat) (c d : α), L[j]? = some c ∧ M[j]? = some d ∧ c ≠ d ∧ ∀ i < j, L[i]? = M[i]?
  | [], [], _, n => absurd rfl n
  | [], _ :: _, h, _ => by cases h
  | _ :: _, [], h, _ => by cases h
  | x :: L, y :: M, h, n => by
    by_cases e : x = y
    · subst e
      obtain ⟨j, c, d, h1, h2, h3, h4⟩ := first_diff (L := L) (M := M) (by simpa using h) fun z => n (by rw [z])
      refine ⟨j + 1, c, d, by simpa using h1, by simpa using h2, h3, fun i hi => ?_⟩
      cases i with
      | zero => rfl
      | succ i => simpa using h4 i (by omega)
    · exact ⟨0, x, y, rfl, rfl, e, fun i hi => absurd hi (Nat.not_lt_zero i)⟩
theorem kids_len {m : Md} {t u : Tr} (ht : t.Ok m) (hu : u.Ok m) (hr : t.row = u.row) : t.kids.length = u.kids.length := by
  have a := congrArg List.length (Tr.ok_iff.mp ht).2.1
  have b := congrArg List.length (Tr.ok_iff.mp hu).2.1
  rw [List.length_map] at a b
  rw [← a, ← b, hr]
theorem cmp_anti {m : Md} {t : Tr} : ∀ {u : Tr}, t.Ok m → u.Ok m → cmpT m u t = 0 - cmpT m t u := by
  induction t using Tr.ind with
  | h t ih =>
  intro u ht hu
  by_cases e : t = u
  · rw [e, cmp_self]
    rfl
  by_cases hs : t.size = u.size
  rotate_left
  · rw [cmp_size hs, cmp_size (Ne.symm hs)]
    by_cases hl : t.size < u.size
    · rw [if_pos hl, if_neg (by omega)]
      rfl
    · rw [if_neg hl, if_pos (by omega)]
      rfl
  by_cases hp : rpl m t.row = rpl m u.row
  rotate_left
  · rw [cmp_rpl hs hp, cmp_rpl hs.symm (Ne.symm hp)]
    by_cases hl : rpl m t.row < rpl m u.row
    · rw [if_pos hl, if_neg (by omega)]
      rfl
    · rw [if_neg hl, if_pos (by omega)]
      rfl
  have hr := rpl_inj (Tr.ok_iff.mp ht).1 (Tr.ok_iff.mp hu).1 hp
  obtain ⟨j, c, d, h1, h2, n, pre⟩ := first_diff (kids_len ht hu hr) fun z => e (Tr.ext hr z)
  rw [cmp_kid ht hu hs hr h1 h2 n pre, cmp_kid hu ht hs.symm hr.symm h2 h1 (Ne.symm n) fun i hi => (pre i hi).symm]
  exact ih c (List.mem_of_getElem? h1) ((Tr.ok_iff.mp ht).2.2 c (List.mem_of_getElem? h1)) ((Tr.ok_iff.mp hu).2.2 d (List.mem_of_getElem? h2))
/-- a place of a row is the place of its name -/
theorem rpl_name {m : Md} (g : Good m) {r : Rw} (h : r ∈ m.rs) : (m.rs.map (·.1))[rpl m r]? = some r.1 := by
  rw [List.getElem?_map, rpl_at h]
  rfl
theorem dep_ky (m : Md) (t : Tr) : ∀ n, t.dep ≤ n → (dKy m t).depth ≤ 4 * n + 2 := by
  induction t using Tr.ind with
  | h t ih =>
  intro n hn
  have dp := dep_pos t
  have dk := dep_all (n := 4 * (n - 1) + 2) (ds := t.kids.map (dKy m)) fun d hd => by
    obtain ⟨c, hc, rfl⟩ := List.mem_map.mp hd
    have := dep_kid hc
    exact ih c hc (n - 1) (by omega)
  have := dep_all (n := 4 * n) (ds := [.int ((t.size : Nat) : Int), .int ((rpl m t.row : Nat) : Int), .tuple (t.kids.map (dKy m))]) fun d hd => by
    simp only [List.mem_cons, List.not_mem_nil, or_false] at hd
    rcases hd with rfl | rfl | rfl
    · rw [PyData.depth]; omega
    · rw [PyData.depth]; omega
    · rw [PyData.depth]; omega
  rw [dKy_eq, PyData.depth]
  omega
end Ks
set_option Elab.async false
set_option linter.all false
set_option maxRecDepth 100000
set_option maxHeartbeats 4000000
namespace Ks
open PySem PySem.Spec PyProof.Rows L2 Gd Kx
/-! ### ranks of trees in their order -/
def tlt (m : Md) (t u : Tr) : Bool := PySem.W.dataLt (dKy m t) (dKy m u)
theorem tlt_irr (m : Md) (t : Tr) : tlt m t t = false := lt_irrefl _
theorem tlt_tr {m : Md} {a b c : Tr} (h1 : tlt m a b = true) (h2 : tlt m b c = true) : tlt m a c = true := lt_trans h1 h2
theorem cmp_tlt {m : Md} {t u : Tr} (h : t ≠ u) : cmpT m t u = if tlt m t u = true then -1 else 1 := by
  unfold cmpT
  rw [if_neg h]
  rfl
theorem tlt_tot {m : Md} {t u : Tr} (ht : t.Ok m) (hu : u.Ok m) (h : t ≠ u) : tlt m u t = !tlt m t u := by
  have a := cmp_anti ht hu
  rw [cmp_tlt h, cmp_tlt (Ne.symm h)] at a
  cases h1 : tlt m t u <;> cases h2 : tlt m u t <;> simp [h1, h2] at a ⊢
theorem tlt_size {m : Md} {t u : Tr} (h : t.size ≠ u.size) : tlt m t u = decide (t.size < u.size) := by
  have ne : t ≠ u := fun e => h (by rw [e])
  have a := cmp_size (m := m) h
  rw [cmp_tlt ne] at a
  by_cases hl : t.size < u.size
  · rw [if_pos hl] at a
    rw [decide_eq_true hl]
    cases h1 : tlt m t u with
    | true => rfl
    | false => rw [h1] at a; simp at a
  · rw [if_neg hl] at a
    rw [decide_eq_false hl]
    cases h1 : tlt m t u with
    | false => rfl
    | true => rw [h1] at a; simp at a
theorem cnt_le {α : Type} {p q : α → Bool} : ∀ {D : List α}, (∀ x ∈ D, p x = true → q x = true) → D.countP p ≤ D.countP q
  | [], _ => Nat.le_refl _
  | x :: D, h => by
    have ih := cnt_le (D := D) fun y hy => h y (List.mem_cons_of_mem _ hy)
    have hx := h x (List.mem_cons_self ..)
    rw [List.countP_cons, List.countP_cons]
    cases e : p x with
    | false => simp; omega
    | true => rw [hx e]; simp; omega
theorem cnt_lt {α : Type} {p q : α → Bool} : ∀ {D : List α}, (∀ x ∈ D, p x = true → q x = true) → (∃ c ∈ D, q c = true ∧ p c = false) → D.countP p < D.countP q
  | [], _, ⟨_, h, _⟩ => by cases h
  | x :: D, h, ⟨c, hc, h1, h2⟩ => by
    have hx := h x (List.mem_cons_self ..)
    rw [List.countP_cons, List.countP_cons]
    rcases List.mem_cons.mp hc with e | hc
    · subst e
      have := cnt_le (D := D) (p := p) (q := q) fun y hy => h y (List.mem_cons_of_mem _ hy)
      rw [h1, h2]
      simp
      omega
    · have ih := cnt_lt (D := D) (fun y hy => h y (List.mem_cons_of_mem _ hy)) ⟨c, hc, h1, h2⟩
      cases e : p x with
      | false => simp; omega
      | true => rw [hx e]; simp; omega
theorem cnt_two {α : Type} {p q r : α → Bool} : ∀ {D : List α}, (∀ x ∈ D, p x = (q x || r x) ∧ (q x && r x) = false) → D.countP p = D.countP q + D.countP r
  | [], _ => rfl
  | x :: D, h => by
    have ih := cnt_two (D := D) fun y hy => h y (List.mem_cons_of_mem _ hy)
    obtain ⟨h1, h2⟩ := h x (List.mem_cons_self ..)
    rw [List.countP_cons, List.countP_cons, List.countP_cons, ih, h1]
    cases e1 : q x <;> cases e2 : r x <;> simp [e1, e2] at h2 ⊢ <;> omega
/-- how many come before -/
def rnk (m : Md) (D : List Tr) (t : Tr) : Nat := D.countP fun u => tlt m u t
section
variable {m : Md} {D : List Tr}
theorem rnk_lt {c d : Tr} (hc : c ∈ D) (h : tlt m c d = true) : rnk m D c < rnk m D d :=
  cnt_lt (fun x _ hx => tlt_tr hx h) ⟨c, hc, h, tlt_irr m c⟩
theorem rnk_tlt (ok : ∀ u ∈ D, u.Ok m) {c d : Tr} (hc : c ∈ D) (hd : d ∈ D) : tlt m c d = decide (rnk m D c < rnk m D d) := by
  by_cases e : c = d
  · rw [e, tlt_irr, decide_eq_false (Nat.lt_irrefl _)]
  · cases h : tlt m c d with
    | true => rw [decide_eq_true (rnk_lt hc h)]
    | false =>
      have h2 := tlt_tot (ok c hc) (ok d hd) e
      rw [h] at h2
      have := rnk_lt hd h2
      rw [decide_eq_false (by omega)]
theorem rnk_inj (ok : ∀ u ∈ D, u.Ok m) {c d : Tr} (hc : c ∈ D) (hd : d ∈ D) (e : rnk m D c = rnk m D d) : c = d := by
  by_cases h : c = d
  · exact h
  · exfalso
    have h1 := rnk_tlt ok hc hd
    have h2 := rnk_tlt ok hd hc
    have h3 := tlt_tot (ok c hc) (ok d hd) h
    rw [h1, h2, decide_eq_false (by omega), decide_eq_false (by omega)] at h3
    cases h3
theorem rnk_cmp (ok : ∀ u ∈ D, u.Ok m) {c d : Tr} (hc : c ∈ D) (hd : d ∈ D) : cmpT m c d = if (rnk m D c : Int) - (rnk m D d : Int) = 0 then 0 else if 0 < (rnk m D c : Int) - (rnk m D d : Int) then 1 else -1 := by
  by_cases e : c = d
  · rw [e, cmp_self, if_pos (by omega)]
  · have n : rnk m D c ≠ rnk m D d := fun h => e (rnk_inj ok hc hd h)
    rw [if_neg (by omega), cmp_tlt e, rnk_tlt ok hc hd]
    by_cases h : rnk m D c < rnk m D d
    · rw [decide_eq_true h]
      rw [if_pos rfl]
      rw [if_neg (by omega)]
    · rw [decide_eq_false h]
      rw [if_neg Bool.false_ne_true]
      rw [if_pos (by omega)]
theorem lex_rk (ok : ∀ u ∈ D, u.Ok m) : ∀ {L M : List Tr}, L.length = M.length → (∀ c ∈ L, c ∈ D) → (∀ c ∈ M, c ∈ D) →
    PyProof.Rows.lexLt itemOrd (PySem.W.keyToksAll (L.map fun c => PyData.int ((rnk m D c : Nat) : Int))) (PySem.W.keyToksAll (M.map fun c => PyData.int ((rnk m D c : Nat) : Int))) = PyProof.Rows.lexLt itemOrd (PySem.W.keyToksAll (L.map (dKy m))) (PySem.W.keyToksAll (M.map (dKy m)))
  | [], [], _, _, _ => rfl
  | [], _ :: _, h, _, _ => by cases h
  | _ :: _, [], h, _, _ => by cases h
  | x :: L, y :: M, h, hL, hM => by
    have ih := lex_rk ok (L := L) (M := M) (by simpa using h) (fun c hc => hL c (List.mem_cons_of_mem _ hc)) (fun c hc => hM c (List.mem_cons_of_mem _ hc))
    have hx := hL x (List.mem_cons_self ..)
    have hy := hM y (List.mem_cons_self ..)
    have ek := eqv_ky (ok x hx) (ok y hy)
    rw [List.map_cons, List.map_cons, List.map_cons, List.map_cons]
    by_cases e : x = y
    · rw [decide_eq_true e] at ek
      subst e
      rw [PySem.W.dataLt_all_yes (alike_int _ _) (by rw [eqv_int, beq_self_eq_true]), PySem.W.dataLt_all_yes (alike_ky x x) ek, ih]
    · rw [decide_eq_false e] at ek
      have n : rnk m D x ≠ rnk m D y := fun h => e (rnk_inj ok hx hy h)
      rw [PySem.W.dataLt_all_no (alike_int _ _) (by rw [eqv_int, beq_eq_false_iff_ne]; omega), PySem.W.dataLt_all_no (alike_ky x y) ek, PySem.W.dataLt_int]
      have := rnk_tlt ok hx hy
      unfold tlt at this
      rw [this, Bool.eq_iff_iff, decide_eq_true_iff, decide_eq_true_iff]
      omega
/-- a tree's key by ranks -/
def kdT (m : Md) (D : List Tr) (a : Nat) (t : Tr) : PyData := .tuple [.int ((rpl m t.row : Nat) : Int), .tuple (t.kids.map fun c => PyData.int ((rnk m D c : Nat) : Int)), .int ((a : Nat) : Int)]
theorem kd_alike (a b : Nat) (t u : Tr) : PySem.W.alike (kdT m D a t) (kdT m D b u) = true := by
  unfold kdT
  rw [PySem.W.alike, PySem.W.alikeAll, PySem.W.alikeAll, PySem.W.alikeAll, alike_int, alike_int, PySem.W.alike, alikeAll_map fun c _ d => alike_int _ _, PySem.W.alikeAll]
  rfl
theorem kd_lt (ok : ∀ u ∈ D, u.Ok m) (kid : ∀ u ∈ D, ∀ c ∈ u.kids, c ∈ D) {t u : Tr} {a b : Nat} (ht : t ∈ D) (hu : u ∈ D) (hs : t.size = u.size) (ne : t ≠ u) : PySem.W.dataLt (kdT m D a t) (kdT m D b u) = tlt m t u := by
  have al : PySem.W.alikeAll (t.kids.map (dKy m)) (u.kids.map (dKy m)) = true := alikeAll_map fun c _ d => alike_ky c d
  have al2 : PySem.W.alikeAll (t.kids.map fun c => PyData.int ((rnk m D c : Nat) : Int)) (u.kids.map fun c => PyData.int ((rnk m D c : Nat) : Int)) = true := alikeAll_map fun c _ d => alike_int _ _
  unfold tlt kdT
  rw [dKy_eq m t, dKy_eq m u, PySem.W.dataLt_tuple, PySem.W.dataLt_tuple, PySem.W.dataLt_all_yes (x := PyData.int ((t.size : Nat) : Int)) (alike_int _ _) (by rw [eqv_int, hs, beq_self_eq_true])]
  by_cases hr : rpl m t.row = rpl m u.row
  · have hrow := rpl_inj (Tr.ok_iff.mp (ok t ht)).1 (Tr.ok_iff.mp (ok u hu)).1 hr
    have nk : t.kids ≠ u.kids := fun e => ne (Tr.ext hrow e)
    have e1 : PyData.eqvAll (t.kids.map (dKy m)) (u.kids.map (dKy m)) = false := by
      rw [eqvAll_mapM fun c hc d hd => eqv_ky (ok c (kid t ht c hc)) (ok d (kid u hu d hd)), decide_eq_false nk]
    have e2 : PyData.eqvAll (t.kids.map fun c => PyData.int ((rnk m D c : Nat) : Int)) (u.kids.map fun c => PyData.int ((rnk m D c : Nat) : Int)) = false := by
      rw [eqvAll_mapM fun c hc d hd => ?_, decide_eq_false nk]
      rw [eqv_int, Bool.eq_iff_iff, beq_iff_eq, decide_eq_true_iff]
      exact ⟨fun h => rnk_inj ok (kid t ht c hc) (kid u hu d hd) (by omega), fun h => by rw [h]⟩
    rw [PySem.W.dataLt_all_yes (alike_int _ _) (by rw [eqv_int, hr, beq_self_eq_true]), PySem.W.dataLt_all_no (by rw [PySem.W.alike]; exact al2) (by rw [PyData.eqv]; exact e2), PySem.W.dataLt_tuple,
      PySem.W.dataLt_all_yes (alike_int _ _) (by rw [eqv_int, hr, beq_self_eq_true]), PySem.W.dataLt_all_no (by rw [PySem.W.alike]; exact al) (by rw [PyData.eqv]; exact e1), PySem.W.dataLt_tuple]
    exact lex_rk ok (kids_len (ok t ht) (ok u hu) hrow) (kid t ht) (kid u hu)
  · rw [PySem.W.dataLt_all_no (alike_int _ _) (by rw [eqv_int, beq_eq_false_iff_ne]; omega), PySem.W.dataLt_all_no (alike_int _ _) (by rw [eqv_int, beq_eq_false_iff_ne]; omega)]
theorem cnt_filter {α : Type} {p q : α → Bool} (D : List α) : (D.filter q).countP p = D.countP fun x => q x && p x := by
  rw [List.countP_filter]
  congr 1
  funext x
  rw [Bool.and_comm]
theorem cnt_pos {K : List Tr} (nd : K.Nodup) (ok : ∀ u ∈ K, u.Ok m) (srt : K.Pairwise fun a b => tlt m b a = false) : ∀ {i : Nat} {t : Tr}, K[i]? = some t → K.countP (fun u => tlt m u t) = i := by
  induction K with
  | nil => intro i t h; simp at h
  | cons x K ih =>
    intro i t h
    rw [List.nodup_cons] at nd
    rw [List.pairwise_cons] at srt
    rw [List.countP_cons]
    cases i with
    | zero =>
      cases h
      rw [tlt_irr, if_neg (by decide), Nat.add_zero, List.countP_eq_zero]
      intro u hu
      rw [srt.1 u hu]
      decide
    | succ i =>
      have h' : K[i]? = some t := by simpa using h
      have ht := List.mem_of_getElem? h'
      have ne : t ≠ x := fun e => nd.1 (e ▸ ht)
      have h1 := srt.1 t ht
      have h2 := tlt_tot (ok t (List.mem_cons_of_mem _ ht)) (ok x (List.mem_cons_self ..)) ne
      rw [h1] at h2
      rw [ih nd.2 (fun u hu => ok u (List.mem_cons_of_mem _ hu)) srt.2 h', h2]
      rfl
/-- a rank: the smaller ones, and the place among those of the same size -/
theorem rnk_pos (nd : D.Nodup) (ok : ∀ u ∈ D, u.Ok m) {s : Nat} {K : List Tr} (perm : K.Perm (D.filter fun u => decide (u.size = s))) (srt : K.Pairwise fun a b => tlt m b a = false) {i : Nat} {t : Tr} (h : K[i]? = some t) :
    rnk m D t = D.countP (fun u => decide (u.size < s)) + i := by
  have ht := perm.mem_iff.mp (List.mem_of_getElem? h)
  obtain ⟨htD, hts⟩ := List.mem_filter.mp ht
  have hts := of_decide_eq_true hts
  have ndK : K.Nodup := perm.nodup_iff.mpr (nd.filter _)
  have okK : ∀ u ∈ K, u.Ok m := fun u hu => ok u (List.mem_filter.mp (perm.mem_iff.mp hu)).1
  have e := cnt_pos ndK okK srt h
  rw [perm.countP_eq, cnt_filter] at e
  unfold rnk
  rw [cnt_two (q := fun u => decide (u.size < s)) (r := fun u => decide (u.size = s) && tlt m u t) fun u hu => ?_, e]
  by_cases h1 : u.size = t.size
  · rw [show u.size = s by omega]
    simp
  · rw [tlt_size h1, hts]
    by_cases h2 : u.size < s
    · simp [h2]
      try omega
    · simp [h2]
      try omega
end
end Ks
set_option Elab.async false
set_option linter.all false
set_option maxRecDepth 100000
set_option maxHeartbeats 4000000
/-! an instance made through a value that is its class, the last fields by a star -/
namespace Gd
open PySem PySem.Spec PyProof.Rows L2 StX
def tMakeV (C : Addr) (sp : Sp) (E : XK) (tf : TE) (t : TA) : TE := fun σ H Q => tf σ H fun y H0 => y = .ref C ∧ t σ H0 fun vs H1 => ∀ x dx, H1 x = Option.none → H1 dx = Option.none → dx ≠ x →
  sp (V.ref x :: vs) (upd (upd H1 dx (.own x)) x (.ins C dx [])) (fun v H2 => v = .non ∧ Q (.ref x) H2) E
section
variable {X : Cx} {CX : CXT} {k i : Nat} {f C : Addr} {sp : Sp} {E : XK} {x : Str} {e fe : Expr} {es : List Expr} {te tf : TE} {t : TA} {p pos : Pos}
theorem pe_makeVS (hf : PE X fe tf) (M : Mk X.K C f) (F : FnR X.prog X.w X.K X.mg X.base CX k f sp) (hr : Room (k + 1) X.A) (hx : Passes CX X E) (ha : PA X (e :: es) t)
    (ht : eval (.Call fe (e :: es) [] pos) X.env = (do callWith pos (← eval fe X.env) [] (backTo pos (starEach (e :: es) X.env)) (backToKw pos (keywordEach [] X.env))) := by rfl)
    (he : starEach (e :: es) X.env = (false, eval e X.env) :: starEach es X.env := by rfl) (hst : (backTo pos (starEach es X.env)).any (·.1) = true := by rfl) : PE X (.Call fe (e :: es) [] pos) (tMakeV C sp E tf t) := by
  refine ⟨fun pins s σ H Q I h => ?_⟩
  refine Call_ (thn (hf.run pins s σ H _ I h) fun u s1 ⟨y, H1, I1, ry, ey, q⟩ => ?_) ht
  subst ey
  obtain rfl : u = Value.ref C := ry
  refine PySem.W.callWith_S2 (h₀ := X.base) I1.ok.mod.kin M.kp (thn (ha.run pos pins s1 σ H1 _ I1 q) fun us s2 ⟨vs, H2, I2, r, q2⟩ => ⟨I2.kIn, ?_⟩) he hst
  exact run_makeR M F hr hx I2 r q2
end
/-! ### v not in x, x an instance -/
def rNotInO (C : Addr) (sp : Sp) (E : XK) : R2 := fun v y H Q => ∃ a dx fs, y = .ref a ∧ H a = some (.ins C dx fs) ∧ sp [.ref a, v] H (fun r H' => ∃ b : Bool, r = .bl b ∧ Q (.bl (!b)) H') E
section
variable {X : Cx} {CX : CXT} {k : Nat} {C f : Addr} {fd : FuncData} {ps : List Str} {sp : Sp} {E : XK}
theorem op_notInO (D : Dm X.K C "__contains__" f) (F : FnOk X.prog X.w X.K X.mg X.base CX k f fd ps sp) (hr : Room k X.A) (hb : Binds X.K fd ps []) (hx : Passes CX X.nox E) : OpR X (compareOp .NotIn) (rNotInO C sp E) := by
  intro pins s σ H x y v u Q I rx ry h
  obtain ⟨a, dx, fs, rfl, ea, q⟩ := h
  obtain rfl : u = Value.ref a := ry
  obtain ⟨mA, J, _⟩ := ins_get I.hok ea
  obtain ⟨od, J, _⟩ := J.look
  obtain ⟨m, hF⟩ := I.fr
  refine PySem.W.notIn_K hF I.ok.mod.kin J D.at_ D.fn (wpAny_mono (run_at F hr I.env0 hb hx I (.cons (show RelV (V.ref a) (Value.ref a) from rfl) (.cons rx .nil)) q) (fun r s' z => ?_) fun _ _ e => e)
  obtain ⟨y, H', I', ry, b, ey, q2⟩ := z
  subst ey
  obtain rfl : r = Value.bool b := ry
  exact wpAny_pure ⟨.bl (!b), H', I', rfl, q2⟩
end
/-! ### a comprehension over zip of two tuples of one length -/
theorem lc_zipT {K : PySem.W.Frag} {a b : Addr} {xs ys : List V} {g : TG} {tt : TT} {te : TE} {vs : List Nat} {σ : L2.St} {H1 : Hp} {D : Addr} {Qd : Hp → Prop} (hl : xs.length = ys.length) (Pv : Nat → Hp → Prop) (h0 : Pv 0 (upd H1 D (.lst []))) (hq : ∀ i H, Pv i H → SqT K H a xs ∧ SqT K H b ys)
    (hs : ∀ (i : Nat) (x y : V) (T : Addr) (H : Hp), xs[i]? = some x → ys[i]? = some y → Pv i H → H T = none → g (.ref T) (wipe σ vs) (upd H T (.tup [x, y])) fun σ2 H2 => wipe σ2 vs = wipe σ vs ∧ tt σ2 H2 fun b H3 =>
      if b = true then te σ2 H3 fun y H4 => ∃ acc, H4 D = some (.lst acc) ∧ acc.length < sizeLine ∧ Pv (i + 1) (upd H4 D (.lst (acc ++ [y]))) else Pv (i + 1) H3) (hd : ∀ H, Pv xs.length H → Qd H) :
    ∃ W : Nat → Nat → Hp → Prop, (∃ m, W 0 m (upd H1 D (.lst []))) ∧ ∀ i m H, W i m H →
      ((RZ.ItzT K a b).stop i H ∧ Qd H) ∨ ((RZ.ItzT K a b).go i H ∧ ∃ Nx : Hp → Prop, (∀ H', Nx H' → ∃ m', m' < m ∧ W (i + 1) m' H') ∧ ∀ x H', (RZ.ItzT K a b).yld i H x H' → g x (wipe σ vs) H' fun σ2 H2 => wipe σ2 vs = wipe σ vs ∧ tt σ2 H2 fun b H3 =>
        if b = true then te σ2 H3 fun y H4 => ∃ acc, H4 D = some (.lst acc) ∧ acc.length < sizeLine ∧ Nx (upd H4 D (.lst (acc ++ [y]))) else Nx H3) := by
  refine ⟨fun i m H => m = xs.length - i ∧ i ≤ xs.length ∧ Pv i H, ⟨xs.length, rfl, Nat.zero_le _, h0⟩, ?_⟩
  rintro i m H ⟨rfl, hi, p⟩
  obtain ⟨qx, qy⟩ := hq i H p
  by_cases hlt : i < xs.length
  · have hx : xs[i]? = some xs[i] := List.getElem?_eq_getElem hlt
    have hlt2 : i < ys.length := by omega
    have hy : ys[i]? = some ys[i] := List.getElem?_eq_getElem hlt2
    refine .inr ⟨⟨xs, ys, _, _, qx, qy, hx, hy⟩, Pv (i + 1), fun H' p' => ⟨xs.length - (i + 1), by omega, rfl, hlt, p'⟩, fun v H' y => ?_⟩
    obtain ⟨T, x', y', rfl, hT, rfl, f1, f2⟩ := y
    exact hs i x' y' T H (f1 xs qx) (f2 ys qy) p hT
  · have e : i = xs.length := by omega
    subst e
    exact .inl ⟨⟨xs, ys, qx, qy, Or.inl (Nat.le_refl _)⟩, hd H p⟩
/-! ### C.m(k = v, ..), m a classmethod: keywords alone -/
def tCMethK (C : Addr) (sp : Sp) (gV : List V → List V → List V) (E : XK) (ta : TE) (tk : TA) : TE := fun σ H Q => ta σ H fun x H1 => x = .ref C ∧ tk σ H1 fun zs H2 => sp (gV [.ref C] zs) H2 Q E
section
variable {X : Cx} {CX : CXT} {k : Nat} {C p f : Addr} {mc : Value} {fd : FuncData} {ps ks : List Str} {sp : Sp} {E : XK} {ta : TE} {tk : TA} {o : Expr} {m : Str} {apos pos : Pos} {kws : List Keyword} {g : List Value → List Value → List Value} {gV : List V → List V → List V}
theorem run_fnkC {pins : List (Addr × Obj)} {σ : L2.St} {H : Hp} {s : Shared} {Q : VK} {us ws : List Value} {vs zs : List V} (F : FnOk X.prog X.w X.K X.mg X.base CX k f fd ps sp) (hr : Room k X.A) (hb : KBinds X.K fd ps ks g gV) (hx : Passes CX X E)
    (I : Inv X pins σ H s) (r : Vals vs us) (rz : Vals zs ws) (h : sp (gV vs zs) H Q E) : codeAny (model X.prog X.w) X.A (.call (.ref f) ⟨us, ks.zip ws⟩) (fun r s' => match r with | .ok (.ret v) => EP X pins σ Q v s' | .ok _ => False | .error e => X.xe e s') s := by
  have r2 := hb.rel r rz
  have hl : (g us ws).length = ps.length := by rw [← r2.length]; exact F.len _ _ _ _ h
  refine codeAny_mono (F.run X.A X.stack s H ⟨us, ks.zip ws⟩ (g us ws) (gV vs zs) Q E hr I.env0 (hb.to s us ws I.kIn hl) r2 h) fun r s' hq => ?_
  cases r with
  | error e => exact hx pins σ H s e s' I hq
  | ok fl =>
    cases fl with
    | ret u => exact I.after hq
    | next => exact False.elim hq
    | brk => exact False.elim hq
    | cont => exact False.elim hq
theorem pe_cmethK0 {pl : Sem Bool} (he : PE X o ta) (rd : ClX.CRead X.K C mc) (c : ClX.CMet X.K C mc m p f) (F : FnOk X.prog X.w X.K X.mg X.base CX k f fd ps sp) (hr : Room k X.A) (hb : KBinds X.K fd ps ks g gV) (hx : Passes CX X E)
    (hkw : PK X kws tk) (hall : (backToKw pos (keywordEach kws X.env)).all (·.1.isSome) = true := by rfl) (hks : (backToKw pos (keywordEach kws X.env)).filterMap (·.1) = ks := by rfl)
    (hpl : ((backTo pos (starEach [] X.env)).any (·.1) || (backToKw pos (keywordEach kws X.env)).any (·.1.isNone)) = false := by rfl)
    (ht : eval (.Call (.Attribute o m apos) [] kws pos) X.env = (do
      let ov ← eval o X.env
      standAt apos.atName
      let (f, first) ← holding [ov] (getMethod ov m pl)
      callWith pos f first (backTo pos (starEach [] X.env)) (backToKw pos (keywordEach kws X.env))) := by rfl) :
    PE X (.Call (.Attribute o m apos) [] kws pos) (tCMethK C sp gV E ta tk) := by
  refine ⟨fun pins s σ H Q I h => ?_⟩
  refine PySem.W.methodCall_KW (pl := pl) (thn (he.run pins s σ H _ I h) fun u s1 ⟨x, H1, I1, rx, ex, q⟩ => ?_) ht
  subst ex
  obtain rfl : u = Value.ref C := rx
  refine ClX.getmethcm_ok I1 rd c fun s2 I2 => ?_
  refine PySem.W.callWith_of (P := PySem.W.MethP X.K _ f (.ref C)) hpl (PySem.W.keeps_M c.fi) (evalArgs_kw2_nil hall (thn (hkw.run pos _ s2 σ H1 _ I2 q) fun us s3 ⟨zs, H2, I3, rz, q2⟩ => ⟨⟨ClX.pin_at I3, I3.kIn⟩, ?_⟩))
  rw [hks]
  have z : wpAny (model X.prog X.w) X.A (call (.ref s1.heap.objs.size) [] (ks.zip us)) (EP X ((s1.heap.objs.size, PySem.W.methodObj (.ref f) (.ref C)) :: pins) σ Q) X.xe s3 :=
    wpAny_call (PySem.W.method_call (ClX.pin_at I3) (run_fnkC (us := [.ref C]) (vs := [.ref C]) F hr hb hx I3 (.cons rfl .nil) rz q2))
  exact thn z fun _ _ y => ClX.unpinE y
end
end Gd
set_option Elab.async false
set_option linter.all false
set_option maxRecDepth 100000
set_option maxHeartbeats 4000000
namespace Ks
open PySem PySem.Spec PyProof.Rows L2 Gd Kx
/-! ### trees made of rows -/
abbrev sIint : Stmt := Kx.topS 36
abbrev sInum : Stmt := Kx.topS 37
abbrev sIrw : Stmt := Kx.topS 46
abbrev sCrw : Stmt := Kx.topS 47
abbrev nIrw : List Str := ["schema", "row", "kinds", "name", "numbers", "wanted", "last", "at", "kind"]
abbrev nCrw : List Str := ["schema", "rows", "kinds", "index", "row"]
abbrev nOfr : List Str := ["cls", "schema", "rows", "made", "name", "numbers", "fields", "number"]
theorem scIint : FnScope ["value"] ["value"] (defScope sIint) := ⟨rfl, rfl, rfl, by decide +kernel, rfl, by decide +kernel, by decide +kernel⟩
theorem scInum : FnScope ["value", "least", "most"] ["value", "least", "most"] (defScope sInum) := ⟨rfl, rfl, rfl, by decide +kernel, rfl, by decide +kernel, by decide +kernel⟩
theorem scIrw : FnScope nIrw ["schema", "row", "kinds"] (defScope sIrw) := ⟨rfl, rfl, rfl, by decide +kernel, rfl, by decide +kernel, by decide +kernel⟩
theorem scCrw : FnScope nCrw ["schema", "rows"] (defScope sCrw) := ⟨rfl, rfl, rfl, by decide +kernel, rfl, by decide +kernel, by decide +kernel⟩
theorem scOfr : FnScope nOfr ["cls", "schema", "rows"] (defScope (cT 1)) := ⟨rfl, rfl, rfl, by decide +kernel, rfl, by decide +kernel, by decide +kernel⟩
/-- these rows build these trees, one behind the other -/
structure Bld (m : Md) (rs : List Rn) (ts : List Tr) : Prop where
  len : rs.length = ts.length
  ok : ∀ t ∈ ts, t.Ok m
  at_ : ∀ (i : Nat) (r : Rn) (t : Tr), rs[i]? = some r → ts[i]? = some t → t.row.1 = r.1 ∧ r.2.length = t.kids.length ∧ ∀ (j n : Nat) (c : Tr), r.2[j]? = some n → t.kids[j]? = some c → n < i ∧ ts[n]? = some c
structure TsN (mg : Str → Option Value) : Prop where
  int : mg "int" = none
  bool : mg "bool" = none
  zip : mg "zip" = none
section
variable {P : Program} {w : World} {K : PySem.W.Frag} {mg : Str → Option Value} {base : Heap} {CT CS : Addr}
def spIint : Sp := fun vs H Q _ => ∃ n : Int, vs = [.int n] ∧ Q (.bl true) H
theorem ok_iint {f : Addr} {fd : FuncData} (F : Fun K "is_integer" "is_integer" sIint f fd) (T : TS0 mg) (N : TsN mg) : FnOk P w K mg base CX0 1 f fd ["value"] spIint := by
  refine F.ok scIint (fun vs H Q E h => ?_) (fun cv A ou s H vs Q E hr h => ?_)
  · obtain ⟨n, rfl, _⟩ := h
    rfl
  obtain ⟨n, rfl, q⟩ := h
  refine ⟨_, pss_one (ps_ret (pe_and (pe_callB call_isi (by rfl) T.isi boot_isinstance (pa_cons (pv 0) (pa_cons (pe_bltn (v := .ty "int") (by rfl) N.int boot_int rfl) pa_nil)))
    (pe_one (pe_not (pe_callB call_isi (by rfl) T.isi boot_isinstance (pa_cons (pv 0) (pa_cons (pe_bltn (v := .ty "bool") (by rfl) N.bool boot_bool rfl) pa_nil))))))), ?_⟩
  refine ⟨.int n, rfl, .int n, .ty "int", _, _, true, rfl, .ty "int", .base (.int n), kit_ty (by decide +kernel), _, rfl, iteT ?_⟩
  exact ⟨.int n, rfl, .int n, .ty "bool", _, _, false, rfl, .ty "bool", .base (.int n), kit_ty (by decide +kernel), _, rfl, q⟩
def spInum : Sp := fun vs H Q _ => ∃ n a b : Int, vs = [.int n, .int a, .int b] ∧ Q (.bl (decide (a ≤ n) && decide (n ≤ b))) H
theorem ok_inum {f fi : Addr} {fd fdi : FuncData} (F : Fun K "is_number" "is_number" sInum f fd)
    (GI : FnOk P w K mg base CX0 1 fi fdi ["value"] spIint) (ki : PySem.W.keepIn K (.ref fi) = true) (bI : Binds K fdi ["value"] []) (gI : mg "is_integer" = some (.ref fi)) : FnOk P w K mg base CX0 2 f fd ["value", "least", "most"] spInum := by
  refine F.ok scInum (fun vs H Q E h => ?_) (fun cv A ou s H vs Q E hr h => ?_)
  · obtain ⟨n, a, b, rfl, _⟩ := h
    rfl
  obtain ⟨n, a, b, rfl, q⟩ := h
  refine ⟨_, pss_one (ps_ret (pe_and (pe_call GI hr (by rfl) gI ki bI .nil pass0 (pa_cons (pv 0) pa_nil)) (pe_one (pe_chain op_le op_le (pv 1) (pv 0) (pv 2))))), ?_⟩
  refine ⟨.int n, rfl, n, rfl, _, rfl, iteT ⟨.int a, rfl, .int n, rfl, _, _, rfl, rfl, _, rfl, ?_⟩⟩
  by_cases h1 : a ≤ n
  · rw [decide_eq_true h1] at q ⊢
    exact iteT ⟨.int b, rfl, _, _, rfl, rfl, q⟩
  · rw [decide_eq_false h1] at q ⊢
    exact iteF q
/-- a row, and the tree that it makes -/
def spIrw (CS : Addr) : Sp := fun vs H Q _ => ∃ (s L : Addr) (x : V) (m : Md) (r : Rn) (t : Tr) (ks : List Str), vs = [.ref s, x, .ref L] ∧ ScAt CS H s m ∧ Good m ∧ RowN H x r ∧ t.Ok m ∧ t.row.1 = r.1 ∧ r.2.length = t.kids.length ∧ H L = some (.lst (ks.map V.str)) ∧ ks.length ≤ 200 ∧
  (∀ (j n : Nat) (c : Tr), r.2[j]? = some n → t.kids[j]? = some c → ks[n]? = some c.row.2.1) ∧ ∀ H', Same H H' → Q (.bl true) H'
set_option maxHeartbeats 8000000 in
theorem ok_irw {f fi fcn : Addr} {fd fdi dcn : FuncData} (F : Fun K "_is_row" "_is_row" sIrw f fd) (T : TS0 mg) (N : TsN mg) (S : Sch P w K mg base CS)
    (Dcn : Dm K CS "__contains__" fcn) (Fcn : FnOk P w K mg base CX0 2 fcn dcn ["self", "value"] (spCn K CS)) (bcn : Binds K dcn ["self", "value"] [])
    (GI : FnOk P w K mg base CX0 2 fi fdi ["value", "least", "most"] spInum) (ki : PySem.W.keepIn K (.ref fi) = true) (bI : Binds K fdi ["value", "least", "most"] []) (gI : mg "is_number" = some (.ref fi)) :
    FnOk P w K mg base CX0 4 f fd ["schema", "row", "kinds"] (spIrw CS) := by
  refine F.ok scIrw (fun vs H Q E h => ?_) (fun cv A ou s H vs Q E hr h => ?_)
  · obtain ⟨s, L, x, m, r, t, ks, rfl, _⟩ := h
    rfl
  obtain ⟨sa, L, x, m, r, t, ks, rfl, hs, g, ⟨b, q0, rfl, eb, eq0⟩, ok, en, ln, eL, lk, kk, q⟩ := h
  obtain ⟨Z, _, _, _, ⟨fco, dco, Mco, Fco, bco⟩⟩ := S
  have hr2 : Room 2 (A.deeper (envOfC "_is_row" (defScope sIrw) s.heap.objs.size f cv)) := hr.mono (by decide)
  refine ⟨_, pss_cons (ps_if (PW.pt (pw_or (pt_not (pt_val (pe_callB call_isi (by rfl) T.isi boot_isinstance (pa_cons (pv 1) (pa_cons (pe_bltn (v := .ty "tuple") (by rfl) T.tup boot_tuple rfl) pa_nil)))))
        (pw_or1 (pt_cmpR op_ne (pe_callB call_len_seq (by rfl) T.len PySem.boot_len (pa_cons (pv 1) pa_nil)) pe_int (nomark _))))) (pss_one (ps_ret pe_bl)) pss_nil)
    (pss_cons (ps_asg (pv 1) (pg_tup (by rfl) (pgs_cons (pg_name (i := 3) scIrw.nd rfl (.inl rfl)) (pgs_cons (pg_name (i := 4) scIrw.nd rfl (.inl rfl)) pgs_nil))))
    (pss_cons (ps_if (PW.pt (pw_or (pt_cmpR (op_notInO Dcn Fcn hr2 bcn pass0) (pv 3) (pv 0) (by rfl))
        (pw_or1 (pt_not (pt_val (pe_callB call_isi (by rfl) T.isi boot_isinstance (pa_cons (pv 4) (pa_cons (pe_bltn (v := .ty "tuple") (by rfl) T.tup boot_tuple rfl) pa_nil)))))))) (pss_one (ps_ret pe_bl)) pss_nil)
    (pss_cons (ps_set (i := 5) scIrw.nd rfl (.inl rfl) (pe_ix ix_tup (pe_meth (pv 0) Z.cls Mco Fco hr bco .nil pass0 (pa_cons (pv 3) pa_nil)) pe_int (fun _ _ => rfl)))
    (pss_cons (ps_if (pt_cmpR op_ne (pe_callB call_len_seq (by rfl) T.len PySem.boot_len (pa_cons (pv 4) pa_nil)) (pe_callB call_len_seq (by rfl) T.len PySem.boot_len (pa_cons (pv 5) pa_nil)) (nomark _)) (pss_one (ps_ret pe_bl)) pss_nil)
    (pss_cons (ps_set (i := 6) scIrw.nd rfl (.inr rfl) (pe_op op_sub (pe_callB call_len_seq (by rfl) T.len PySem.boot_len (pa_cons (pv 2) pa_nil)) pe_int))
    (pss_one (ps_ret (pe_callB (cr_all rfl) (by rfl) T.all boot_all (pa_cons (pe_lc (own := [("at", 7), ("kind", 8)]) (g := gTup K 2 (gCons (gName 7) (gCons (gName 8) gNil))) (tt := tYes) (by rfl) scIrw.nd
        (RZ.pi_zipA (by rfl) N.zip (pa_cons (pv 4) (pa_cons (pv 5) pa_nil))) (blkOk_by (own := [("at", 7), ("kind", 8)]) (N := nIrw) (sc := defScope sIrw) (by decide +kernel))
        (fun _ _ _ _ _ => pg_tup (by rfl) (pgs_cons (pg_name (i := 7) scIrw.nd rfl (Or.inl rfl)) (pgs_cons (pg_name (i := 8) scIrw.nd rfl (Or.inl rfl)) pgs_nil))) (fun _ _ _ _ _ => pts_nil)
        (fun _ _ _ _ _ => asTE (te := tAndV (tCall spInum [] E0 (tCons (tVar 7) (tCons (tC (.int 0)) (tCons (tVar 6) tNil)))) (tOp rEq (tOp (rIxL K) (tVar 2) (tVar 7)) (tVar 8))) (pe_and (pe_call GI hr2 (by rfl) gI ki bI .nil pass0 (pa_cons (pv 7) (pa_cons pe_int (pa_cons (pv 6) pa_nil)))) (pe_one (pe_cmpR op_eq (pe_ix ix_list (pv 2) (pv 7) (fun _ _ => rfl)) (pv 8) (nomark _)))) rfl)) pa_nil))))))))), ?_⟩
  obtain ⟨o1, o2, o3⟩ := Tr.ok_iff.mp ok
  obtain ⟨pl, epl⟩ : ∃ pl : Nat, m.rs[pl]? = some t.row := by
    obtain ⟨j, hj, e⟩ := List.getElem_of_mem o1
    exact ⟨j, by rw [List.getElem?_eq_getElem hj, e]⟩
  have ezn : (m.rs.map (·.1))[pl]? = some r.1 := by rw [List.getElem?_map, epl, ← en]; rfl
  obtain ⟨dS, kA, cA, nA, ⟨dp, ea, edp⟩, ak, ac, an⟩ := id hs
  obtain ⟨ys, eac, pac⟩ := id ac
  obtain ⟨y, ey, vy⟩ := rows_has' pac epl
  obtain ⟨rb, fb, rfl, erb, efb⟩ := id vy
  have k3 := t.kids3
  have lq : (nsV r.2).length = r.2.length := List.length_map ..
  have lf : (t.row.2.2.map V.str).length = t.kids.length := by rw [List.length_map, o2, List.length_map]
  refine ⟨.ref b, rfl, .ref b, .ty "tuple", _, _, true, rfl, .ty "tuple", .base (.tup eb), kit_ty (by decide +kernel), _, rfl, iteF ?_⟩
  refine ⟨.ref b, rfl, b, _, rfl, .inr (SqT.of eb), rfl, _, rfl, ?_⟩
  rw [show (!decide (V.int (([V.str r.1, V.ref q0].length : Nat) : Int) = V.int 2)) = false by rw [show ([V.str r.1, V.ref q0].length : Nat) = 2 from rfl]; rfl]
  refine iteF ?_
  refine ⟨.ref b, rfl, b, _, rfl, SqT.of eb, rfl, _, _, rfl, _, _, rfl, rfl, ?_⟩
  -- the name and the numbers
  refine ⟨.str r.1, rfl, .ref sa, rfl, sa, dS, _, rfl, ea, sa, kA, cA, nA, .str r.1, _, true, rfl, ⟨dS, _, ⟨dp, ea, edp⟩, an⟩, an, .inl ⟨r.1, rfl, (decide_eq_true (List.mem_of_getElem? ezn)).symm⟩, true, rfl, ?_⟩
  refine ⟨_, rfl, iteF ⟨.ref q0, rfl, .ref q0, .ty "tuple", _, _, true, rfl, .ty "tuple", .base (.tup eq0), kit_ty (by decide +kernel), _, rfl, iteF ?_⟩⟩
  -- what is wanted
  refine ⟨.ref sa, rfl, sa, dS, _, rfl, ea, rfl, .str r.1, rfl, sa, kA, cA, nA, _, ys, r.1, pl, .ref rb, rfl, ⟨dS, _, ⟨dp, ea, edp⟩, an⟩, an, g.rd, ezn, eac, ey, ?_⟩
  refine ⟨rb, _, _, .ref fb, rfl, rfl, SqT.of erb, rfl, ?_⟩
  refine ⟨.ref q0, rfl, q0, _, rfl, .inr (SqT.of eq0), .ref fb, rfl, fb, _, rfl, .inr (SqT.of efb), rfl, _, rfl, ?_⟩
  rw [show (!decide (V.int (((nsV r.2).length : Nat) : Int) = V.int (((t.row.2.2.map V.str).length : Nat) : Int))) = false by rw [lq, lf, ln, decide_eq_true rfl]; rfl]
  refine iteF ⟨.ref L, rfl, L, _, rfl, .inl (SqL.of eL), _, _, rfl, rfl, ?_⟩
  have lks : (ks.map V.str).length = ks.length := List.length_map ..
  rw [lks]
  refine ⟨.ref q0, rfl, .ref fb, rfl, q0, fb, nsV r.2, t.row.2.2.map V.str, rfl, .inr ⟨SqT.of eq0, SqT.of efb, fun D nD => lc_zipT (K := K) (a := q0) (b := fb) (xs := nsV r.2) (ys := t.row.2.2.map V.str) (by rw [lq, lf, ln]) (fun i H' => i ≤ 3 ∧ Same H H' ∧ H' D = some (.lst ((List.replicate i true).map V.bl))) ⟨by omega, same_new nD, upd_same⟩ (fun i H' p => ⟨SqT.of (p.2.1 _ _ eq0), SqT.of (p.2.1 _ _ efb)⟩) (fun i x y U H' hx hy p nU => ?_) (fun H' p => ?_)⟩⟩
  · obtain ⟨i3, s1, eD⟩ := p
    unfold nsV at hx
    rw [List.getElem?_map] at hx
    cases hn : r.2[i]? with
    | none => rw [hn] at hx; cases hx
    | some n =>
      rw [hn] at hx
      cases hx
      have hi : i < t.kids.length := by
        have := (List.getElem?_eq_some_iff.mp hn).1
        omega
      have hc : t.kids[i]? = some (t.kids[i]) := List.getElem?_eq_getElem hi
      rw [List.getElem?_map, o2, List.getElem?_map, hc] at hy
      cases hy
      have hkn := kk i n _ hn hc
      have hnl := (List.getElem?_eq_some_iff.mp hkn).1
      have sU := same_new (o := .tup [.int ((n : Nat) : Int), .str (t.kids[i]).row.2.1]) nU
      have s2 := s1.trans sU
      refine ⟨U, _, rfl, SqT.of upd_same, rfl, _, _, rfl, _, _, rfl, rfl, rfl, Gd.yes_if ?_⟩
      refine ⟨.int ((n : Nat) : Int), rfl, .int (((ks.length : Nat) : Int) - 1), rfl, _, _, _, rfl, _, rfl, ?_⟩
      rw [decide_eq_true (show (0 : Int) ≤ ((n : Nat) : Int) by omega), decide_eq_true (show ((n : Nat) : Int) ≤ ((ks.length : Nat) : Int) - 1 by omega)]
      refine iteT ⟨.ref L, rfl, .int ((n : Nat) : Int), rfl, L, _, _, .str (t.kids[i]).row.2.1, rfl, rfl, SqL.of (s2 _ _ eL), atI_nat (by rw [List.getElem?_map, hkn]; rfl), .str (t.kids[i]).row.2.1, rfl, rfl, ?_⟩
      rw [decide_eq_true rfl]
      refine ⟨_, sU _ _ eD, ?_, by omega, same_upd s2 nD, ?_⟩
      · rw [List.length_map, List.length_replicate]
        exact small1000 (by omega)
      · rw [upd_same, List.replicate_succ', List.map_append]
        rfl
  · obtain ⟨_, s1, eD⟩ := p
    refine ⟨D, List.replicate (nsV r.2).length true, rfl, SqL.of eD, ?_⟩
    rw [show (List.replicate (nsV r.2).length true).all id = true from List.all_eq_true.mpr fun x hx => by rw [(List.mem_replicate.mp hx).2]; rfl]
    exact q H' s1
def spCrw (CS : Addr) : Sp := fun vs H Q _ => ∃ (s R : Addr) (m : Md) (rs : List Rn) (ts : List Tr), vs = [.ref s, .ref R] ∧ ScAt CS H s m ∧ Good m ∧ RwsT H R rs ∧ Bld m rs ts ∧ 1 ≤ rs.length ∧ rs.length ≤ 200 ∧ ∀ H', Same H H' → Q .non H'
set_option maxHeartbeats 8000000 in
theorem ok_crw {f fi : Addr} {fd fdi : FuncData} (F : Fun K "check_rows" "check_rows" sCrw f fd) (T : TS0 mg) (mM : ∃ t, mg "MOST_ROWS" = some (.int 200 t)) (S : Sch P w K mg base CS)
    (GI : FnOk P w K mg base CX0 4 fi fdi ["schema", "row", "kinds"] (spIrw CS)) (ki : PySem.W.keepIn K (.ref fi) = true) (bI : Binds K fdi ["schema", "row", "kinds"] []) (gI : mg "_is_row" = some (.ref fi)) :
    FnOk P w K mg base CX0 5 f fd ["schema", "rows"] (spCrw CS) := by
  refine F.ok scCrw (fun vs H Q E h => ?_) (fun cv A ou s H vs Q E hr h => ?_)
  · obtain ⟨s, R, m, rs, ts, rfl, _⟩ := h
    rfl
  obtain ⟨sa, R, m, rs, ts, rfl, hs, g, ⟨xs, eR, pR⟩, bd, r1, r200, q⟩ := h
  obtain ⟨Z, _, _, _, ⟨fco, dco, Mco, Fco, bco⟩⟩ := S
  obtain ⟨tM, mM⟩ := mM
  have hr3 : Room 3 (A.deeper (envOfC "check_rows" (defScope sCrw) s.heap.objs.size f cv)) := hr.mono (by decide)
  have lx : xs.length = rs.length := Paired.length pR
  refine ⟨_, pss_cons (ps_if (PW.pt (pw_or (pt_not (pt_val (pe_callB call_isi (by rfl) T.isi boot_isinstance (pa_cons (pv 1) (pa_cons (pe_bltn (v := .ty "tuple") (by rfl) T.tup boot_tuple rfl) pa_nil)))))
        (pw_or1 (pt_not (pt_chain op_le op_le pe_int (pe_callB call_len_seq (by rfl) T.len PySem.boot_len (pa_cons (pv 1) pa_nil)) (pe_glob (v := .int 200) (by rfl) mM ⟨_, rfl⟩)))))) pss_never pss_nil)
    (pss_cons (ps_set (i := 2) scCrw.nd rfl (.inl rfl) (pe_lst pa_nil))
    (pss_one (ps_for PassesOwn.never rfl (pi_enT (by rfl) T.enu (pa_cons (pv 1) pa_nil)) (pg_tup rfl (pgs_cons (pg_name (i := 3) scCrw.nd rfl (.inl rfl)) (pgs_cons (pg_name (i := 4) scCrw.nd rfl (.inl rfl)) pgs_nil)))
      (pss_cons (ps_if (pt_not (pt_val (pe_call GI hr (by rfl) gI ki bI .nil pass0 (pa_cons (pv 0) (pa_cons (pv 4) (pa_cons (pv 2) pa_nil)))))) pss_never pss_nil)
      (pss_one (ps_expr (pe_bm PySem.F.plainAttrs_list PySem.F.slot_list_append PySem.F.type_list_append mt_append (pv 2) (pa_cons (pe_ix ix_tup (pe_meth (pv 0) Z.cls Mco Fco hr3 bco .nil pass0 (pa_cons (pe_ix ix_tup (pv 4) pe_int (fun _ _ => rfl)) pa_nil)) pe_int (fun _ _ => rfl)) pa_nil)))))))), ?_⟩
  refine ⟨.ref R, rfl, .ref R, .ty "tuple", _, _, true, rfl, .ty "tuple", .base (.tup eR), kit_ty (by decide +kernel), _, rfl, iteF ?_⟩
  refine ⟨.ref R, rfl, R, _, rfl, .inr (SqT.of eR), _, _, rfl, rfl, _, rfl, ?_⟩
  rw [decide_eq_true (show (1 : Int) ≤ ((xs.length : Nat) : Int) by omega)]
  refine iteT ⟨_, _, rfl, rfl, _, rfl, ?_⟩
  rw [decide_eq_true (show ((xs.length : Nat) : Int) ≤ 200 by omega)]
  refine iteF ⟨(by show 0 ≤ sizeLine; exact Nat.zero_le _), fun L nL => ?_⟩
  refine ⟨.ref R, rfl, R, _, rfl, SqT.of (same_new nL _ _ eR), for_enT (K := K) (t := R) (xs := xs) (fun i σ H' => ∃ o3 o4 : Option V, σ = [some (.ref sa), some (.ref R), some (.ref L), o3, o4] ∧ Same H H' ∧ H' L = some (.lst (((ts.take i).map (·.row.2.1)).map V.str))) ⟨none, none, rfl, same_new nL, upd_same⟩ (fun i σ H' _ p => ?_) ?_ ?_⟩
  · obtain ⟨_, _, _, s1, _⟩ := p
    exact SqT.of (s1 _ _ eR)
  · rintro i x σ H1 p hx ⟨o3, o4, rfl, s1, eL⟩ np
    obtain ⟨r, hr2, hrow⟩ := par_at pR hx
    have hi : i < rs.length := (List.getElem?_eq_some_iff.mp hr2).1
    have hit : i < ts.length := by rw [← bd.len]; exact hi
    have ht : ts[i]? = some ts[i] := List.getElem?_eq_getElem hit
    obtain ⟨en, ln, kk⟩ := bd.at_ i r _ hr2 ht
    have okt := bd.ok _ (List.mem_of_getElem? ht)
    have s2 : Same H1 (upd H1 p (.tup [.int (i : Nat), x])) := same_new np
    have sA := s1.trans s2
    have hrow1 := RowN.keep hrow sA
    refine ⟨p, _, rfl, SqT.of upd_same, rfl, _, _, rfl, _, _, rfl, rfl, ?_⟩
    refine ⟨.ref sa, rfl, x, rfl, .ref L, rfl, sa, L, x, m, r, ts[i], (ts.take i).map (·.row.2.1), rfl, hs.keep sA, g, hrow1, okt, en, ln, s2 _ _ eL, by rw [List.length_map, List.length_take]; omega, fun j n c e1 e2 => ?_, fun H2 s3 => ⟨true, rfl, iteF ?_⟩⟩
    · obtain ⟨hn, hc⟩ := kk j n c e1 e2
      rw [List.getElem?_map, List.getElem?_take, if_pos hn, hc]
      rfl
    have sB := sA.trans s3
    have eL2 := s3 _ _ (s2 _ _ eL)
    obtain ⟨b, q0, rfl, eb, eq0⟩ := RowN.keep hrow sB
    obtain ⟨o1, o2, o3'⟩ := Tr.ok_iff.mp okt
    obtain ⟨pl, epl⟩ : ∃ pl : Nat, m.rs[pl]? = some ts[i].row := by
      obtain ⟨j, hj, e⟩ := List.getElem_of_mem o1
      exact ⟨j, by rw [List.getElem?_eq_getElem hj, e]⟩
    have ezn : (m.rs.map (·.1))[pl]? = some r.1 := by rw [List.getElem?_map, epl, ← en]; rfl
    obtain ⟨dS, kA, cA, nA, ⟨dp, ea, edp⟩, ak, ac, an⟩ := hs.keep sB
    obtain ⟨ys, eac, pac⟩ := id ac
    obtain ⟨y, ey, vy⟩ := rows_has' pac epl
    obtain ⟨rb, fb, rfl, erb, efb⟩ := id vy
    refine ⟨.ref L, rfl, .inl ⟨rfl, _, SqL.of eL2⟩, .ref sa, rfl, sa, dS, _, rfl, ea, rfl, .ref b, rfl, b, _, _, .str r.1, rfl, rfl, SqT.of eb, rfl, sa, kA, cA, nA, _, ys, r.1, pl, .ref rb, rfl, ⟨dS, _, ⟨dp, ea, edp⟩, an⟩, an, g.rd, ezn, eac, ey, rb, _, _, .str ts[i].row.2.1, rfl, rfl, SqT.of erb, rfl, L, _, _, rfl, rfl, eL2, ?_, _, _, rfl, same_upd sB nL, ?_⟩
    · rw [List.length_map, List.length_map, List.length_take]
      exact small1000 (by omega)
    · rw [upd_same, List.take_add_one, ht, Option.toList_some, List.map_append, List.map_append]
      rfl
  · rintro σ H1 ⟨o3, o4, rfl, s1, _⟩
    exact q H1 s1
theorem nodup_len {α : Type} [DecidableEq α] : ∀ {l l' : List α}, l.Nodup → (∀ x ∈ l, x ∈ l') → l.length ≤ l'.length
  | [], _, _, _ => Nat.zero_le _
  | x :: l, l', h, s => by
    obtain ⟨h1, h2⟩ := List.nodup_cons.mp h
    have hx : x ∈ l' := s x (List.mem_cons_self ..)
    have ih := nodup_len (l := l) (l' := l'.erase x) h2 fun y hy => (List.mem_erase_of_ne (fun e => by rw [e] at hy; exact h1 hy)).mpr (s y (List.mem_cons_of_mem _ hy))
    have e := List.length_erase_of_mem hx
    have p := List.length_pos_of_mem hx
    rw [List.length_cons]
    omega
theorem Bld.post {m : Md} {rs : List Rn} {ts : List Tr} (b : Bld m rs ts) : ∀ (t : Tr) (i : Nat), ts[i]? = some t → ∀ u ∈ t.post, u ∈ ts.take (i + 1) := by
  intro t
  induction t using Tr.ind with
  | h t ih =>
  intro i hi u hu
  rw [Tr.post_eq] at hu
  have hil := (List.getElem?_eq_some_iff.mp hi).1
  rcases List.mem_append.mp hu with h | h
  · obtain ⟨c, hc, hu'⟩ := List.mem_flatMap.mp h
    obtain ⟨j, hj, ej⟩ := List.getElem_of_mem hc
    have er : rs[i]? = some (rs[i]'(by rw [b.len]; exact hil)) := List.getElem?_eq_getElem _
    obtain ⟨_, l2, kk⟩ := b.at_ i _ t er hi
    obtain ⟨hn, hcn⟩ := kk j _ c (List.getElem?_eq_getElem (by rw [l2]; exact hj)) (by rw [List.getElem?_eq_getElem hj, ej])
    have := ih c hc _ hcn u hu'
    exact (List.take_subset_take_left ts (by omega)) this
  · rw [List.mem_singleton.mp h]
    exact List.mem_of_getElem? (i := i) (by rw [List.getElem?_take, if_pos (by omega), hi])
theorem Bld.sub_len {m : Md} {rs : List Rn} {ts : List Tr} (b : Bld m rs ts) {t : Tr} {i : Nat} (h : ts[i]? = some t) : (sub t).length ≤ i + 1 := by
  have := nodup_len (l := sub t) (l' := ts.take (i + 1)) (sub_nd t) fun u hu => b.post t i h u (by
    rcases mem_addAll.mp hu with h | h
    · cases h
    · exact h)
  rw [List.length_take] at this
  omega
end
end Ks
set_option Elab.async false
set_option linter.all false
set_option maxRecDepth 100000
set_option maxHeartbeats 4000000
namespace Ks
open PySem PySem.Spec PyProof.Rows L2 Gd Kx
/-! ### a text cut at a text -/
theorem spl_ne (S : List Nat) : ∀ (l : List Nat) (k : Nat) (acc : List Nat), TL.spl S k acc l ≠ []
  | [], k, acc => by rw [TL.spl_nil]; simp
  | c :: r, 0, acc => by
    cases h : TL.pre S (c :: r) with
    | true => rw [TL.spl_hit h]; simp
    | false => rw [TL.spl_miss h]; exact spl_ne S r 0 _
  | _ :: r, k + 1, acc => by
    show TL.spl S k acc r ≠ []
    exact spl_ne S r k acc
theorem spl_len (S : List Nat) : ∀ (l : List Nat) (k : Nat) (acc : List Nat), ∀ p ∈ TL.spl S k acc l, p.length ≤ acc.length + l.length
  | [], k, acc, p, h => by
    rw [TL.spl_nil] at h
    rw [List.mem_singleton.mp h]
    exact Nat.le_add_right _ _
  | c :: r, 0, acc, p, h => by
    cases hp : TL.pre S (c :: r) with
    | true =>
      rw [TL.spl_hit hp] at h
      rcases List.mem_cons.mp h with rfl | h
      · exact Nat.le_add_right _ _
      · have := spl_len S r _ [] p h
        rw [List.length_nil] at this
        rw [List.length_cons]
        omega
    | false =>
      rw [TL.spl_miss hp] at h
      have := spl_len S r 0 _ p h
      rw [List.length_append, List.length_singleton] at this
      rw [List.length_cons]
      omega
  | c :: r, k + 1, acc, p, h => by
    have := spl_len S r k acc p h
    rw [List.length_cons]
    omega
def cutS (z y : Str) : List Str := Txt.split z y
theorem cut_ne {z y : Str} (hy : TL.tl y ≠ []) (hk : y.cps.all (· < 256) = true) : cutS z y ≠ [] := fun e => by
  have h := TL.split_spl z y hy (TL.kind_ok hk)
  have e' : Txt.split z y = [] := e
  rw [e'] at h
  exact spl_ne _ _ _ _ h.symm
theorem cut_len {z y p : Str} (hy : TL.tl y ≠ []) (hk : y.cps.all (· < 256) = true) (h : p ∈ cutS z y) : p.length ≤ z.length := by
  have e := TL.split_spl z y hy (TL.kind_ok hk)
  have h1 : TL.tl p ∈ TL.spl (TL.tl y) 0 [] (TL.tl z) := by
    rw [← e]
    exact List.mem_map.mpr ⟨p, h, rfl⟩
  have := spl_len _ _ _ _ _ h1
  rw [List.length_nil] at this
  have l1 : (TL.tl p).length = p.length := rfl
  have l2 : (TL.tl z).length = z.length := rfl
  omega
end Ks
set_option Elab.async false
set_option linter.all false
set_option maxRecDepth 100000
set_option maxHeartbeats 4000000
namespace Ks
open PySem PySem.Spec PyProof.Rows L2 Gd Kx
/-! ### rows read from a text -/
abbrev sNmb : Stmt := Kx.topS 48
theorem scNmb : FnScope ["word", "sign"] ["word"] (defScope sNmb) := ⟨rfl, rfl, rfl, by decide +kernel, rfl, by decide +kernel, by decide +kernel⟩
def digS : Str := "0123456789"
def dgt (c : Nat) : Bool := decide (c ∈ digS.cps.toList)
def numW (z : Str) : Option Nat := if z.length ≤ 3 ∧ z.length ≠ 0 ∧ z.cps.toList.all dgt = true then some (z.cps.toList.foldl (fun n c => n * 10 + (c - 48)) 0) else none
theorem dgt_fin {c : Nat} (h : dgt c = true) : ∃ i : _root_.Fin 10, c = 48 + i.1 := by
  have h' : c ∈ digS.cps.toList := of_decide_eq_true h
  have e : digS.cps.toList = [48, 49, 50, 51, 52, 53, 54, 55, 56, 57] := by decide +kernel
  rw [e] at h'
  simp only [List.mem_cons, List.not_mem_nil, or_false] at h'
  exact ⟨⟨c - 48, by omega⟩, by show c = 48 + (c - 48); omega⟩
theorem num1 : ∀ a : _root_.Fin 10, PySem.intText? ⟨#[48 + a.1]⟩ = some (((48 + a.1 - 48 : Nat) : Nat) : Int) := by decide +kernel
theorem num2 : ∀ a b : _root_.Fin 10, PySem.intText? ⟨#[48 + a.1, 48 + b.1]⟩ = some ((((48 + a.1 - 48) * 10 + (48 + b.1 - 48) : Nat) : Nat) : Int) := by decide +kernel
theorem num3 : ∀ a b c : _root_.Fin 10, PySem.intText? ⟨#[48 + a.1, 48 + b.1, 48 + c.1]⟩ = some (((((48 + a.1 - 48) * 10 + (48 + b.1 - 48)) * 10 + (48 + c.1 - 48) : Nat) : Nat) : Int) := by decide +kernel
theorem numW_int {z : Str} {n : Nat} (h : numW z = some n) : PySem.intText? z = some ((n : Nat) : Int) ∧ z.length ≤ 3 := by
  unfold numW at h
  split at h
  · rename_i hc
    obtain ⟨h3, h0, ha⟩ := hc
    have hn := Option.some.inj h
    obtain ⟨⟨l⟩⟩ := z
    have hl : l.length = (Str.mk ⟨l⟩).length := rfl
    refine ⟨?_, h3⟩
    have ha' : ∀ c ∈ l, dgt c = true := fun c hc => List.all_eq_true.mp ha c hc
    match l, hl, ha', hn with
    | [], hl, _, _ => exact absurd hl.symm h0
    | [a], _, ha', hn =>
      obtain ⟨i, rfl⟩ := dgt_fin (ha' a (by simp))
      rw [← hn]
      simpa using num1 i
    | [a, b], _, ha', hn =>
      obtain ⟨i, rfl⟩ := dgt_fin (ha' a (by simp))
      obtain ⟨j, rfl⟩ := dgt_fin (ha' b (by simp))
      rw [← hn]
      simpa using num2 i j
    | [a, b, c], _, ha', hn =>
      obtain ⟨i, rfl⟩ := dgt_fin (ha' a (by simp))
      obtain ⟨j, rfl⟩ := dgt_fin (ha' b (by simp))
      obtain ⟨k, rfl⟩ := dgt_fin (ha' c (by simp))
      rw [← hn]
      simpa using num3 i j k
    | a :: b :: c :: d :: r, hl, _, _ =>
      rw [← hl] at h3
      simp at h3
  · cases h
/-- a number as a text may hold it -/
def oN : Option Nat → V
  | some n => .int ((n : Nat) : Int)
  | none => .non
/-! ### a text, cut -/
/-- the rows that a text tells -/
abbrev Ro : Type := Str × List (Option Nat)
def rowO (p : Str) : Ro := ((cutS p " ").headD "", ((cutS p " ").drop 1).map numW)
def rowsO (z : Str) : List Ro := (cutS z "; ").map rowO
def RowO (H : Hp) (x : V) (r : Ro) : Prop := ∃ b q, x = .ref b ∧ H b = some (.tup [.str r.1, .ref q]) ∧ H q = some (.tup (r.2.map oN))
def RwsO (H : Hp) (R : Addr) (rs : List Ro) : Prop := ∃ xs, H R = some (.tup xs) ∧ Paired (RowO H) xs rs
theorem RowO.keep {H H' : Hp} {x : V} {r : Ro} (h : RowO H x r) (s : Same H H') : RowO H' x r := by
  obtain ⟨b, q, e, h1, h2⟩ := h
  exact ⟨b, q, e, s _ _ h1, s _ _ h2⟩
abbrev sRot : Stmt := Kx.topS 49
abbrev nRot : List Str := ["text", "rows", "part", "words", "word"]
theorem scRot : FnScope nRot ["text"] (defScope sRot) := ⟨rfl, rfl, rfl, by decide +kernel, rfl, by decide +kernel, by decide +kernel⟩
section
variable {P : Program} {w : World} {K : PySem.W.Frag} {mg : Str → Option Value} {base : Heap}
def spNmb : Sp := fun vs H Q _ => ∃ z : Str, vs = [.str z] ∧ z.length ≤ sizeLine ∧ ∀ H', Same H H' → Q (oN (numW z)) H'
theorem ok_nmb {f : Addr} {fd : FuncData} (F : Fun K "_number" "_number" sNmb f fd) (T : TS0 mg) (mi : mg "int" = none) (mM : ∃ t, mg "MOST_DIGITS" = some (.int 3 t)) (mD : ∃ t, mg "DIGITS" = some (.str digS t)) : FnOk P w K mg base CX0 1 f fd ["word"] spNmb := by
  refine F.ok scNmb (fun vs H Q E h => ?_) (fun cv A ou s H vs Q E hr h => ?_)
  · obtain ⟨z, rfl, _⟩ := h
    rfl
  obtain ⟨z, rfl, hz, q⟩ := h
  obtain ⟨t1, mM⟩ := mM
  obtain ⟨t2, mD⟩ := mD
  refine ⟨_, pss_cons (ps_if (PW.pt (pw_or (pt_cmpR op_gt (pe_callB call_len_str (by rfl) T.len PySem.boot_len (pa_cons (pv 0) pa_nil)) (pe_glob (v := .int 3) (by rfl) mM ⟨_, rfl⟩) (nomark _))
        (pw_or (pt_not (pt_truth (pv 0) (fun _ => rfl))) (pw_or1 (pt_not (pt_val (pe_callB (cr_all rfl) (by rfl) T.all boot_all (pa_cons (pe_lc (own := [("sign", 1)]) (g := gName 1) (tt := tYes) rfl scNmb.nd (pi_str (pv 0)) (blkOk_by (own := [("sign", 1)]) (N := ["word", "sign"]) (sc := defScope sNmb) (by decide +kernel))
          (fun _ _ _ _ _ => pg_name (i := 1) scNmb.nd rfl (Or.inl rfl)) (fun _ _ _ _ _ => pts_nil) (fun _ _ _ _ _ => pe_cmpR op_in_sign (pv 1) (pe_glob (v := .str digS) (by rfl) mD ⟨_, rfl⟩) rfl)) pa_nil))))))))
      (pss_one (ps_ret pe_non)) pss_nil)
    (pss_one (ps_ret (pe_callTy call_int_str (by rfl) mi boot_int (pa_cons (pv 0) pa_nil)))), ?_⟩
  have ez := len_list z
  have big : ∀ {H' : Hp}, Same H H' → numW z = none → Q .non H' := fun s' e => by
    have := q _ s'
    rw [e] at this
    exact this
  refine ⟨.str z, rfl, z, rfl, hz, _, _, rfl, rfl, _, rfl, ?_⟩
  by_cases h3 : z.length ≤ 3
  rotate_left
  · rw [decide_eq_true (show ((z.length : Nat) : Int) > 3 by omega)]
    exact iteT (big (fun _ _ e => e) (if_neg fun h => h3 h.1))
  rw [decide_eq_false (show ¬ ((z.length : Nat) : Int) > 3 by omega)]
  refine iteF ⟨.str z, rfl, _, ⟨hz, rfl⟩, ?_⟩
  by_cases h0 : z.length = 0
  · rw [show (((z.length : Nat) : Int) != 0) = false by rw [h0]; rfl]
    exact iteT (big (fun _ _ e => e) (if_neg fun h => h.2.1 h0))
  rw [show (((z.length : Nat) : Int) != 0) = true from bne_iff_ne.mpr (by omega)]
  refine iteF ⟨.str z, rfl, z, rfl, fun D nD => lc_strY (x := z) (fun i H2 => Same H H2 ∧ H2 D = some (.lst ((z.cps.toList.take i).map fun c => V.bl (dgt c)))) (fun _ => rfl) ⟨same_new nD, upd_same⟩ ?_ ?_⟩
  · rintro i y H2 hi ⟨s2, eD⟩
    refine ⟨_, rfl, y, digS, rfl, rfl, _, eD, ?_, ?_, ?_⟩
    · rw [List.length_map, List.length_take]
      exact small1000 (by omega)
    · intro b o e
      rw [upd_ne (ne_of_none e nD)]
      exact s2 b o e
    · rw [upd_same, List.take_add_one, hi]
      simp [dgt]
  · rintro H2 ⟨s2, eD⟩
    rw [List.take_length] at eD
    refine ⟨D, z.cps.toList.map dgt, rfl, SqL.of (by rw [eD, List.map_map]; rfl), ?_⟩
    have e : (z.cps.toList.map dgt).all id = z.cps.toList.all dgt := by
      rw [List.all_map]
      rfl
    rw [e]
    cases ha : z.cps.toList.all dgt with
    | false => exact ⟨_, rfl, iteT (big s2 (if_neg fun h => by rw [ha] at h; cases h.2.2))⟩
    | true =>
      have en : ∃ n, numW z = some n := ⟨_, if_pos ⟨h3, h0, ha⟩⟩
      obtain ⟨n, en⟩ := en
      have q2 := q H2 s2
      rw [en] at q2
      exact ⟨_, rfl, iteF ⟨.str z, rfl, z, _, rfl, (numW_int en).1, by omega, q2⟩⟩
def spRot : Sp := fun vs H Q _ => ∃ z : Str, vs = [.str z] ∧ z.length ≤ 100000 ∧ (∀ p ∈ cutS z "; ", p.length ≤ 900) ∧ ∀ R H', Same H H' → RwsO H' R (rowsO z) → Q (.ref R) H'
set_option maxHeartbeats 8000000 in
theorem ok_rot {f fn : Addr} {fd fdn : FuncData} (F : Fun K "_rows_of_text" "_rows_of_text" sRot f fd) (T : TS0 mg)
    (GN : FnOk P w K mg base CX0 1 fn fdn ["word"] spNmb) (kn : PySem.W.keepIn K (.ref fn) = true) (bN : Binds K fdn ["word"] []) (gN : mg "_number" = some (.ref fn)) : FnOk P w K mg base CX0 2 f fd ["text"] spRot := by
  refine F.ok scRot (fun vs H Q E h => ?_) (fun cv A ou s H vs Q E hr h => ?_)
  · obtain ⟨z, rfl, _⟩ := h
    rfl
  obtain ⟨z, rfl, hz, hp9, q⟩ := h
  refine ⟨_, pss_cons (ps_set (i := 1) scRot.nd rfl (.inl rfl) (pe_lst pa_nil))
    (pss_cons (ps_for PassesOwn.never rfl (pi_list (pe_split (pv 0) pe_str)) (pg_name (i := 2) scRot.nd rfl (.inl rfl))
      (pss_cons (ps_set (i := 3) scRot.nd rfl (.inl rfl) (pe_split (pv 2) pe_str))
      (pss_one (ps_expr (pe_bm PySem.F.plainAttrs_list PySem.F.slot_list_append PySem.F.type_list_append mt_append (pv 1) (pa_cons (pe_tup (pa_cons (pe_ix ix_list (pv 3) pe_int (fun _ _ => rfl)) (pa_cons (pe_tupleOf (by rfl) T.tup (pe_lc (own := [("word", 4)]) (g := gName 4) (tt := tYes) rfl scRot.nd (pi_list (pe_slice sl_list (pv 3) (po_some pe_int) po_none)) (blkOk_by (own := [("word", 4)]) (N := nRot) (sc := defScope sRot) (by decide +kernel))
          (fun _ _ _ _ _ => pg_name (i := 4) scRot.nd rfl (Or.inl rfl)) (fun _ _ _ _ _ => pts_nil) (fun _ _ _ _ _ => asTE (te := tCall spNmb [] E0 (tCons (tVar 4) tNil)) (pe_call GN hr (by rfl) gN kn bN .nil pass0 (pa_cons (pv 4) pa_nil)) rfl))) pa_nil))) pa_nil))))))
    (pss_one (ps_ret (pe_tupleOf (by rfl) T.tup (pv 1))))), ?_⟩
  have sz := sizeLine_eq
  refine ⟨(by show 0 ≤ sizeLine; exact Nat.zero_le _), fun M nM => ?_⟩
  have sM := same_new (o := .lst []) nM
  refine ⟨.str z, rfl, ⟨z, rfl⟩, z, "; ", rfl, rfl, by decide +kernel, by omega, fun Lp nLp => ?_⟩
  have ML : M ≠ Lp := ne_of_none upd_same nLp
  have sP := sM.trans (same_new (o := .lst ((Txt.split z "; ").map V.str)) nLp)
  have nLH : H Lp = none := by
    cases e : H Lp with
    | none => rfl
    | some o => rw [sM _ _ e] at nLp; cases nLp
  have ln := PyProof.Rows.split_le z "; "
  refine ⟨Lp, rfl, ⟨_, SqL.of upd_same⟩, for_list (K := K) (a := Lp) (xs := (Txt.split z "; ").map V.str) (fun i σ H' => ∃ (o2 o3 : Option V) (xs : List V), σ = [some (.str z), some (.ref M), o2, o3, none] ∧ Same H H' ∧ H' Lp = some (.lst ((Txt.split z "; ").map V.str)) ∧ H' M = some (.lst xs) ∧ Paired (RowO H') xs ((rowsO z).take i))
    ⟨none, none, [], rfl, sP, upd_same, by rw [upd_ne ML]; exact upd_same, .nil⟩ (fun i σ H' _ pp => ?_) ?_ ?_⟩
  · obtain ⟨_, _, _, _, _, e, _⟩ := pp
    exact SqL.of e
  · rintro i x σ H1 hx ⟨o2, o3, xs, rfl, s1, eL, eM, pr⟩
    rw [List.getElem?_map] at hx
    cases ep : (Txt.split z "; ")[i]? with
    | none => rw [ep] at hx; cases hx
    | some p =>
    rw [ep] at hx
    cases hx
    have hp := hp9 p (List.mem_of_getElem? ep)
    have hi := (List.getElem?_eq_some_iff.mp ep).1
    have lw := PyProof.Rows.split_le p " "
    refine ⟨.str p, rfl, ⟨p, rfl⟩, p, " ", rfl, rfl, by decide +kernel, by omega, fun Wd nW => ?_⟩
    have sW := same_new (o := .lst ((Txt.split p " ").map V.str)) nW
    have wne : cutS p " " ≠ [] := cut_ne (by decide +kernel) (by decide +kernel)
    have w0 : (Txt.split p " ")[0]? = some ((Txt.split p " ").headD "") := by
      have : Txt.split p " " ≠ [] := wne
      cases hc : Txt.split p " " with
      | nil => exact absurd hc this
      | cons a r => rfl
    refine ⟨.ref M, rfl, .inl ⟨rfl, _, SqL.of (sW _ _ eM)⟩, .ref Wd, rfl, Wd, _, _, .str ((Txt.split p " ").headD ""), rfl, rfl, SqL.of upd_same, atI_nat (j := 0) (by rw [List.getElem?_map, w0]; rfl), ?_⟩
    refine ⟨.ref Wd, rfl, _, rfl, Wd, _, rfl, SqL.of upd_same, fun c nc => ⟨c, rfl, ⟨_, SqL.of upd_same⟩, fun D nD => ?_⟩⟩
    have e1 : 1 ≤ ((Txt.split p " ").map V.str).length := by
      rw [List.length_map]
      exact List.length_pos_iff.mpr wne
    have ed : cutV ((Txt.split p " ").map V.str) (some (1 : Int)) none = ((Txt.split p " ").map V.str).drop 1 := cut_drop (i := 1) e1
    rw [ed] at nD ⊢
    have sc := same_new (o := .lst (((Txt.split p " ").map V.str).drop 1)) nc
    have lw2 : (((Txt.split p " ").map V.str).drop 1).length ≤ 1000 := by
      rw [List.length_drop, List.length_map]
      omega
    refine lc_funL (K := K) (te := tCall spNmb [] E0 (tCons (tVar 4) tNil)) (j := 4) (vs := [4]) (a := c) (xs := ((Txt.split p " ").map V.str).drop 1) (ys := (rowO p).2.map oN) (fun _ => rfl) nD (SqL.of upd_same) lw2 (by
        show ((((Txt.split p " ").drop 1).map numW).map oN).length = _
        rw [List.length_map, List.length_map, List.length_drop, List.length_drop, List.length_map]) (fun k x y H3 hx hy s3 q3 => ?_) fun H3 s3 eD => ?_
    · intro kk
      rw [← List.map_drop, List.getElem?_map] at hx
      have hy' : ((((Txt.split p " ").drop 1).map numW).map oN)[k]? = some y := hy
      rw [List.getElem?_map, List.getElem?_map] at hy'
      cases ew : ((Txt.split p " ").drop 1)[k]? with
      | none => rw [ew] at hx; cases hx
      | some w =>
        rw [ew] at hx hy'
        cases hx
        cases hy'
        have hw : w.length ≤ p.length := cut_len (by decide +kernel) (by decide +kernel) (List.mem_of_mem_drop (List.mem_of_getElem? ew))
        exact ⟨.str w, rfl, w, rfl, by omega, fun H4 s4 => kk H4 s4⟩
    · refine .inl ⟨D, _, rfl, SqL.of eD, fun T1 nT1 => ⟨(by show 2 ≤ sizeLine; decide), fun T2 nT2 => ?_⟩⟩
      have sT := (same_new (o := .tup ((rowO p).2.map oN)) nT1).trans (same_new (o := .tup [.str ((Txt.split p " ").headD ""), .ref T1]) nT2)
      have s13 := sW.trans (sc.trans (s3.trans sT))
      have eM3 := s13 _ _ eM
      have lx : xs.length ≤ i := by
        rw [Paired.length pr, List.length_take]
        exact Nat.min_le_left _ _
      have nl := Nl.upd (ys := xs ++ [V.ref T2]) eM3
      have nMH := nM
      refine ⟨M, _, _, rfl, rfl, eM3, by omega, _, _, xs ++ [.ref T2], rfl, same_upd (s1.trans s13) nM, by rw [upd_ne (Ne.symm ML)]; exact s13 _ _ eL, upd_same, ?_⟩
      rw [List.take_add_one, show (rowsO z)[i]? = some (rowO p) by unfold rowsO cutS; rw [List.getElem?_map, ep]; rfl]
      refine Paired.snoc (Paired.mapP pr fun _ _ h => ?_) ?_
      · obtain ⟨b', q', e', h1, h2⟩ := h.keep s13
        exact ⟨b', q', e', nl.tk _ _ h1, nl.tk _ _ h2⟩
      · exact ⟨T2, T1, rfl, nl.tk _ _ upd_same, nl.tk _ _ (same_new nT2 _ _ upd_same)⟩
  · rintro σ H1 ⟨o2, o3, xs, rfl, s1, eL, eM, pr⟩
    rw [List.take_of_length_le (by unfold rowsO cutS; rw [List.length_map, List.length_map]; exact Nat.le_refl _)] at pr
    exact ⟨.ref M, rfl, .inl ⟨M, _, rfl, SqL.of eM, fun R nR => q R _ (s1.trans (same_new nR)) ⟨xs, upd_same, Paired.mapP pr fun _ _ h => h.keep (same_new nR)⟩⟩⟩
end
end Ks
set_option Elab.async false
set_option linter.all false
set_option maxRecDepth 100000
set_option maxHeartbeats 4000000
namespace Ks
open PySem PySem.Spec PyProof.Rows L2 Gd Kx
/-! ### small trees; making one -/
theorem post_len (t : Tr) : t.post.length = t.size := by
  induction t using Tr.ind with
  | h t ih =>
    rw [Tr.post_eq, Tr.size_eq, List.length_append, List.length_flatMap, List.length_singleton, Nat.add_comm]
    congr 2
    exact List.map_congr_left ih
theorem addAll_le : ∀ (L D : List Tr), (addAll D L).length ≤ D.length + L.length
  | [], D => by show D.length ≤ _; omega
  | t :: r, D => by
    have := addAll_le r (add D t)
    have h : (add D t).length ≤ D.length + 1 := by
      unfold add
      split
      · omega
      · rw [List.length_append, List.length_singleton]
        omega
    show (addAll (add D t) r).length ≤ _
    rw [List.length_cons]
    omega
theorem sub_size (t : Tr) : (sub t).length ≤ t.size := by
  have := addAll_le t.post []
  rw [post_len, List.length_nil] at this
  unfold sub
  omega
theorem size_dep1 {t : Tr} (h : t.dep ≤ 1) : t.size ≤ 1 := by
  rw [Tr.size_eq]
  cases ek : t.kids with
  | nil => exact Nat.le_refl _
  | cons c r =>
    have := dep_kid (t := t) (c := c) (by rw [ek]; exact List.mem_cons_self ..)
    have := dep_pos c
    omega
theorem size_dep {n B : Nat} (ih : ∀ c : Tr, c.dep ≤ n → c.size ≤ B) {t : Tr} (h : t.dep ≤ n + 1) : t.size ≤ 1 + 3 * B := by
  have k : ∀ c ∈ t.kids, c.size ≤ B := fun c hc => ih c (by have := dep_kid hc; omega)
  rw [Tr.size_eq]
  have : ∀ l : List Tr, (∀ c ∈ l, c.size ≤ B) → (l.map Tr.size).sum ≤ l.length * B := by
    intro l
    induction l with
    | nil => intro _; simp
    | cons c r ih =>
      intro h
      have a := h c (List.mem_cons_self ..)
      have b := ih fun x hx => h x (List.mem_cons_of_mem _ hx)
      rw [List.map_cons, List.sum_cons, List.length_cons, Nat.add_mul, Nat.one_mul]
      omega
  have a := this _ k
  have b : t.kids.length * B ≤ 3 * B := Nat.mul_le_mul_right B t.kids3
  omega
theorem size40 {t : Tr} (h : t.dep ≤ 4) : t.size ≤ 40 := size_dep (B := 13) (fun c hc => size_dep (B := 4) (fun c hc => size_dep (B := 1) (fun c hc => size_dep1 hc) hc) hc) h
theorem mk_go {CT CS s : Addr} {H : Hp} {m : Md} {t : Tr} {bs : List Addr} {Q : VK} {E : XK} (hs : ScAt CS H s m) (g : Good m) (ok : t.Ok m) (kid : Kids CT CS m H bs t.kids) (l : (sub t).length ≤ 200) (q : ∀ a H', Same H H' → TrAt CT CS m H' a t → Q (.ref a) H') :
    ∀ x dx, H x = none → H dx = none → dx ≠ x → spMk CT CS (.ref x :: .ref s :: .str t.row.1 :: bs.map V.ref) (upd (upd H dx (.own x)) x (.ins CT dx [])) (fun v H2 => v = .non ∧ Q (.ref x) H2) E := fun x dx nx nd _ =>
  have sb := mk_baseT (C := CT) nx nd
  ⟨x, dx, s, m, t, bs, rfl, upd_same, hs.keep sb, g, ok, kid.keep sb, l, fun H' b ht => ⟨rfl, q x H' (mk_sameT nx nd b) ht⟩⟩
end Ks
set_option Elab.async false
set_option linter.all false
set_option maxRecDepth 100000
set_option maxHeartbeats 4000000
namespace Ks
open PySem PySem.Spec PyProof.Rows L2 Gd Kx
section
variable {P : Program} {w : World} {K : PySem.W.Frag} {mg : Str → Option Value} {base : Heap} {CT CS : Addr}
/-- the trees of a bundle of rows, the last one given back -/
def spOfr (CT CS : Addr) : Sp := fun vs H Q _ => ∃ (s R : Addr) (m : Md) (rs : List Rn) (ts : List Tr) (t : Tr), vs = [.ref CT, .ref s, .ref R] ∧ ScAt CS H s m ∧ Good m ∧ RwsT H R rs ∧ Bld m rs ts ∧ 1 ≤ rs.length ∧ rs.length ≤ 200 ∧ ts[rs.length - 1]? = some t ∧
  ∀ a H', Same H H' → TrAt CT CS m H' a t → Q (.ref a) H'
set_option maxHeartbeats 8000000 in
theorem ok_ofr {f fi fk fr : Addr} {fd fdk fdr : FuncData} (F : Fun K "of_rows" "Tree.of_rows" (cT 1) f fd) (T : TS0 mg)
    (Mt : Mk K CT fi) (FI : FnR P w K mg base CX0 5 fi (spMk CT CS))
    (GK : FnOk P w K mg base CX0 1 fk fdk ["schema"] (spChk CS)) (kk : PySem.W.keepIn K (.ref fk) = true) (bK : Binds K fdk ["schema"] []) (gK : mg "check_schema" = some (.ref fk))
    (GR : FnOk P w K mg base CX0 5 fr fdr ["schema", "rows"] (spCrw CS)) (kr : PySem.W.keepIn K (.ref fr) = true) (bR : Binds K fdr ["schema", "rows"] []) (gR : mg "check_rows" = some (.ref fr)) :
    FnOk P w K mg base CX0 7 f fd ["cls", "schema", "rows"] (spOfr CT CS) := by
  refine F.ok scOfr (fun vs H Q E h => ?_) (fun cv A ou s H vs Q E hr h => ?_)
  · obtain ⟨s, R, m, rs, ts, t, rfl, _⟩ := h
    rfl
  obtain ⟨sa, R, m, rs, ts, t, rfl, hs, g, hR, bd, r1, r200, hlast, q⟩ := h
  have hr1 : Room 1 (A.deeper (envOfC "Tree.of_rows" (defScope (cT 1)) s.heap.objs.size f cv)) := hr.mono (by decide)
  have hr5 : Room 5 (A.deeper (envOfC "Tree.of_rows" (defScope (cT 1)) s.heap.objs.size f cv)) := hr.mono (by decide)
  refine ⟨_, pss_cons (ps_expr (pe_call GK hr1 (by rfl) gK kk bK .nil pass0 (pa_cons (pv 1) pa_nil)))
    (pss_cons (ps_expr (pe_call GR hr5 (by rfl) gR kr bR .nil pass0 (pa_cons (pv 1) (pa_cons (pv 2) pa_nil))))
    (pss_cons (ps_set (i := 3) scOfr.nd rfl (.inr rfl) (pe_lst pa_nil))
    (pss_cons (ps_for PassesOwn.never rfl (pi_tup (pv 2)) (pg_tup rfl (pgs_cons (pg_name (i := 4) scOfr.nd rfl (.inl rfl)) (pgs_cons (pg_name (i := 5) scOfr.nd rfl (.inl rfl)) pgs_nil)))
      (pss_cons (ps_setLc (i := 6) (own := [("number", 7)]) (g := gName 7) (tt := tYes) (by rfl) scOfr.nd rfl rfl (sw_true rfl rfl rfl (by decide +kernel)) (pi_tup (pv 5)) (blkOk_by (own := [("number", 7)]) (N := nOfr) (sc := defScope (cT 1)) (by decide +kernel))
          (fun _ _ _ _ _ => pg_name (i := 7) scOfr.nd rfl (Or.inl rfl)) (fun _ _ _ _ _ => pts_nil) (fun _ _ _ _ _ => asTE (te := tOp (rIxL K) (tVar 3) (tVar 7)) (pe_ix ix_list (pv 3) (pv 7) (fun _ _ => rfl)) rfl))
      (pss_one (ps_expr (pe_bm PySem.F.plainAttrs_list PySem.F.slot_list_append PySem.F.type_list_append mt_append (pv 3) (pa_cons (pe_makeVS (pv 0) Mt FI hr pass0 (pa_cons (pv 1) (pa_cons (pv 4) (StX.pa_star (pv 6) pa_nil)))) pa_nil))))))
    (pss_one (ps_ret (pe_ix ix_list (pv 3) (pe_un un_neg pe_int) (fun _ _ => rfl))))))), ?_⟩
  obtain ⟨xs, eR, pR⟩ := id hR
  have lx : xs.length = rs.length := Paired.length pR
  refine ⟨.ref sa, rfl, sa, m, rfl, hs, .ref sa, rfl, .ref R, rfl, sa, R, m, rs, ts, rfl, hs, g, hR, bd, r1, r200, fun H1 s1 => ?_⟩
  refine ⟨(by show 0 ≤ sizeLine; exact Nat.zero_le _), fun M nM => ?_⟩
  have sM := s1.trans (same_new (o := .lst []) nM)
  have nMH : H M = none := by
    cases z : H M with
    | none => rfl
    | some o => rw [s1 _ _ z] at nM; cases nM
  refine ⟨.ref R, rfl, R, rfl, ⟨_, SqT.of (sM _ _ eR)⟩, for_tup (K := K) (a := R) (xs := xs) (fun i σ H' => ∃ (o4 o5 o6 : Option V) (as : List Addr), σ = [some (.ref CT), some (.ref sa), some (.ref R), some (.ref M), o4, o5, o6, none] ∧ Same H H' ∧ H' M = some (.lst (as.map V.ref)) ∧ as.length = i ∧
      ∀ (j : Nat) (a : Addr) (u : Tr), as[j]? = some a → ts[j]? = some u → TrAt CT CS m H' a u) ⟨none, none, none, [], rfl, sM, upd_same, rfl, fun j a u e _ => by simp at e⟩ (fun i σ H' _ p => ?_) ?_ ?_⟩
  · obtain ⟨_, _, _, _, _, s2, _⟩ := p
    exact SqT.of (s2 _ _ eR)
  · rintro i x σ H2 hx ⟨o4, o5, o6, as, rfl, s2, eM, la, tt⟩
    obtain ⟨r, hr2, hrow⟩ := par_at pR hx
    have hi : i < rs.length := (List.getElem?_eq_some_iff.mp hr2).1
    have hit : i < ts.length := by rw [← bd.len]; exact hi
    obtain ⟨u, ht⟩ : ∃ u, ts[i]? = some u := ⟨_, List.getElem?_eq_getElem hit⟩
    obtain ⟨en, ln, kk⟩ := bd.at_ i r u hr2 ht
    have oku := bd.ok u (List.mem_of_getElem? ht)
    have k3 := u.kids3
    obtain ⟨b, q0, rfl, eb, eq0⟩ := RowN.keep hrow s2
    have lbs : (r.2.map fun n => as.getD n 0).length = r.2.length := List.length_map ..
    refine ⟨b, _, rfl, SqT.of eb, rfl, _, _, rfl, _, _, rfl, rfl, ?_⟩
    have get : ∀ (j n : Nat), r.2[j]? = some n → as[n]? = some (as.getD n 0) := fun j n e => by
      have hj : j < u.kids.length := by
        have := (List.getElem?_eq_some_iff.mp e).1
        omega
      obtain ⟨hn, _⟩ := kk j n _ e (List.getElem?_eq_getElem hj)
      have hl : n < as.length := by omega
      rw [List.getD_eq_getElem?_getD, List.getElem?_eq_getElem hl]
      rfl
    refine ⟨.ref q0, rfl, q0, rfl, ⟨_, SqT.of eq0⟩, fun D nD => lc_funT (K := K) (a := q0) (xs := nsV r.2) (ys := (r.2.map fun n => as.getD n 0).map V.ref) (fun _ => rfl) nD (SqT.of eq0) (by rw [nsV_len]; omega) (by rw [List.length_map, lbs, nsV_len]) (fun j y z H3 hy hz s3 pq => ?_) fun H3 s3 eD => ?_⟩
    · intro k
      unfold nsV at hy
      rw [List.getElem?_map] at hy hz
      rw [List.getElem?_map] at hz
      cases hn : r.2[j]? with
      | none => rw [hn] at hy; cases hy
      | some n =>
        rw [hn] at hy hz
        cases hy
        cases hz
        exact ⟨.ref M, rfl, .int ((n : Nat) : Int), rfl, M, _, _, _, rfl, rfl, SqL.of (s3 _ _ eM), atI_nat (by rw [List.getElem?_map, get j n hn]; rfl), k H3 fun _ _ e => e⟩
    have eM3 := s3 _ _ eM
    have s23 := s2.trans s3
    refine ⟨.ref M, rfl, .inl ⟨rfl, _, SqL.of eM3⟩, .ref CT, rfl, rfl, .ref sa, rfl, .str r.1, rfl, .ref D, rfl, D, _, rfl, .inr (SqL.of eD), fun y dy ny nd _ => ?_⟩
    have sb := mk_baseT (C := CT) ny nd
    have kid : Kids CT CS m H3 (r.2.map fun n => as.getD n 0) u.kids := ⟨by rw [lbs, ln], fun j a c ea ec => by
      rw [List.getElem?_map] at ea
      cases hn : r.2[j]? with
      | none => rw [hn] at ea; cases ea
      | some n =>
        rw [hn] at ea
        cases ea
        exact (tt n _ c (get j n hn) (kk j n c hn ec).2).keep s3⟩
    refine ⟨y, dy, sa, m, u, r.2.map fun n => as.getD n 0, by rw [List.append_nil, en], upd_same, (hs.keep s23).keep sb, g, oku, kid.keep sb, Nat.le_trans (bd.sub_len ht) (by omega), fun H4 bt ht4 => ⟨rfl, ?_⟩⟩
    have s4 := mk_sameT ny nd bt
    have eM4 := s4 _ _ eM3
    have n5 : Nl H4 (upd H4 M (.lst (as.map V.ref ++ [.ref y]))) := Nl.upd eM4
    refine ⟨M, _, _, rfl, rfl, eM4, by rw [List.length_map, la]; exact small1000 (by omega), _, _, _, as ++ [y], rfl, same_upd (s23.trans s4) nMH, by rw [upd_same, List.map_append]; rfl, by rw [List.length_append, la]; rfl, fun j a v ea ev => ?_⟩
    by_cases hj : j < i
    · rw [List.getElem?_append_left (by omega)] at ea
      exact ((tt j a v ea ev).keep (s3.trans s4)).nl n5
    · have hj2 : j = i := by
        have := (List.getElem?_eq_some_iff.mp ea).1
        rw [List.length_append, List.length_singleton] at this
        omega
      subst hj2
      rw [List.getElem?_append_right (by omega), la, Nat.sub_self] at ea
      cases ea
      rw [ht] at ev
      cases ev
      exact ht4.nl n5
  · rintro σ H2 ⟨o4, o5, o6, as, rfl, s2, eM, la, tt⟩
    have hl : rs.length - 1 < as.length := by omega
    have ea : as[rs.length - 1]? = some as[rs.length - 1] := List.getElem?_eq_getElem hl
    exact ⟨.ref M, rfl, _, rfl, M, _, _, .ref as[rs.length - 1], rfl, rfl, SqL.of eM, last_at (n := rs.length) (by rw [List.length_map, la, lx]) (by rw [List.getElem?_map, ea]; rfl), q _ H2 s2 (tt _ _ t ea hlast)⟩
end
end Ks
set_option Elab.async false
set_option linter.all false
set_option maxRecDepth 100000
set_option maxHeartbeats 4000000
/-! raise C(e), C an own class of one field over any built-in base -/
namespace Gd
open PySem PySem.Spec PyProof.Rows L2
open PySem.W (excInitIn excOver excTail)
section
variable {X : Cx} {CX : CXT} {k : Nat} {f C : Addr} {fd : FuncData} {ps : List Str} {sp : Sp} {x : Str} {p pos : Pos} {e : Expr}
theorem run_rai {pins : List (Addr × Obj)} {σ : L2.St} {H : Hp} {s : Shared} {Q : XK} {us ws : List Value} {kw : List (Str × Value)} {zs : List V} (N : Ini X.K C f) (ty : PySem.W.typeIn X.K (.ref C) = some (.type "type")) (F : FnOk X.prog X.w X.K X.mg X.base CX k f fd ps sp) (hR : Room (k + 1) X.A)
    (hx : Passes CX X E0) (I : Inv X pins σ H s) (hl : us.length ≤ sizeLine) (hB : ∀ (s' : Shared) (self : Value), X.K.In s'.heap → BindsTo s' fd ⟨self :: us, kw⟩ (ps.zip (self :: ws))) (hV : Vals zs ws)
    (h : ∀ a, H a = none → sp (.ref a :: zs) (upd H a (exo a C none)) (fun v H2 => v = .non ∧ ∃ d fs, H2 a = some (exo a C (some d)) ∧ H2 d = some (exd d fs) ∧ H d = none ∧ Q (.ref C) (some d) (upd (del H2 a) d (.xd fs))) E0) : wpAny (model X.prog X.w) X.A (call (.ref C) us kw) (MkP X pins σ Q) X.xe s := by
  obtain ⟨B, nid, iid, tl, FB, SF, hin, hov⟩ := N.xc.base
  obtain ⟨hp, g, dr, t0, os⟩ := s
  obtain ⟨nm, N', qn, bs, bm, hdct, sn, sub, ab, col, dd, k0, k1, k2, k3, k5, hC, hT⟩ := PySem.W.excInit_of I.kIn hin
  have le1 : hp.objs.size ≤ hp.objs.size + 1 := Nat.le_succ _
  have n1 : H (hp.objs.size + 1) = none := I.hok.fresh le1
  have q1 := h (hp.objs.size + 1) n1
  have kk : ∀ b o, hp.get? b = some o → ((hp.push (PySem.W.kdv_tup us)).push (PySem.HandSPX.excO C hp.objs.size)).get? b = some o := fun b o e => Heap.get?_push_of_some _ (Heap.get?_push_of_some _ e)
  have g1 : ((hp.push (PySem.W.kdv_tup us)).push (PySem.HandSPX.excO C hp.objs.size)).get? (hp.objs.size + 1) = some (PySem.HandSPX.excO C hp.objs.size) := by heap_get
  have I2 : Inv X pins σ (upd H (hp.objs.size + 1) (exo (hp.objs.size + 1) C none)) ⟨(hp.push (PySem.W.kdv_tup us)).push (PySem.HandSPX.excO C hp.objs.size), g, dr, t0, os⟩ :=
    I.laid (t' := t0) (a := hp.objs.size + 1) (o := exo (hp.objs.size + 1) C none) (h' := (hp.push (PySem.W.kdv_tup us)).push (PySem.HandSPX.excO C hp.objs.size)) kk le1 (exo_ok g1)
  have r2 : Vals (V.ref (hp.objs.size + 1) :: zs) (Value.ref (hp.objs.size + 1) :: ws) := .cons rfl hV
  have hR2 : Room k (X.A.under (.builtin "type.__call__" ⟨.ref C :: us, kw⟩)) := by
    have d1 : (X.A.under (.builtin "type.__call__" ⟨.ref C :: us, kw⟩)).depth = X.A.depth + 1 := by
      first | rfl | simp [Around.under, Code.weight, Code.isCreation, Code.isGuard, Code.isCaller, Code.frames, Code.isFrame, guardIds]
    have d2 : (X.A.under (.builtin "type.__call__" ⟨.ref C :: us, kw⟩)).units = X.A.units + 1 := by
      first | rfl | simp [Around.under, Code.cUnits, Code.frames, Code.isFrame]
    exact ⟨hR.hd, by have := hR.dp; rw [d1]; omega, by have := hR.un; rw [d2]; omega⟩
  have e0 := I2.env0
  have e1 : Env0 X.prog X.w X.K X.mg X.base (X.A.under (.builtin "type.__call__" ⟨.ref C :: us, kw⟩)) X.stack ⟨(hp.push (PySem.W.kdv_tup us)).push (PySem.HandSPX.excO C hp.objs.size), g, dr, t0, os⟩ (upd H (hp.objs.size + 1) (exo (hp.objs.size + 1) C none)) :=
    ⟨by first | exact e0.frames | (simpa [Around.under, Code.envs, Code.isFrame, pushEnvs] using e0.frames), e0.mod, e0.bs, e0.bsz, e0.funs, e0.frf, e0.hok, e0.bare⟩
  refine wpAny_call (PySem.Gk.call_kw FB hT hC (PySem.W.looks_findIn I.kIn N.at_) (fun self => PySem.W.bind_fn I.kIn self N.ty) hl
    (codeAny_mono (F.run _ X.stack _ _ ⟨Value.ref (hp.objs.size + 1) :: us, kw⟩ (Value.ref (hp.objs.size + 1) :: ws) _ _ E0 hR2 e1 (hB _ _ I2.kIn) r2 q1) fun r s' hq' => ?_))
  match r, hq' with
  | .error er, hq' => exact hx pins σ _ _ er s' I2 hq'
  | .ok (.ret u), hq' =>
    obtain ⟨v, H2, os2, bare2, un2, hok2, rv, ev, d, fs, ea, ed, hd1, q2⟩ := hq'
    subst ev
    obtain ⟨h2, g2, d2, t2, os'⟩ := s'
    exact ⟨rv, mk_end (raises_own N.xc.sB ty) I le1 kk un2 hok2 os2 bare2 ea ed hd1 q2⟩
  | .ok .next, hq' => exact False.elim hq'
  | .ok .brk, hq' => exact False.elim hq'
  | .ok .cont, hq' => exact False.elim hq'
/-- C(e): one value -/
def tRai (C : Addr) (f : Str) (te : TE) : L2.St → Hp → XK → Prop := fun σ H Q => te σ H fun v H1 => ∀ d H', Same H1 H' → H1 d = none → H' d = some (.xd [(f, v)]) → Q (.ref C) (some d) H'
theorem pmk_one {nm g : Str} {te : TE} (O : One X.prog X.w X.K X.mg X.base nm g C) (ty : PySem.W.typeIn X.K (.ref C) = some (.type "type")) (hR : Room 2 X.A) (hg : Gl X nm) (he : PE X e te) (hdb : (nm == ("__debug__" : Str)) = false := by decide)
    (hs : starEach [e] X.env = (false, eval e X.env) :: starEach [] X.env := by rfl) (hpl : (backTo pos (starEach [] X.env)).any (·.1) = false := by rfl) :
    PMk X (.Call (.Name nm p) [e] [] pos) (tRai C g te) := by
  intro pins s σ H Q I h
  obtain ⟨fa, fd, N, F, b, sb⟩ := O.ini
  refine wpAny_Call_Name_kw (ld_glob I hg O.gl ?_ hdb)
  refine PySem.W.callWith_K (h₀ := X.base) I.ok.mod.kin N.xc.kp (thn ((pa_cons he pa_nil hs).run pos pins s σ H (fun zs H1 => match zs with | [v] => ∀ d H', Same H1 H' → H1 d = none → H' d = some (.xd [(g, v)]) → Q (.ref C) (some d) H' | _ => False) I ?_) fun us s2 z2 => ?_) hs hpl
  · exact h
  obtain ⟨zs, H2, I2, r2, q2⟩ := z2
  obtain ⟨v, rfl, q2⟩ : ∃ v, zs = [v] ∧ ∀ d H', Same H2 H' → H2 d = none → H' d = some (.xd [(g, v)]) → Q (.ref C) (some d) H' := by
    match zs, q2 with
    | [v], q2 => exact ⟨v, rfl, q2⟩
  obtain ⟨u, rfl, ru⟩ := vals1 r2
  refine ⟨I2.kIn, ?_⟩
  refine run_rai (ws := [u]) (zs := [v]) N ty F hR pass0 I2 (by rw [sizeLine_eq]; exact (by decide : 1 ≤ 16777216)) (fun s' self ki => ?_) (.cons ru .nil) fun a na => ?_
  · have := b s' [self, u] ki rfl
    rw [List.append_nil] at this
    exact this
  · refine ⟨a, v, rfl, upd_same, fun d nd n => ⟨rfl, d, [(g, v)], upd_same, ?_, ?_, ?_⟩⟩
    · rw [upd_ne n, upd_same]
    · rw [upd_ne n] at nd
      exact nd
    · have nd' : H2 d = none := by rw [upd_ne n] at nd; exact nd
      refine q2 d _ (fun b o eb => ?_) nd' upd_same
      rw [upd_ne (ne_of_none eb nd'), del_ne (ne_of_none eb na), upd_ne (ne_of_none eb na), upd_ne (ne_of_none eb nd'), upd_ne (ne_of_none eb na)]
      exact eb
end
end Gd
set_option Elab.async false
set_option linter.all false
set_option maxRecDepth 100000
set_option maxHeartbeats 4000000
/-! try: body, except (A, B, C) as n: suite, the three own classes -/
namespace Gd
open PySem PySem.Spec PyProof.Rows L2
theorem fly_more {h h' B : Heap} {l : List Env} {e : Addr} {Z : Obj → Prop} (k : ∀ b o, h.get? b = some o → h'.get? b = some o) (f : HandSPX.FlyingZ B l e Z h) : HandSPX.FlyingZ B l e Z h' := by
  obtain ⟨f1, f2, f3, oe, vs, T, oT, ts, g1, g2, g3, g4, g5, g6, g7, g8, g9⟩ := f
  exact ⟨fun b o q => k b o (f1 b o q), f2, f3.of_keeps fun b o q _ => ⟨o, k b o q, rfl⟩, oe, vs, T, oT, ts, k _ _ g1, g2, g3, g4, g5, g6, k _ _ g7, g8, g9⟩
/-- what such a clause wishes of an exception of the body -/
def wTup (K : PySem.W.Frag) (n : Nat) (c1 c2 c3 : Value) (i : Nat) (ts : Addr → Value → Option Addr → TS) (Wout : WX) (D : Ends) : WX := fun cls d σ H =>
  ∃ b, PySem.W.exmAny K cls [c1, c2, c3] = some b ∧ (b = true → ∀ a, H a = none → σ.length = n → ts a cls d ⟨fun τ G => D.nx (τ.set i none) G, D.rt, fun τ G => D.bk (τ.set i none) G, fun τ G => D.ct (τ.set i none) G⟩ (σ.set i (some (.ref a))) H) ∧ (b = false → Wout cls d σ H)
section
variable {X : Cx} {x1 x2 x3 n : Str} {c1 c2 c3 : Value} {i k : Nat} {body suite : List Stmt} {b₀ : Stmt} {p1 p2 p3 tp pos hpos : Pos} {tb : WX → TS} {ts : Addr → Value → Option Addr → TS} {Wout : WX}
theorem ps_try3 (hs : X.stack = X.env :: X.outer) (hf : X.env.frame = some X.env.locals) (hN : X.N.Nodup) (hi : X.N[i]? = some n) (hln : X.env.kindOf n = some .local)
    (g1 : Gl X x1) (m1 : X.mg x1 = some c1) (g2 : Gl X x2) (m2 : X.mg x2 = some c2) (g3 : Gl X x3) (m3 : X.mg x3 = some c3) (tk : Takes X Wout)
    (hb : ∀ (W : WX) (pn : List (Addr × Obj)) (xe : Value → Shared → Prop), Takes (X.tr pn xe) W → PassesOwn (model X.prog X.w) X.A X.env xe → PSs (X.tr pn xe) body (tb W))
    (hsu : ∀ (a : Addr) (oe : Obj) (cls : Value) (d : Option Addr) (pn : List (Addr × Obj)), Zc cls d oe → (∃ vs, oe.data = .fields vs) → PSs (X.suite a ((a, oe) :: pn)) (b₀ :: suite) (ts a cls d))
    (d1 : (x1 == ("__debug__" : Str)) = false := by decide) (d2 : (x2 == ("__debug__" : Str)) = false := by decide) (d3 : (x3 == ("__debug__" : Str)) = false := by decide) :
    PS X (.Try body [.ExceptHandler (some (.Tuple [.Name x1 p1, .Name x2 p2, .Name x3 p3] k tp)) (some n) (b₀ :: suite) hpos] [] [] pos) (fun D σ H => tb (wTup X.K X.N.length c1 c2 c3 i ts Wout D) D σ H) := by
  constructor
  intro pins s σ H D I0 h0
  have okX := I0.ok
  have frX : X.A.frames = some (X.env :: X.outer) := by rw [okX.frames, hs]
  have locN : Loc X.env.scope n := .inl hln
  refine wpAny_Try_except ?_
  refine wpAny_mono ((hb (wTup X.K X.N.length c1 c2 c3 i ts Wout D) (X.pn ++ pins) (fun e t1 => wpAny (model X.prog X.w) X.A (noteFrame e X.env) (fun _ t2 => wpAny (model X.prog X.w) X.A (setFlight e none) (fun _ t3 =>
    wpAny (model X.prog X.w) X.A (handleBy e X.env [.ExceptHandler (some (.Tuple [.Name x1 p1, .Name x2 p2, .Name x3 p3] k tp)) (some n) (b₀ :: suite) hpos]) (SP X pins D) X.xe t3) X.xe t2) X.xe t1) (fun u z xx => ?_) PassesOwn.looking).run [] s σ H D (I0.toTry _) h0) (fun f s1 hsp => ?_) (fun e s1 he => he)
  · obtain ⟨a, B, y, pins2, τ, G, cls, d, rfl, J0, nb, up, sky, na, os, ag, b, hb1, hyes, hno⟩ := xx
    have J : Inv X pins τ G y := J0.ofTry okX
    have sky2 : Sky B (X.env :: X.outer) a (Zc cls d) X.env.locals z.heap := by rw [← hs]; exact sky
    show wpAny (model X.prog X.w) X.A (noteFrame (.ref a) X.env) _ _ _
    refine Sky.land Zc.steady frX hf sky2 fun h3 fl3 up3 => ?_
    -- the three classes make a tuple
    have kp : ∀ b o, h3.get? b = some o → (h3.push { cls := .type "tuple", data := .seq [c1, c2, c3].toArray }).get? b = some o := fun b o e => Heap.get?_push_of_some _ e
    have fl4 := fly_more kp fl3
    have up4 : y.heap.UpToSlots (h3.push { cls := .type "tuple", data := .seq [c1, c2, c3].toArray }) := (up.trans up3).trans (Heap.UpToSlots.of_keeps kp)
    have J3 : Inv X pins τ G { z with heap := h3 } := J.landed nb fl3.1 (up.trans up3) os ag
    have J4 : Inv X pins τ G { z with heap := h3.push { cls := .type "tuple", data := .seq [c1, c2, c3].toArray } } := J.landed nb fl4.1 up4 os ag
    obtain ⟨oe3, vs3, he3, hz3, hd3⟩ := fl3.there
    have off : ∀ {g : Heap} {o : Obj} {vs : Array Value}, g.FunFrames B (X.env :: X.outer) → g.get? a = some o → o.data = .fields vs → a ∉ frs (X.env :: X.outer) := by
      intro g o vs ff e dd hm
      obtain ⟨_, o2, e2, hnf⟩ := ff.mem hm
      rw [e] at e2
      cases e2
      exact hnf _ dd
    have nfr := off fl3.2.2.1 he3 hd3
    have nL : a ≠ X.env.locals := fun q => nfr (List.mem_filterMap.mpr ⟨X.env, List.mem_cons_self, by rw [hf, q]⟩)
    have nF : a ∉ X.fs := fun hm => by
      obtain ⟨e, he, q⟩ := List.mem_filterMap.mp hm
      exact nfr (List.mem_filterMap.mpr ⟨e, List.mem_cons_of_mem _ he, q⟩)
    have S3 := J3.suite he3 hd3 na nL nF
    refine wpAny_handleBy_cons (codeAny_handlers_test ?_) (by intro q; cases q)
    have he4 := kp _ _ he3
    have LT : PySem.W.Looks (model X.prog X.w) (h3.push { cls := .type "tuple", data := .seq [c1, c2, c3].toArray }) (typeOf (.ref a)) cls := fun A Q E t kk q => wpAny_typeOf_ref (kk _ _ he4) (by rw [hz3.1]; exact q)
    have LM := PySem.W.exm_tup3 (M := model X.prog X.w) J4.kIn LT (tp := h3.objs.size) (Heap.get?_push_size _ rfl) hb1
    have evalT : ∀ {Q : Value → Shared → Prop} {E : Value → Shared → Prop}, Q (.ref h3.objs.size) { z with heap := h3.push { cls := .type "tuple", data := .seq [c1, c2, c3].toArray } } →
        wpAny (model X.prog X.w) (X.A.mark (some (.ref a))) (eval (.Tuple [.Name x1 p1, .Name x2 p2, .Name x3 p3] k tp) X.env) Q E { z with heap := h3 } := by
      intro Q E q
      refine wpAny_Tuple_spliced ?_
      refine Calls.spliced_cons (ld_glob (X := X.suite a ((a, oe3) :: (X.pn ++ pins))) S3 g1 m1 ?_ d1)
      refine Calls.spliced_cons (ld_glob (X := X.suite a ((a, oe3) :: (X.pn ++ pins))) S3 g2 m2 ?_ d2)
      refine Calls.spliced_cons (ld_glob (X := X.suite a ((a, oe3) :: (X.pn ++ pins))) S3 g3 m3 ?_ d3)
      exact Calls.spliced_nil ⟨by rw [sizeLine_eq]; exact (by decide : 3 ≤ 16777216), q⟩
    refine evalT (LM.here ?_)
    cases b with
    | true =>
      refine codeAny_handlers_suite_as ?_
      refine HandSPX.lands_againZ fl4 fun h5 fl5 up5 => ?_
      have J5 : Inv X pins τ G { z with heap := h5 } := J.landed nb fl5.1 (up4.trans up5) os ag
      obtain ⟨oe5, vs5, he5, hz5, hd5⟩ := fl5.there
      have S5 := J5.suite he5 hd5 na nL nF
      refine store_ok (X := X.suite a ((a, oe5) :: (X.pn ++ pins))) (v := .ref a) S5 hN hi locN rfl (fun s6 S6 => ?_) (.inr hln)
      refine wpAny_mono ((hsu a oe5 cls d (X.pn ++ pins) hz5 ⟨_, hd5⟩).run [] s6 _ G _ S6 (hyes rfl a na J.len)) (fun f s7 hsp => ?_) (fun _ _ q => False.elim q)
      have leave : ∀ {τ7 : L2.St} {G7 : Hp} {Q : Shared → Prop}, Inv (X.suite a ((a, oe5) :: (X.pn ++ pins))) [] τ7 G7 s7 → (∀ s8, Inv X pins (τ7.set i none) G7 s8 → Q s8) →
          wpAny (model X.prog X.w) X.A (do bindName X.env n .none; unbindBehindTheSuite X.env n hpos) (fun _ s8 => Q s8) X.xe s7 := fun {τ7 G7 Q} S7 hq => gone_ok (S7.unsuite okX) hN hi hln hq
      cases f with
      | ret u =>
        obtain ⟨v7, τ7, G7, S7, r7, q7⟩ := hsp
        exact leave S7 fun s8 J8 => ⟨_, _, _, J8, r7, q7⟩
      | next =>
        obtain ⟨τ7, G7, S7, q7⟩ := hsp
        exact leave S7 fun s8 J8 => ⟨_, _, J8, q7⟩
      | brk =>
        obtain ⟨τ7, G7, S7, q7⟩ := hsp
        exact leave S7 fun s8 J8 => ⟨_, _, J8, q7⟩
      | cont =>
        obtain ⟨τ7, G7, S7, q7⟩ := hsp
        exact leave S7 fun s8 J8 => ⟨_, _, J8, q7⟩
    | false =>
      show wpAny _ X.A (handleBy (.ref a) X.env []) _ _ _
      refine wpAny_handleBy_nil ?_
      obtain ⟨_, _, _, oe, vs, T, oT, ts2, hea, hza, hda, hv1, _⟩ := id fl4
      unfold PySem.passOn
      refine wpAny_bind (wpAny_field hea hda hv1 ?_)
      rw [if_neg (show ¬ ((Value.ref T == Value.none) = true) from by simp)]
      have on : wpAny (model X.prog X.w) X.A (setFlight (.ref a) X.env.frame) (fun _ s8 => wpAny (model X.prog X.w) X.A (throw (.ref a) : Sem Flow) (SP X pins D) X.xe s8) X.xe { z with heap := h3.push { cls := .type "tuple", data := .seq [c1, c2, c3].toArray } } := by
        rw [hf]
        refine HandSPX.setFlight_upZ fl4 fun h5 hh5 up5 => wpAny_throw (tk _ _ ?_)
        exact ⟨a, B, y, pins, τ, G, cls, d, rfl, J, nb, up4.trans up5, .inr (.inr (by rw [hs]; exact hh5)), na, os, ag, hno rfl⟩
      first
        | exact wpAny_bind (wpAny_pure (wpAny_bind on))
        | exact wpAny_bind on
  · cases f with
    | ret u =>
      obtain ⟨v, τ, G, J0, r, q⟩ := hsp
      exact ⟨v, τ, G, J0.ofTry okX, r, q⟩
    | next =>
      obtain ⟨τ, G, J0, q⟩ := hsp
      exact wpAny_execs_nil ⟨τ, G, J0.ofTry okX, q⟩
    | brk =>
      obtain ⟨τ, G, J0, q⟩ := hsp
      exact ⟨τ, G, J0.ofTry okX, q⟩
    | cont =>
      obtain ⟨τ, G, J0, q⟩ := hsp
      exact ⟨τ, G, J0.ofTry okX, q⟩
end
end Gd
set_option Elab.async false
set_option linter.all false
set_option maxRecDepth 100000
set_option maxHeartbeats 4000000
/-! the exception that is handled, handed to a def: its class asked, its field read; repr of any plain thing -/
namespace Gd
open PySem PySem.Spec PyProof.Rows L2
/-! ### repr(x), x plain data of any kind -/
def rShowV (K : PySem.W.Frag) : List V → Hp → VK → Prop := fun xs H Q => ∃ (v : V) (d : PyData), xs = [v] ∧ Dp K H v d ∧ d.showable = true ∧ d.hasDict = false ∧ d.depth ≤ 60 ∧ d.shown.length ≤ sizeLine ∧ Q (.str d.shown) H
theorem call_showV {X : Cx} (hG : X.A.guards = some []) (hu : X.A.units + 64 < cLine) : CallR X (.builtin "repr") (rShowV X.K) := by
  intro pins s σ H xs us Q I r h
  obtain ⟨v, d, rfl, hd, hs, hn, hz, hl, q⟩ := h
  obtain ⟨u, rfl, ru⟩ := vals1 r
  cases hd with
  | non =>
    cases (show u = Value.none from ru)
    exact PySem.P.repr_of_none ⟨.str "None", H, I.tok _, ⟨_, rfl⟩, q⟩
  | bl b =>
    cases (show u = Value.bool b from ru)
    refine PySem.P.repr_of_bool ?_
    cases b with
    | true => exact ⟨.str "True", H, I.tok _, ⟨_, rfl⟩, q⟩
    | false => exact ⟨.str "False", H, I.tok _, ⟨_, rfl⟩, q⟩
  | int i =>
    obtain ⟨t, rfl⟩ := (show ∃ t, u = Value.int i t from ru)
    refine PySem.P.repr_of_int ?_ ⟨.str (toString i), H, I.tok _, ⟨_, rfl⟩, q⟩
    rw [PyData.showable] at hs
    exact of_decide_eq_true hs
  | str z =>
    obtain ⟨t, rfl⟩ := (show ∃ t, u = Value.str z t from ru)
    exact PySem.P.repr_of_str ⟨.str (reprText z), H, I.tok _, ⟨_, rfl⟩, q⟩ hl
  | lst h1 h2 => exact call_show hG hu pins s σ H _ _ Q I r ⟨_, _, rfl, .lst h1 h2, hs, hn, hz, hl, q⟩
  | tup h1 h2 => exact call_show hG hu pins s σ H _ _ Q I r ⟨_, _, rfl, .tup h1 h2, hs, hn, hz, hl, q⟩
/-! ### the exception that is handled -/
/-- its object is known and stays: of the class C, its dict at d -/
def Pnd (X : Cx) (a C d : Addr) : Prop := ∃ oe : Obj, (a, oe) ∈ X.pn ∧ Zc (.ref C) (some d) oe ∧ ∃ vs, oe.data = .fields vs
theorem Pnd.obj {X : Cx} {pins : List (Addr × Obj)} {σ : L2.St} {H : Hp} {s : Shared} {a C d : Addr} {fs : List (Str × V)} (p : Pnd X a C d) (I : Inv X pins σ H s) (e : H d = some (.xd fs)) :
    ∃ (ox od : Obj) (mA : Str → Option Value), PySem.W.InstAt s.heap a ox C (some od) ∧ (∀ name, PySem.W.lookIn name od = some (mA name)) ∧ ∀ f, RelO (fs.lookup f) (mA f) := by
  obtain ⟨oe, hm, hz, vs, hd⟩ := p
  obtain ⟨ha, _⟩ := I.pin (a, oe) (List.mem_append_left _ hm)
  obtain ⟨mA, hns, hr⟩ := (show ObjOk X.prog X.w H s.heap d (.xd fs) from I.hok d _ e)
  obtain ⟨od, ho, hl⟩ := lookIn_ns hns
  exact ⟨oe, od, mA, ⟨ha, hz.1, by unfold PySem.W.notCls; rw [hd] <;> rfl, by rw [hz.2]; exact ho⟩, hl, hr⟩
/-- isinstance(e, c) -/
def rIsP (X : Cx) : List V → Hp → VK → Prop := fun xs H Q => ∃ (a C d : Addr) (fs : List (Str × V)) (c : V) (u : Value) (b : Bool), xs = [.ref a, c] ∧ Pnd X a C d ∧ H d = some (.xd fs) ∧ ClsV c u ∧ XC X.K C ∧ PySem.W.kitOne X.K (.ref C) u = some b ∧ Q (.bl b) H
theorem call_isP {X : Cx} : CallR X (.builtin "isinstance") (rIsP X) := by
  intro pins s σ H xs us Q I r h
  obtain ⟨a, C, d, fs, c, u, b, rfl, pn, ed, k, T, e, q⟩ := h
  obtain ⟨u1, u2, rfl, r1, r2⟩ := vals2 r
  have e2 := k.eq r2
  subst e2
  have e1 : u1 = Value.ref a := r1
  subst e1
  have hcl : (PySem.W.clsIn X.K C).isSome = true := by
    obtain ⟨cd, hc, _⟩ := PySem.W.any_some T.hd
    rw [hc]
    rfl
  obtain ⟨ox, od, mA, J, hl, rel⟩ := pn.obj I ed
  exact PySem.W.kia_one (PySem.W.kitx_exc hcl T.ga T.gg T.sB T.ca T.cn T.ct T.mo) I.kIn J e (fun z => nomatch z) fun tk => ⟨.bl b, H, I.tok tk, rfl, q⟩
/-- e.f -/
def tFp (X : Cx) (f : Str) (te : TE) : TE := fun σ H Q => te σ H fun x H1 => ∃ (a C d : Addr) (fs : List (Str × V)) (v : V), x = .ref a ∧ Pnd X a C d ∧ XC X.K C ∧ PySem.W.findIn X.K (.ref C) f = some none ∧ H1 d = some (.xd fs) ∧ fs.lookup f = some v ∧ Q v H1
theorem pe_fp {X : Cx} {e : Expr} {te : TE} {pos : Pos} {f : Str} (he : PE X e te) (hb : attributeBase e f X.env (eval e X.env) = eval e X.env := by rfl) : PE X (.Attribute e f pos) (tFp X f te) := by
  constructor
  intro pins s σ H Q I h
  refine attr_of hb (thn (he.run pins s σ H _ I h) fun u s1 z => ?_)
  obtain ⟨x, H1, I1, rx, a, C, d, fs, v, ex, pn, T, hno, ed, l, q⟩ := z
  subst ex
  have eu : u = Value.ref a := rx
  subst eu
  obtain ⟨ox, od, mA, J, hl, rel⟩ := pn.obj I1 ed
  obtain ⟨u2, hu, ru⟩ := RelO.some_of (v := v) (o := mA f) (by rw [← l]; exact rel f)
  exact HandSPX.exc_get I1.kIn J T.ga T.gg T.sB (PySem.W.findObj_own T.hd hno rfl (by rw [hl, hu])) (handed_of ru) ⟨v, H1, I1.tok _, ru, q⟩
/-! ### a def that gets it -/
abbrev SpE : Type := Value → Option Addr → Hp → VK → Prop
structure FnE (P : Program) (w : World) (K : PySem.W.Frag) (mg : Str → Option Value) (base : Heap) (k : Nat) (f : Addr) (fd : FuncData) (y : Str) (sp : SpE) : Prop where
  run : ∀ (A : Around) (ou : List Env) (s : Shared) (H : Hp) (gs : Args) (p : Addr × Obj) (cls : Value) (d : Option Addr) (Q : VK), A.guards = some [] → L2H.RoomH k A → L2H.PinOk ou H s p → Zc cls d p.2 → (∃ vs, p.2.data = .fields vs) → Env0 P w K mg base A ou s H →
    BindsTo s fd gs [(y, .ref p.1)] → sp cls d H Q → codeAny (model P w) A (.call (.ref f) gs) (CR CX0 ou P w H s Q E0) s
theorem okE {P : Program} {w : World} {K : PySem.W.Frag} {mg : Str → Option Value} {base : Heap} {x qn y : Str} {st : Stmt} {f : Addr} {fd : FuncData} {N : List Str} {k : Nat} {sp : SpE} (F : Fun K x qn st f fd) (S : FnScope N [y] (defScope st))
    (hb : ∀ (cv : Value) (A : Around) (ou : List Env) (s : Shared) (H : Hp) (p : Addr × Obj) (cls : Value) (d : Option Addr) (Q : VK), A.guards = some [] → L2H.RoomH k (A.deeper (envOfC qn (defScope st) s.heap.objs.size f cv)) → Zc cls d p.2 → (∃ vs, p.2.data = .fields vs) → sp cls d H Q →
      ∃ t, PSs (L2H.cxH CX0 P w K mg base N qn (defScope st) f cv A ou s H E0 p) (defBody st) t ∧ t { nx := fun _ H' => Q .non H', rt := Q } (start N [.ref p.1]) H) : FnE P w K mg base (k + 1) f fd y sp := by
  obtain ⟨oc, od, kV, dc, pm, an, cv, ct, osl, rfl, lk, hc⟩ := F.ex
  constructor
  intro A ou s H gs p cls d Q hG hR hP hz hf e0 hB hS
  have inK : K.In s.heap := e0.mod.kin.keeps (fun b o e => (e0.bs b o e).left)
  have noL : s.heap.NoLimit := e0.mod.nolimit.keeps (fun b o e => (e0.bs b o e).left)
  have kinds : ∀ q ∈ [(y, Value.ref p.1)], (defScope st).names.lookup q.1 = some .local ∨ ((defScope st).names.lookup q.1 = some .cell ∧ ((cellsFrom (s.heap.objs.size + 1) (defScope st).names []).lookup q.1).isSome = true) := by
    intro q hq
    rw [List.mem_singleton.mp hq]
    cases S.par y (List.mem_singleton.mpr rfl) with
    | inl q => exact .inl q
    | inr q => exact .inr ⟨q, PySem.W.cellsFrom_some _ _ _ (.inl q)⟩
  refine codeAny_call_function hR.depth (inK _ _ lk) rfl S.co S.gen rfl (PySem.W.codeRec_of inK hc) (hB _ _ _ _ ?_)
  refine wpAny_newFunctionEnv_cells S.kind kinds fun ev he s2 y2 => ?_
  subst he
  refine ⟨noL.keeps y2.toInCall.keep, codeAny_func ?_⟩
  obtain ⟨t, ht, hq⟩ := hb cv A ou s H p cls d Q hG (hR.deeper _) hz hf hS
  have J0 : Inv (L2H.cxH CX0 P w K mg base N qn (defScope st) f cv A ou s H E0 p) [] (start N [.ref p.1]) H s2 := L2H.inv_startH (ps := [y]) (us := [.ref p.1]) S hP e0 rfl (.cons rfl .nil) y2
  refine wpAny_mono (ht.run [] s2 (start N [.ref p.1]) H _ J0 hq) (fun fl s3 h3 => ?_) fun _ _ z => z
  have fin : ∀ {τ : L2.St} {H' : Hp} {v : V} {u : Value}, Inv (L2H.cxH CX0 P w K mg base N qn (defScope st) f cv A ou s H E0 p) [] τ H' s3 → RelV v u → Q v H' → CE ou P w H s Q u s3 := by
    intro τ H' v u J rv q
    exact ⟨v, H', J.os, J.bare, J.base, J.hok, rv, q⟩
  match fl, h3 with
  | .ret u, ⟨v, τ, H', J, rv, q⟩ => exact fin J rv q
  | .next, ⟨τ, H', J, q⟩ => exact fin (v := V.non) (u := Value.none) J rfl q
  | .brk, ⟨_, _, _, q⟩ => exact False.elim q
  | .cont, ⟨_, _, _, q⟩ => exact False.elim q
/-- f(e) in the suite that handles e -/
theorem pe_callE {X : Cx} {a : Addr} {oe : Obj} {cls : Value} {d : Option Addr} {pn : List (Addr × Obj)} {k i : Nat} {f : Addr} {fd : FuncData} {x n y : Str} {sp : SpE} {p1 p2 pos : Pos} (F : FnE X.prog X.w X.K X.mg X.base k f fd y sp) (hG : X.A.guards = some []) (hR : L2H.RoomH k X.A)
    (hz : Zc cls d oe) (hf : ∃ vs, oe.data = .fields vs) (hg : Gl X x) (hm : X.mg x = some (.ref f)) (hk : PySem.W.keepIn X.K (.ref f) = true) (hb : Binds X.K fd [y] []) (hN : X.N[i]? = some n) (hv : Vis X.env.scope n)
    (hdb : (x == ("__debug__" : Str)) = false := by decide) (hd : (n == ("__debug__" : Str)) = false := by decide) (hcd : (n == ("__classdict__" : Str)) = false := by decide) :
    PE (X.suite a ((a, oe) :: pn)) (.Call (.Name x p1) [.Name n p2] [] pos) (fun σ H Q => σ[i]? = some (some (.ref a)) ∧ sp cls d H Q) := by
  constructor
  intro pins s σ H Q I h
  obtain ⟨hs, hsp⟩ := h
  refine wpAny_Call_Name_kw (ld_glob I hg hm ?_ hdb)
  refine PySem.W.callWith_K (h₀ := X.base) I.ok.mod.kin hk ?_ (by rfl) (by rfl)
  refine Calls.spliced_cons (thn ((pe_var (X := X.suite a ((a, oe) :: pn)) (pos := p2) (i := i) hN hv hd hcd).run pins s σ H (fun v H1 => v = .ref a ∧ H1 = H) I ⟨.ref a, hs, rfl, rfl⟩) fun u s1 z => ?_)
  obtain ⟨v, H1, I1, r1, ev, eH⟩ := z
  subst ev eH
  have eu : u = Value.ref a := r1
  subst eu
  refine Calls.spliced_nil ⟨I1.kIn, ?_⟩
  have P1 := I1.pin (a, oe) (List.mem_append_left _ List.mem_cons_self)
  have hpin : L2H.PinOk X.stack H1 s1 (a, oe) := ⟨P1.1, P1.2.1, fun hm => (List.mem_cons.mp (I1.stkSub a hm)).elim P1.2.2.1 P1.2.2.2.1, P1.2.2.2.2⟩
  have b := hb s1 [.ref a] I1.kIn rfl
  rw [List.append_nil] at b
  refine wpAny_call (codeAny_mono (F.run (X.A.mark (some (.ref a))) X.stack s1 H1 ⟨[.ref a], []⟩ (a, oe) cls d Q hG ⟨hR.dp, hR.un⟩ hpin hz hf I1.env0 b hsp) fun r s' hq => ?_)
  match r, hq with
  | .error e, hq => exact (show False from hq).elim
  | .ok (.ret u), hq => exact I1.after hq
  | .ok .next, hq => exact False.elim hq
  | .ok .brk, hq => exact False.elim hq
  | .ok .cont, hq => exact False.elim hq
end Gd
set_option Elab.async false
set_option linter.all false
set_option maxRecDepth 100000
set_option maxHeartbeats 4000000
namespace Ks
open PySem PySem.Spec PyProof.Rows L2 Gd Kx
/-! ### the services of the class of trees, for the laws about them -/
structure Tcs (P : Program) (w : World) (K : PySem.W.Frag) (mg : Str → Option Value) (base : Heap) (CT CS : Addr) : Prop where
  ch : Tch P w K mg base CT
  nb : PySem.W.findIn K (.ref CT) "__bool__" = some none
  ln : ∃ f fd, Dm K CT "__len__" f ∧ FnOk P w K mg base CX0 1 f fd ["self"] (spLnT CT CS) ∧ Binds K fd ["self"] []
  rp : ∃ f fd, Dm K CT "__repr__" f ∧ FnOk P w K mg base CX0 1 f fd ["self"] (spRpT CT CS) ∧ Binds K fd ["self"] []
  st : ∃ f fd, Dm K CT "__str__" f ∧ FnOk P w K mg base CX0 1 f fd ["self"] (spStT CT CS) ∧ Binds K fd ["self"] []
  eq : ∃ f fd, Dm K CT "__eq__" f ∧ FnOk P w K mg base CX0 2 f fd ["self", "other"] (spEqT K CT CS) ∧ Binds K fd ["self", "other"] []
  ne : PySem.W.findIn K (.ref CT) "__ne__" = some (some (.builtin "object.__ne__"))
  mo : PySem.W.mroIn K CT (.type "object") = some true
theorem sub_pos (t : Tr) : 1 ≤ (sub t).length := by
  have h : t ∈ sub t := List.mem_of_getElem? (sub_last t)
  exact List.length_pos_of_mem h
def spRgt : Sp := fun vs H Q _ => ∃ p : Addr, vs = [.ref p] ∧ DealAt H p ∧ ∀ H', Sb p H H' → Q (.bl true) H'
theorem TrAt.ins {CT CS : Addr} {H : Hp} {a : Addr} {m : Md} {t : Tr} (h : TrAt CT CS m H a t) : ∃ dx fs, H a = some (.ins CT dx fs) := by
  cases h with
  | mk e _ _ _ _ _ => exact ⟨_, _, e⟩
theorem par_has {α β : Type} {G : α → β → Prop} : ∀ {xs : List α} {rs : List β} {n : Nat} {r : β}, Paired G xs rs → rs[n]? = some r → ∃ x, xs[n]? = some x ∧ G x r
  | _, _, n, r, .nil, h => by simp at h
  | _, _, 0, r, .cons (a := i) q t, h => by
    have e := Option.some.inj h
    subst e
    exact ⟨i, rfl, q⟩
  | _, _, n + 1, r, .cons q t, h => by
    obtain ⟨x, e, z⟩ := par_has t (by simpa using h)
    exact ⟨x, by simpa using e, z⟩
theorem bld_codes {m : Md} {D : List Tr} (o : Ord D) (ok : ∀ u ∈ D, u.Ok m) : Bld m (codes D) D := by
  refine ⟨codes_len D, ok, fun i r t er et => ?_⟩
  rw [codes_at et] at er
  cases er
  refine ⟨rfl, List.length_map .., fun j n c ej ec => ?_⟩
  change (t.kids.map fun c => D.idxOf c)[j]? = some n at ej
  rw [List.getElem?_map, ec] at ej
  cases ej
  have hc := o i t et c (List.mem_of_getElem? ec)
  have h1 : D.idxOf c = (D.take i).idxOf c := by
    conv => lhs; rw [← List.take_append_drop i D]
    rw [List.idxOf_append, if_pos hc]
  refine ⟨?_, idx_at (List.mem_of_mem_take hc)⟩
  show D.idxOf c < i
  rw [h1]
  have := List.idxOf_lt_length_of_mem hc
  rw [List.length_take] at this
  omega
/-- rows, schema by name -/
def gRS {α : Type} : List α → List α → List α
  | [c], [r, s] => [c, s, r]
  | _, _ => []
theorem gRS_rel {vs : List V} {us : List Value} {zs : List V} {ws : List Value} (h : Vals vs us) (k : Vals zs ws) : Vals (gRS vs zs) (gRS us ws) := by
  cases h with
  | nil => exact .nil
  | cons a h =>
    cases h with
    | cons _ _ => exact .nil
    | nil =>
      cases k with
      | nil => exact .nil
      | cons b k =>
        cases k with
        | nil => exact .nil
        | cons c k =>
          cases k with
          | nil => exact .cons a (.cons c (.cons b .nil))
          | cons _ _ => exact .nil
/-- Tree.of_rows -/
def Ofr (P : Program) (w : World) (K : PySem.W.Frag) (mg : Str → Option Value) (base : Heap) (CT CS : Addr) : Prop :=
  ∃ (mc : Value) (p f : Addr) (fd : FuncData), ClX.CRead K CT mc ∧ ClX.CMet K CT mc "of_rows" p f ∧ FnOk P w K mg base CX0 7 f fd ["cls", "schema", "rows"] (spOfr CT CS) ∧ Binds K fd ["cls", "schema", "rows"] [] ∧ KBinds K fd ["cls", "schema", "rows"] ["rows", "schema"] gRS gRS
/-- the classes, seen from each other -/
structure Two (K : PySem.W.Frag) (CT CS : Addr) : Prop where
  ts : PySem.W.notFirst K CT (.ref CS) = true
  st : PySem.W.notFirst K CS (.ref CT) = true
  ks : PySem.W.kitOne K (.ref CS) (.ref CT) = some false
  kt : PySem.W.kitOne K (.ref CT) (.ref CS) = some false
  ot : ∀ t ∈ ["NoneType", "bool", "int", "str", "tuple", "dict"], PySem.W.notFirst K CT (.type t) = true ∧ PySem.W.kitOne K (.type t) (.ref CT) = some false ∧ PySem.W.subIn K (.ref CT) (.type t) = some false
theorem NoTr.ty {K : PySem.W.Frag} {CT CS : Addr} {H : Hp} {x : V} (h : NoTr CS H x) (TW : Two K CT CS) (Z : SCl K CS) (I : SCi K CS) : ∃ ty, TyOf K H x ty ∧ PySem.W.notFirst K CT ty = true ∧ PySem.W.kitOne K ty (.ref CT) = some false := by
  cases h with
  | non => exact ⟨_, .non, (TW.ot "NoneType" (by simp)).1, (TW.ot "NoneType" (by simp)).2.1⟩
  | bl b => exact ⟨_, .bl b, (TW.ot "bool" (by simp)).1, (TW.ot "bool" (by simp)).2.1⟩
  | int i => exact ⟨_, .int i, (TW.ot "int" (by simp)).1, (TW.ot "int" (by simp)).2.1⟩
  | str z => exact ⟨_, .str z, (TW.ot "str" (by simp)).1, (TW.ot "str" (by simp)).2.1⟩
  | tup h => exact ⟨_, .tup h, (TW.ot "tuple" (by simp)).1, (TW.ot "tuple" (by simp)).2.1⟩
  | sch h g => exact ⟨_, h.ty Z I, TW.ts, TW.ks⟩
/-- no tree -/
def NotT (K : PySem.W.Frag) (CT : Addr) (H : Hp) (x : V) : Prop := ∃ ty, TyX K H x ty ∧ PySem.W.kitOne K ty (.ref CT) = some false
end Ks
set_option Elab.async false
set_option linter.all false
set_option maxRecDepth 100000
set_option maxHeartbeats 4000000
/-! A head by one run, with facts of one's own: a Bool over the written part, and the defs. -/
namespace Gd
open PySem PySem.Spec PyProof.Rows L2
abbrev AlX : Type := Bool × List He.FnV
def obsX (tab : PySem.W.Frag → Bool) (fn : List He.FnD) (K : PySem.W.Frag) : AlX := (tab K && fn.all fun d => PySem.W.keepIn K (.ref (He.fAd K d.at_)) && (He.Fa.code d.at_ d.qual).ok K, fn.map fun d => He.fnObs K d.at_)
def SaysX (tab : PySem.W.Frag → Bool) (fn : List He.FnD) (K : PySem.W.Frag) : Prop := obsX tab fn K = (true, fn.map He.FnD.val)
def obsXG (n : Nat) (tab : PySem.W.Frag → Bool) (fn : List He.FnD) (g : Addr → Option Obj) : AlX := obsX tab fn (He.frG g (He.asG g n))
def hookX (n : Nat) (tab : PySem.W.Frag → Bool) (fn : List He.FnD) : PySem.W.Hook where
  α := AlX
  obs := fun s => obsXG n tab fn s.heap.get?
  val := fun _ => (true, fn.map He.FnD.val)
  says := fun _ h => ∃ K : PySem.W.Frag, K.In h ∧ SaysX tab fn K
  of := fun _ _ e => ⟨_, He.frG_in, e⟩
  keeps := fun _ _ _ ⟨K, hK, c⟩ k => ⟨K, PySem.W.Frag.In.keeps hK k, c⟩
theorem obsXG_eq {n : Nat} {tab : PySem.W.Frag → Bool} {fn : List He.FnD} {g : Addr → Option Obj} {s : Shared} (h : ∀ a, g a = s.heap.get? a) : obsXG n tab fn g = (hookX n tab fn).obs s := by
  obtain rfl : g = s.heap.get? := funext h
  rfl
section
variable {tab : PySem.W.Frag → Bool} {fn : List He.FnD} {K : PySem.W.Frag}
theorem SaysX.facts (c : SaysX tab fn K) : tab K = true := (He.ba (show (tab K && fn.all fun d => PySem.W.keepIn K (.ref (He.fAd K d.at_)) && (He.Fa.code d.at_ d.qual).ok K) = true from congrArg Prod.fst c)).1
/-- a def of the text where the run left it -/
theorem SaysX.fun_ (c : SaysX tab fn K) (i : Nat) {d : He.FnD} {st : Stmt} (h : fn[i]? = some d) (e : d = ⟨d.at_, d.name, d.qual, defArgs st, defBody st, defScope st⟩) : ∃ fd, Fun K d.name d.qual st (He.fAd K d.at_) fd := by
  have c2 := (He.ba (show (tab K && fn.all fun d => PySem.W.keepIn K (.ref (He.fAd K d.at_)) && (He.Fa.code d.at_ d.qual).ok K) = true from congrArg Prod.fst c)).2
  obtain ⟨k1, k2⟩ := He.ba (List.all_eq_true.mp c2 d (List.mem_of_getElem? h))
  have e1 : fn.map (fun d => He.fnObs K d.at_) = fn.map He.FnD.val := congrArg Prod.snd c
  have e2 : (fn.map fun d => He.fnObs K d.at_)[i]? = (fn.map He.FnD.val)[i]? := by rw [e1]
  rw [List.getElem?_map, List.getElem?_map, h] at e2
  obtain ⟨oc, od, osl, kV, doc, pm, an, cdv, ct, lk, hc⟩ := He.fn_ok (Option.some.inj e2) k2
  rw [e] at lk
  exact ⟨_, ⟨⟨oc, od, kV, doc, pm, an, cdv, ct, osl, rfl, lk, hc⟩, k1⟩⟩
end
theorem walk_goE {l : PySem.W.OpenLaw} {n k : Nat} {q : Program} {loose : List Str} {XP : (Str → Option Value) → Heap → Prop} {YP : World → Heap → Prop} {d : DefRec} {x : Str}
    (hn : l.most = some n) (hn2 : n ≤ sizeLine) (hdf : d.params.defaults = []) (hR : Room k callerA)
    (F : ∀ (w : World) (mg : Str → Option Value) (fa : Addr) (h : Heap), YP w h → h.Ns mainGlobals mg → mg d.name = some (.ref fa) →
      ∃ (K : PySem.W.Frag) (fd : FuncData) (sp : Sp), K.In h ∧ (∀ (s : Shared) (u : Value), BindsTo s fd ⟨[u], []⟩ [(x, u)]) ∧ (∀ (H : Hp) (a : Addr) (ns : List Int), ns.length ≤ n → SqL K H a (ns.map V.int) → sp [.ref a] H (fun v _ => v = .bl true) fun _ _ _ => False) ∧
        ∀ base : Heap, K.In base → base.Ns mainGlobals mg → Pr l.prog w K mg base CX0 k fa fd [x] sp) :
    PySem.W.WalkO q loose XP YP l.row.toRowW d [] (fun f vs => PySem.call f vs) := by
  refine Att.attach_call hn hdf fun w s0 s1 mg mb fa o pm cd doc a vs ns G Y ho hd hcd hmg hobj hints hlen hg => ?_
  obtain ⟨K, fd, sp, KX, hb, hsp, hF⟩ := F w mg fa _ Y G.T.g hmg
  exact law_go KX G.T.g G.T.b G.T.builtins G.T.nolimit hg hobj hints (Nat.le_trans hlen hn2) hR hF hb (fun H _ hS => hsp H a ns hlen hS) fun _ _ _ z => z
end Gd
set_option Elab.async false
set_option linter.all false
set_option maxRecDepth 100000
set_option maxHeartbeats 4000000
/-! raise C(), C an own class without a field; x < y of data -/
namespace Gd
open PySem PySem.Spec PyProof.Rows L2
structure Zro (K : PySem.W.Frag) (mg : Str → Option Value) (nm : Str) (C : Addr) : Prop where
  gl : mg nm = some (.ref C)
  ex : ∃ (B newId initId : String) (bmB : List Value), ExcBaseFacts B newId initId bmB ∧ PySem.W.excIn K C bmB newId = true
  kp : PySem.W.keepIn K (.ref C) = true
  sb : PySem.W.subIn K (.ref C) (.type "BaseException") = some true
  ty : PySem.W.typeIn K (.ref C) = some (.type "type")
section
variable {X : Cx}
theorem pmk_own0 {C : Addr} {bmB : List Value} {B newId initId : String} {x : Str} {p pos : Pos} (F : ExcBaseFacts B newId initId bmB) (q : PySem.W.excIn X.K C bmB newId = true) (gC : X.mg x = some (.ref C))
    (kC : PySem.W.keepIn X.K (.ref C) = true) (r : Raises X (.ref C)) (hg : Gl X x) (hdb : (x == ("__debug__" : Str)) = false := by decide) :
    PMk X (.Call (.Name x p) [] [] pos) (fun _ H Q => Q (.ref C) none H) := by
  intro pins s σ H Q I h
  refine wpAny_Call_Name_kw (ld_glob I hg gC ?_ hdb)
  refine PySem.W.callWith_K0 I.kIn kC ?_
  show wpAny _ _ (call (.ref C) []) _ _ _
  obtain ⟨bm, N, nm, qn, bs, hdct, sn, sub, ab, col, dd, k0, k1, k2, k3, k5, mN, hC, hN, hni, T⟩ := exc_obj I.kIn q
  refine wpAny_call_exc_subT F T hC hN hni (fun h' e hm => ?_) (Nat.zero_le _)
  exact mk_of I hm r h (I.hok.gone hm.new)
theorem pmk_zro {C : Addr} {x : Str} {p pos : Pos} (O : Zro X.K X.mg x C) (hg : Gl X x) (hdb : (x == ("__debug__" : Str)) = false := by decide) : PMk X (.Call (.Name x p) [] [] pos) (fun _ H Q => Q (.ref C) none H) := by
  obtain ⟨B, newId, initId, bmB, F, q⟩ := O.ex
  exact pmk_own0 F q O.gl O.kp (raises_own O.sb O.ty) hg hdb
/-- x < y of data that are alike -/
def rLtD (K : PySem.W.Frag) : R2 := fun x y H Q => ∃ d e, Dp K H x d ∧ Dp K H y e ∧ PySem.W.alike d e = true ∧ d ≠ .none ∧ d.depth ≤ 64 ∧ Q (.bl (PySem.W.dataLt d e)) H
theorem op_ltD (hu : X.A.units + 64 < cLine) : OpR X (compareOp .Lt) (rLtD X.K) := by
  intro pins s σ H x y v u Q I rx ry h
  obtain ⟨d, e, hd, he, al, nn, dd, q⟩ := h
  obtain ⟨as, r1⟩ := Dp.reads I d x v hd rx
  obtain ⟨bs, r2⟩ := Dp.reads I e y u he ry
  have hm : X.A.units + min d.depth e.depth < cLine := by omega
  exact PySem.W.rcLt_alike d e X.A s v u as bs r1 r2 al nn hm _ _ _ _ ⟨.bl _, H, I, rfl, q⟩
end
/-- such a class's facts as Bools -/
def zbm : Nat → List Value
  | 0 => [.type "ValueError", .type "Exception", .type "BaseException", .type "object"]
  | 1 => [.type "LookupError", .type "Exception", .type "BaseException", .type "object"]
  | _ => [.type "ArithmeticError", .type "Exception", .type "BaseException", .type "object"]
end Gd
set_option Elab.async false
set_option linter.all false
set_option maxRecDepth 100000
set_option maxHeartbeats 4000000
namespace Ks
open PySem PySem.Spec PyProof.Rows L2 Gd Kx
/-! ### paths in a tree -/
abbrev sTat : Stmt := Kx.topS 50
theorem scTat : FnScope ["tree", "path", "number"] ["tree", "path"] (defScope sTat) := ⟨rfl, rfl, rfl, by decide +kernel, rfl, by decide +kernel, by decide +kernel⟩
theorem scGi : FnScope ["self", "at"] ["self", "at"] (defScope (cT 9)) := ⟨rfl, rfl, rfl, by decide +kernel, rfl, by decide +kernel, by decide +kernel⟩
/-- a part of a path, right or not -/
inductive Pv (H : Hp) : V → Prop
  | int (n : Int) : Pv H (.int n)
  | bl (b : Bool) : Pv H (.bl b)
  | non : Pv H .non
  | str (z : Str) : Pv H (.str z)
  | tup {a : Addr} {xs : List V} : H a = some (.tup xs) → Pv H (.ref a)
theorem Pv.tk {H H' : Hp} {v : V} (h : Pv H v) (s : Tk H H') : Pv H' v := by
  cases h with
  | int n => exact .int n
  | bl b => exact .bl b
  | non => exact .non
  | str z => exact .str z
  | tup e => exact .tup (s _ _ e)
def isI : V → Bool
  | .int _ => true
  | _ => false
def numB : V → Int → Int → Bool
  | .int n, a, b => decide (a ≤ n) && decide (n ≤ b)
  | _, _, _ => false
/-- one step down -/
def stepT (t : Tr) : V → Option Tr
  | .int n => if 0 ≤ n then t.kids[n.toNat]? else none
  | _ => none
def walk : Tr → List V → Option Tr
  | t, [] => some t
  | t, v :: r => (stepT t v).bind fun c => walk c r
theorem num_step {t : Tr} {v : V} : numB v 0 (((t.kids.length : Nat) : Int) - 1) = (stepT t v).isSome := by
  cases v with
  | int n =>
    show (decide (0 ≤ n) && decide (n ≤ ((t.kids.length : Nat) : Int) - 1)) = (if 0 ≤ n then t.kids[n.toNat]? else none).isSome
    by_cases h0 : 0 ≤ n
    · rw [decide_eq_true h0, Bool.true_and, if_pos h0]
      by_cases h1 : n ≤ ((t.kids.length : Nat) : Int) - 1
      · rw [decide_eq_true h1, List.getElem?_eq_getElem (by omega)]
        rfl
      · rw [decide_eq_false h1, List.getElem?_eq_none (by omega)]
        rfl
    · rw [decide_eq_false h0, if_neg h0]
      rfl
  | _ => rfl
theorem step_int {t c : Tr} {v : V} (h : stepT t v = some c) : ∃ k : Nat, v = .int ((k : Nat) : Int) ∧ t.kids[k]? = some c := by
  cases v with
  | int n =>
    have h' : (if 0 ≤ n then t.kids[n.toNat]? else none) = some c := h
    by_cases h0 : 0 ≤ n
    · rw [if_pos h0] at h'
      exact ⟨n.toNat, by congr 1; omega, h'⟩
    · rw [if_neg h0] at h'
      cases h'
  | _ => cases h
section
variable {P : Program} {w : World} {K : PySem.W.Frag} {mg : Str → Option Value} {base : Heap} {CT CS IP : Addr}
def spIintV : Sp := fun vs H Q _ => ∃ v, vs = [v] ∧ Pv H v ∧ Q (.bl (isI v)) H
theorem ok_iintV {f : Addr} {fd : FuncData} (F : Fun K "is_integer" "is_integer" sIint f fd) (T : TS0 mg) (N : TsN mg) : FnOk P w K mg base CX0 1 f fd ["value"] spIintV := by
  refine F.ok scIint (fun vs H Q E h => ?_) (fun cv A ou s H vs Q E hr h => ?_)
  · obtain ⟨v, rfl, _⟩ := h
    rfl
  obtain ⟨v, rfl, pv', q⟩ := h
  refine ⟨_, pss_one (ps_ret (pe_and (pe_callB call_isi (by rfl) T.isi boot_isinstance (pa_cons (pv 0) (pa_cons (pe_bltn (v := .ty "int") (by rfl) N.int boot_int rfl) pa_nil)))
    (pe_one (pe_not (pe_callB call_isi (by rfl) T.isi boot_isinstance (pa_cons (pv 0) (pa_cons (pe_bltn (v := .ty "bool") (by rfl) N.bool boot_bool rfl) pa_nil))))))), ?_⟩
  cases pv' with
  | int n =>
    refine ⟨.int n, rfl, .int n, .ty "int", _, _, true, rfl, .ty "int", .base (.int n), kit_ty (by decide +kernel), _, rfl, iteT ?_⟩
    exact ⟨.int n, rfl, .int n, .ty "bool", _, _, false, rfl, .ty "bool", .base (.int n), kit_ty (by decide +kernel), _, rfl, q⟩
  | bl b =>
    refine ⟨.bl b, rfl, .bl b, .ty "int", _, _, true, rfl, .ty "int", .base (.bl b), kit_ty (by decide +kernel), _, rfl, iteT ?_⟩
    exact ⟨.bl b, rfl, .bl b, .ty "bool", _, _, true, rfl, .ty "bool", .base (.bl b), kit_ty (by decide +kernel), _, rfl, q⟩
  | non => exact ⟨.non, rfl, .non, .ty "int", _, _, false, rfl, .ty "int", .base .non, kit_ty (by decide +kernel), _, rfl, iteF q⟩
  | str z => exact ⟨.str z, rfl, .str z, .ty "int", _, _, false, rfl, .ty "int", .base (.str z), kit_ty (by decide +kernel), _, rfl, iteF q⟩
  | tup e => exact ⟨_, rfl, _, .ty "int", _, _, false, rfl, .ty "int", .base (.tup e), kit_ty (by decide +kernel), _, rfl, iteF q⟩
def spInumV : Sp := fun vs H Q _ => ∃ (v : V) (a b : Int), vs = [v, .int a, .int b] ∧ Pv H v ∧ Q (.bl (numB v a b)) H
theorem ok_inumV {f fi : Addr} {fd fdi : FuncData} (F : Fun K "is_number" "is_number" sInum f fd)
    (GI : FnOk P w K mg base CX0 1 fi fdi ["value"] spIintV) (ki : PySem.W.keepIn K (.ref fi) = true) (bI : Binds K fdi ["value"] []) (gI : mg "is_integer" = some (.ref fi)) : FnOk P w K mg base CX0 2 f fd ["value", "least", "most"] spInumV := by
  refine F.ok scInum (fun vs H Q E h => ?_) (fun cv A ou s H vs Q E hr h => ?_)
  · obtain ⟨v, a, b, rfl, _⟩ := h
    rfl
  obtain ⟨v, a, b, rfl, pv', q⟩ := h
  refine ⟨_, pss_one (ps_ret (pe_and (pe_call GI hr (by rfl) gI ki bI .nil pass0 (pa_cons (pv 0) pa_nil)) (pe_one (pe_chain op_le op_le (pv 1) (pv 0) (pv 2))))), ?_⟩
  refine ⟨v, rfl, v, rfl, pv', ?_⟩
  cases v with
  | int n =>
    refine ⟨_, rfl, iteT ⟨.int a, rfl, .int n, rfl, _, _, rfl, rfl, _, rfl, ?_⟩⟩
    have q' : Q (.bl (decide (a ≤ n) && decide (n ≤ b))) H := q
    by_cases h1 : a ≤ n
    · rw [decide_eq_true h1] at q' ⊢
      exact iteT ⟨.int b, rfl, _, _, rfl, rfl, q'⟩
    · rw [decide_eq_false h1] at q' ⊢
      exact iteF q'
  | _ => exact ⟨_, rfl, iteF q⟩
/-- a tree at a path -/
def spTat (K : PySem.W.Frag) (CT CS IP : Addr) : Sp := fun vs H Q E => ∃ (a : Addr) (m : Md) (t : Tr) (x : V), vs = [.ref a, x] ∧ TrAt CT CS m H a t ∧
  (((∃ ty, TyX K H x ty ∧ PySem.W.kitOne K ty (.type "tuple") = some false) ∧ ∀ d H', Same H H' → H' d = some (.xd [("value", x)]) → E (.ref IP) (some d) H') ∨
   (∃ (L : Addr) (xs : List V), x = .ref L ∧ H L = some (.tup xs) ∧ (∀ v ∈ xs, Pv H v) ∧ (walk t xs = none → ∀ d H', Same H H' → H' d = some (.xd [("value", x)]) → E (.ref IP) (some d) H') ∧
     ∀ u, walk t xs = some u → ∀ b H', Same H H' → TrAt CT CS m H' b u → Q (.ref b) H'))
set_option maxHeartbeats 8000000 in
theorem ok_tat {f fi : Addr} {fd fdi : FuncData} (F : Fun K "_tree_at" "_tree_at" sTat f fd) (T : TS0 mg) (C : Tcs P w K mg base CT CS) (O : One P w K mg base "InvalidPath" "value" IP) (ty : PySem.W.typeIn K (.ref IP) = some (.type "type"))
    (GI : FnOk P w K mg base CX0 2 fi fdi ["value", "least", "most"] spInumV) (ki : PySem.W.keepIn K (.ref fi) = true) (bI : Binds K fdi ["value", "least", "most"] []) (gI : mg "is_number" = some (.ref fi)) :
    FnOk P w K mg base (CX P w) 4 f fd ["tree", "path"] (spTat K CT CS IP) := by
  refine F.okX scTat (fun vs H Q E h => ?_) (fun cv A ou s H vs Q E hr h => ?_)
  · obtain ⟨a, m, t, x, rfl, _⟩ := h
    rfl
  obtain ⟨a, m, t, x, rfl, ht, h⟩ := h
  obtain ⟨⟨Zc, Ic, gTr, _, _, ⟨pF, fF, dF, PF, FF, bFF⟩, _, _⟩, _, _, _, _, _, _, _⟩ := C
  have hr2 : Room 2 (A.deeper (envOfC "_tree_at" (defScope sTat) s.heap.objs.size f cv)) := hr.mono (by decide)
  refine ⟨_, pss_cons (ps_if (pt_not (pt_val (pe_callB call_isi (by rfl) T.isi boot_isinstance (pa_cons (pv 1) (pa_cons (pe_bltn (v := .ty "tuple") (by rfl) T.tup boot_tuple rfl) pa_nil))))) (pss_one (ps_raise rfl (takes_of rfl rfl rfl rfl) (pmk_one O ty hr2 (by rfl) (pv 1)))) pss_nil)
    (pss_cons (ps_for PassesOwn.leaving rfl (pi_tup (pv 1)) (pg_name (i := 2) scTat.nd rfl (.inl rfl))
      (pss_cons (ps_if (pt_not (pt_val (pe_call GI hr2 (by rfl) gI ki bI .nil pass0 (pa_cons (pv 2) (pa_cons pe_int (pa_cons (pe_op op_sub (pe_callB call_len_seq (by rfl) T.len PySem.boot_len (pa_cons (pe_prop (pv 0) Zc.cls PF FF hr2 bFF .nil pass0 rfl) pa_nil)) pe_int) pa_nil)))))) (pss_one (ps_raise rfl (takes_of rfl rfl rfl rfl) (pmk_one O ty hr2 (by rfl) (pv 1)))) pss_nil)
      (pss_one (ps_set (i := 0) scTat.nd rfl (.inl rfl) (pe_ix ix_tup (pe_prop (pv 0) Zc.cls PF FF hr2 bFF .nil pass0 rfl) (pv 2) (fun _ _ => rfl))))))
    (pss_one (ps_ret (pv 0)))), ?_⟩
  rcases h with ⟨⟨ty1, tx, ek⟩, q⟩ | ⟨L, xs, rfl, eL, pvs, q0, q1⟩
  · exact ⟨x, rfl, x, .ty "tuple", ty1, _, false, rfl, .ty "tuple", tx, ek, _, rfl, iteT ⟨x, rfl, fun d H' s n e => q d H' s e⟩⟩
  refine ⟨.ref L, rfl, .ref L, .ty "tuple", _, _, true, rfl, .ty "tuple", .base (.tup eL), kit_ty (by decide +kernel), _, rfl, iteF ?_⟩
  refine ⟨.ref L, rfl, L, rfl, ⟨_, SqT.of eL⟩, for_tup (K := K) (a := L) (xs := xs) (fun i σ H' => ∃ (a' : Addr) (t' : Tr) (o2 : Option V), σ = [some (.ref a'), some (.ref L), o2] ∧ Same H H' ∧ TrAt CT CS m H' a' t' ∧ walk t xs = walk t' (xs.drop i)) ⟨a, t, none, rfl, fun _ _ e => e, ht, rfl⟩ (fun i σ H' _ p => ?_) ?_ ?_⟩
  · obtain ⟨_, _, _, _, s1, _⟩ := p
    exact SqT.of (s1 _ _ eL)
  · rintro i v σ H1 hv ⟨a', t', o2, rfl, s1, h1, ew⟩
    have hi := (List.getElem?_eq_some_iff.mp hv).1
    have dr : xs.drop i = v :: xs.drop (i + 1) := by
      rw [List.drop_eq_getElem_cons hi]
      congr 1
      exact (List.getElem?_eq_some_iff.mp hv).2
    rw [dr] at ew
    have pv' := (pvs v (List.mem_of_getElem? hv)).tk (.of s1)
    cases id h1 with
    | @mk _ dx R0 sA FA _ bs e hs1 hR1 hF1 lb kb =>
    refine ⟨v, rfl, .ref a', rfl, a', dx, _, rfl, e, a', dx, _, _, rfl, e, trF_F, FA, _, rfl, .inr (SqT.of hF1), _, _, rfl, rfl, v, 0, _, rfl, pv', ?_⟩
    rw [show (((bs.map V.ref).length : Nat) : Int) = ((t'.kids.length : Nat) : Int) by rw [List.length_map, lb], num_step]
    cases hst : stepT t' v with
    | none =>
      refine ⟨_, rfl, iteT ⟨.ref L, rfl, fun d H2 s2 n e2 => q0 ?_ d H2 (s1.trans s2) e2⟩⟩
      rw [ew]
      show (stepT t' v).bind _ = none
      rw [hst]
      rfl
    | some c =>
      obtain ⟨k, rfl, ek⟩ := step_int hst
      have lk := (List.getElem?_eq_some_iff.mp ek).1
      have eb : bs[k]? = some (bs[k]'(by omega)) := List.getElem?_eq_getElem _
      refine ⟨_, rfl, iteF ⟨.ref a', rfl, a', dx, _, rfl, e, a', dx, _, _, rfl, e, trF_F, .int ((k : Nat) : Int), rfl, FA, _, _, _, rfl, rfl, SqT.of hF1, atI_nat (by rw [List.getElem?_map, eb]; rfl), _, c, _, rfl, s1, kb k _ c eb ek, ?_⟩⟩
      rw [ew]
      show (stepT t' (.int ((k : Nat) : Int))).bind _ = _
      rw [hst]
      rfl
  · rintro σ H1 ⟨a', t', o2, rfl, s1, h1, ew⟩
    rw [List.drop_length] at ew
    exact ⟨.ref a', rfl, q1 t' ew a' H1 s1 h1⟩
theorem ok_gi {f fa : Addr} {fd fda : FuncData} (F : Fun K "__getitem__" "Tree.__getitem__" (cT 9) f fd)
    (GA : FnOk P w K mg base (CX P w) 4 fa fda ["tree", "path"] (spTat K CT CS IP)) (ka : PySem.W.keepIn K (.ref fa) = true) (bA : Binds K fda ["tree", "path"] []) (gA : mg "_tree_at" = some (.ref fa)) : FnOk P w K mg base (CX P w) 5 f fd ["self", "at"] (spTat K CT CS IP) := by
  refine F.okX scGi (fun vs H Q E h => ?_) (fun cv A ou s H vs Q E hr h => ?_)
  · obtain ⟨a, m, t, x, rfl, _⟩ := h
    rfl
  obtain ⟨a, m, t, x, rfl, ht, h⟩ := h
  exact ⟨_, pss_one (ps_ret (pe_call GA hr (by rfl) gA ka bA .nil (passes_call (takes_of rfl rfl rfl rfl) (fun _ _ _ _ h => h)) (pa_cons (pv 0) (pa_cons (pv 1) pa_nil)))), .ref a, rfl, x, rfl, a, m, t, x, rfl, ht, h⟩
end
end Ks
set_option Elab.async false
set_option linter.all false
set_option maxRecDepth 100000
set_option maxHeartbeats 4000000
namespace Ks
open PySem PySem.Spec PyProof.Rows L2 Gd Kx
/-! ### rows of a text, right or not -/
def fitR (ks : List Str) (o : Option Nat) (k : Str) : Bool := match o with
  | some n => decide (ks[n]? = some k)
  | none => false
def rowB (m : Md) (ks : List Str) (r : Ro) : Bool := match m.rs.find? (fun w => decide (w.1 = r.1)) with
  | some w => decide (r.2.length = w.2.2.length) && (List.zipWith (fitR ks) r.2 w.2.2).all id
  | none => false
theorem find_row {m : Md} {z : Str} (h : z ∈ m.rs.map (·.1)) : ∃ (w : Rw) (pl : Nat), m.rs.find? (fun w => decide (w.1 = z)) = some w ∧ m.rs[pl]? = some w ∧ w.1 = z := by
  obtain ⟨w0, hw0, e0⟩ := List.mem_map.mp h
  cases e : m.rs.find? (fun w => decide (w.1 = z)) with
  | none =>
    have := List.find?_eq_none.mp e w0 hw0
    exact absurd (decide_eq_true e0) this
  | some w =>
    have h1 := List.find?_some e
    obtain ⟨pl, hpl, e2⟩ := List.getElem_of_mem (List.mem_of_find?_eq_some e)
    exact ⟨w, pl, rfl, by rw [List.getElem?_eq_getElem hpl, e2], of_decide_eq_true h1⟩
theorem find_no {m : Md} {z : Str} (h : z ∉ m.rs.map (·.1)) : m.rs.find? (fun w => decide (w.1 = z)) = none := by
  refine List.find?_eq_none.mpr fun w hw e => h (List.mem_map.mpr ⟨w, hw, of_decide_eq_true e⟩)
section
variable {P : Program} {w : World} {K : PySem.W.Frag} {mg : Str → Option Value} {base : Heap} {CS : Addr}
def spIrwO (CS : Addr) : Sp := fun vs H Q _ => ∃ (s L : Addr) (x : V) (m : Md) (r : Ro) (ks : List Str), vs = [.ref s, x, .ref L] ∧ ScAt CS H s m ∧ Good m ∧ RowO H x r ∧ r.2.length ≤ 1000 ∧ H L = some (.lst (ks.map V.str)) ∧ ks.length ≤ 200 ∧ ∀ H', Same H H' → Q (.bl (rowB m ks r)) H'
set_option maxHeartbeats 8000000 in
theorem ok_irwO {f fi fcn : Addr} {fd fdi dcn : FuncData} (F : Fun K "_is_row" "_is_row" sIrw f fd) (T : TS0 mg) (N : TsN mg) (S : Sch P w K mg base CS)
    (Dcn : Dm K CS "__contains__" fcn) (Fcn : FnOk P w K mg base CX0 2 fcn dcn ["self", "value"] (spCn K CS)) (bcn : Binds K dcn ["self", "value"] [])
    (GI : FnOk P w K mg base CX0 2 fi fdi ["value", "least", "most"] spInumV) (ki : PySem.W.keepIn K (.ref fi) = true) (bI : Binds K fdi ["value", "least", "most"] []) (gI : mg "is_number" = some (.ref fi)) :
    FnOk P w K mg base CX0 4 f fd ["schema", "row", "kinds"] (spIrwO CS) := by
  refine F.ok scIrw (fun vs H Q E h => ?_) (fun cv A ou s H vs Q E hr h => ?_)
  · obtain ⟨s, L, x, m, r, ks, rfl, _⟩ := h
    rfl
  obtain ⟨sa, L, x, m, r, ks, rfl, hs, g, ⟨b, q0, rfl, eb, eq0⟩, lr, eL, lk, q⟩ := h
  obtain ⟨Z, _, _, _, ⟨fco, dco, Mco, Fco, bco⟩⟩ := S
  have hr2 : Room 2 (A.deeper (envOfC "_is_row" (defScope sIrw) s.heap.objs.size f cv)) := hr.mono (by decide)
  refine ⟨_, pss_cons (ps_if (PW.pt (pw_or (pt_not (pt_val (pe_callB call_isi (by rfl) T.isi boot_isinstance (pa_cons (pv 1) (pa_cons (pe_bltn (v := .ty "tuple") (by rfl) T.tup boot_tuple rfl) pa_nil)))))
        (pw_or1 (pt_cmpR op_ne (pe_callB call_len_seq (by rfl) T.len PySem.boot_len (pa_cons (pv 1) pa_nil)) pe_int (nomark _))))) (pss_one (ps_ret pe_bl)) pss_nil)
    (pss_cons (ps_asg (pv 1) (pg_tup (by rfl) (pgs_cons (pg_name (i := 3) scIrw.nd rfl (.inl rfl)) (pgs_cons (pg_name (i := 4) scIrw.nd rfl (.inl rfl)) pgs_nil))))
    (pss_cons (ps_if (PW.pt (pw_or (pt_cmpR (op_notInO Dcn Fcn hr2 bcn pass0) (pv 3) (pv 0) (by rfl))
        (pw_or1 (pt_not (pt_val (pe_callB call_isi (by rfl) T.isi boot_isinstance (pa_cons (pv 4) (pa_cons (pe_bltn (v := .ty "tuple") (by rfl) T.tup boot_tuple rfl) pa_nil)))))))) (pss_one (ps_ret pe_bl)) pss_nil)
    (pss_cons (ps_set (i := 5) scIrw.nd rfl (.inl rfl) (pe_ix ix_tup (pe_meth (pv 0) Z.cls Mco Fco hr bco .nil pass0 (pa_cons (pv 3) pa_nil)) pe_int (fun _ _ => rfl)))
    (pss_cons (ps_if (pt_cmpR op_ne (pe_callB call_len_seq (by rfl) T.len PySem.boot_len (pa_cons (pv 4) pa_nil)) (pe_callB call_len_seq (by rfl) T.len PySem.boot_len (pa_cons (pv 5) pa_nil)) (nomark _)) (pss_one (ps_ret pe_bl)) pss_nil)
    (pss_cons (ps_set (i := 6) scIrw.nd rfl (.inr rfl) (pe_op op_sub (pe_callB call_len_seq (by rfl) T.len PySem.boot_len (pa_cons (pv 2) pa_nil)) pe_int))
    (pss_one (ps_ret (pe_callB (cr_all rfl) (by rfl) T.all boot_all (pa_cons (pe_lc (own := [("at", 7), ("kind", 8)]) (g := gTup K 2 (gCons (gName 7) (gCons (gName 8) gNil))) (tt := tYes) (by rfl) scIrw.nd
        (RZ.pi_zipA (by rfl) N.zip (pa_cons (pv 4) (pa_cons (pv 5) pa_nil))) (blkOk_by (own := [("at", 7), ("kind", 8)]) (N := nIrw) (sc := defScope sIrw) (by decide +kernel))
        (fun _ _ _ _ _ => pg_tup (by rfl) (pgs_cons (pg_name (i := 7) scIrw.nd rfl (Or.inl rfl)) (pgs_cons (pg_name (i := 8) scIrw.nd rfl (Or.inl rfl)) pgs_nil))) (fun _ _ _ _ _ => pts_nil)
        (fun _ _ _ _ _ => asTE (te := tAndV (tCall spInumV [] E0 (tCons (tVar 7) (tCons (tC (.int 0)) (tCons (tVar 6) tNil)))) (tOp rEq (tOp (rIxL K) (tVar 2) (tVar 7)) (tVar 8))) (pe_and (pe_call GI hr2 (by rfl) gI ki bI .nil pass0 (pa_cons (pv 7) (pa_cons pe_int (pa_cons (pv 6) pa_nil)))) (pe_one (pe_cmpR op_eq (pe_ix ix_list (pv 2) (pv 7) (fun _ _ => rfl)) (pv 8) (nomark _)))) rfl)) pa_nil))))))))), ?_⟩
  obtain ⟨dS, kA, cA, nA, ⟨dp, ea, edp⟩, ak, ac, an⟩ := id hs
  obtain ⟨ys, eac, pac⟩ := id ac
  have lq : (r.2.map oN).length = r.2.length := List.length_map ..
  refine ⟨.ref b, rfl, .ref b, .ty "tuple", _, _, true, rfl, .ty "tuple", .base (.tup eb), kit_ty (by decide +kernel), _, rfl, iteF ?_⟩
  refine ⟨.ref b, rfl, b, _, rfl, .inr (SqT.of eb), rfl, _, rfl, ?_⟩
  rw [show (!decide (V.int (([V.str r.1, V.ref q0].length : Nat) : Int) = V.int 2)) = false by rw [show ([V.str r.1, V.ref q0].length : Nat) = 2 from rfl]; rfl]
  refine iteF ?_
  refine ⟨.ref b, rfl, b, _, rfl, SqT.of eb, rfl, _, _, rfl, _, _, rfl, rfl, ?_⟩
  by_cases hm : r.1 ∈ m.rs.map (·.1)
  rotate_left
  · have ef := find_no hm
    have eb0 : rowB m ks r = false := by unfold rowB; rw [ef]
    refine ⟨.str r.1, rfl, .ref sa, rfl, sa, dS, _, rfl, ea, sa, kA, cA, nA, .str r.1, _, false, rfl, ⟨dS, _, ⟨dp, ea, edp⟩, an⟩, an, .inl ⟨r.1, rfl, (decide_eq_false hm).symm⟩, false, rfl, ?_⟩
    have := q H fun _ _ e => e
    rw [eb0] at this
    exact ⟨_, rfl, iteT this⟩
  obtain ⟨rw', pl, ef, epl, en⟩ := find_row hm
  have ezn : (m.rs.map (·.1))[pl]? = some r.1 := by rw [List.getElem?_map, epl, ← en]; rfl
  obtain ⟨y, ey, vy⟩ := rows_has' pac epl
  obtain ⟨rb, fb, rfl, erb, efb⟩ := id vy
  have lf : (rw'.2.2.map V.str).length = rw'.2.2.length := List.length_map ..
  have er : rowB m ks r = (decide (r.2.length = rw'.2.2.length) && (List.zipWith (fitR ks) r.2 rw'.2.2).all id) := by unfold rowB; rw [ef]
  rw [er] at q
  refine ⟨.str r.1, rfl, .ref sa, rfl, sa, dS, _, rfl, ea, sa, kA, cA, nA, .str r.1, _, true, rfl, ⟨dS, _, ⟨dp, ea, edp⟩, an⟩, an, .inl ⟨r.1, rfl, (decide_eq_true hm).symm⟩, true, rfl, ?_⟩
  refine ⟨_, rfl, iteF ⟨.ref q0, rfl, .ref q0, .ty "tuple", _, _, true, rfl, .ty "tuple", .base (.tup eq0), kit_ty (by decide +kernel), _, rfl, iteF ?_⟩⟩
  refine ⟨.ref sa, rfl, sa, dS, _, rfl, ea, rfl, .str r.1, rfl, sa, kA, cA, nA, _, ys, r.1, pl, .ref rb, rfl, ⟨dS, _, ⟨dp, ea, edp⟩, an⟩, an, g.rd, ezn, eac, ey, ?_⟩
  refine ⟨rb, _, _, .ref fb, rfl, rfl, SqT.of erb, rfl, ?_⟩
  refine ⟨.ref q0, rfl, q0, _, rfl, .inr (SqT.of eq0), .ref fb, rfl, fb, _, rfl, .inr (SqT.of efb), rfl, _, rfl, ?_⟩
  rw [lq, lf]
  by_cases hl : r.2.length = rw'.2.2.length
  rotate_left
  · rw [show (!decide (V.int ((r.2.length : Nat) : Int) = V.int ((rw'.2.2.length : Nat) : Int))) = true by rw [decide_eq_false (fun z => hl (by injection z with z; omega))]; rfl]
    have := q H fun _ _ e => e
    rw [decide_eq_false hl] at this
    exact iteT this
  rw [show (!decide (V.int ((r.2.length : Nat) : Int) = V.int ((rw'.2.2.length : Nat) : Int))) = false by rw [hl, decide_eq_true rfl]; rfl]
  refine iteF ⟨.ref L, rfl, L, _, rfl, .inl (SqL.of eL), _, _, rfl, rfl, ?_⟩
  have lks : (ks.map V.str).length = ks.length := List.length_map ..
  rw [lks]
  refine ⟨.ref q0, rfl, .ref fb, rfl, q0, fb, r.2.map oN, rw'.2.2.map V.str, rfl, .inr ⟨SqT.of eq0, SqT.of efb, fun D nD => lc_zipT (K := K) (a := q0) (b := fb) (xs := r.2.map oN) (ys := rw'.2.2.map V.str) (by rw [lq, lf, hl]) (fun i H' => Same H H' ∧ H' D = some (.lst (((List.zipWith (fitR ks) r.2 rw'.2.2).take i).map V.bl))) ⟨same_new nD, upd_same⟩ (fun i H' p => ⟨SqT.of (p.1 _ _ eq0), SqT.of (p.1 _ _ efb)⟩) (fun i x y U H' hx hy p nU => ?_) (fun H' p => ?_)⟩⟩
  · obtain ⟨s1, eD⟩ := p
    rw [List.getElem?_map] at hx hy
    cases ho : r.2[i]? with
    | none => rw [ho] at hx; cases hx
    | some o =>
    cases hk : rw'.2.2[i]? with
    | none => rw [hk] at hy; cases hy
    | some k =>
    rw [ho] at hx
    rw [hk] at hy
    cases hx
    cases hy
    have sU := same_new (o := .tup [oN o, .str k]) nU
    have s2 := s1.trans sU
    have ezw : (List.zipWith (fitR ks) r.2 rw'.2.2)[i]? = some (fitR ks o k) := by rw [List.getElem?_zipWith, ho, hk]
    refine ⟨U, _, rfl, SqT.of upd_same, rfl, _, _, rfl, _, _, rfl, rfl, rfl, Gd.yes_if ?_⟩
    cases o with
    | none =>
      have ef2 : fitR ks none k = false := rfl
      refine ⟨.non, rfl, .int (((ks.length : Nat) : Int) - 1), rfl, .non, 0, _, rfl, .non, _, rfl, iteF ?_⟩
      refine ⟨_, sU _ _ eD, ?_, same_upd s2 nD, ?_⟩
      · rw [List.length_map, List.length_take, List.length_zipWith]
        have := sizeLine_eq
        omega
      · rw [upd_same, List.take_add_one, ezw, ef2, Option.toList_some, List.map_append]
        rfl
    | some n =>
      refine ⟨.int ((n : Nat) : Int), rfl, .int (((ks.length : Nat) : Int) - 1), rfl, .int ((n : Nat) : Int), 0, _, rfl, .int _, _, rfl, ?_⟩
      by_cases hn : n < ks.length
      rotate_left
      · have ef2 : fitR ks (some n) k = false := by
          show decide (ks[n]? = some k) = false
          rw [List.getElem?_eq_none (by omega)]
          rfl
        rw [show numB (.int ((n : Nat) : Int)) 0 (((ks.length : Nat) : Int) - 1) = false by
          show (decide ((0 : Int) ≤ ((n : Nat) : Int)) && decide (((n : Nat) : Int) ≤ ((ks.length : Nat) : Int) - 1)) = false
          rw [decide_eq_false (show ¬ ((n : Nat) : Int) ≤ ((ks.length : Nat) : Int) - 1 by omega), Bool.and_false]]
        refine iteF ?_
        refine ⟨_, sU _ _ eD, ?_, same_upd s2 nD, ?_⟩
        · rw [List.length_map, List.length_take, List.length_zipWith]
          have := sizeLine_eq
          omega
        · rw [upd_same, List.take_add_one, ezw, ef2, Option.toList_some, List.map_append]
          rfl
      rw [show numB (.int ((n : Nat) : Int)) 0 (((ks.length : Nat) : Int) - 1) = true by
        show (decide ((0 : Int) ≤ ((n : Nat) : Int)) && decide (((n : Nat) : Int) ≤ ((ks.length : Nat) : Int) - 1)) = true
        rw [decide_eq_true (show (0 : Int) ≤ ((n : Nat) : Int) by omega), decide_eq_true (show ((n : Nat) : Int) ≤ ((ks.length : Nat) : Int) - 1 by omega)]
        rfl]
      have en1 : ks[n]? = some (ks[n]) := List.getElem?_eq_getElem hn
      refine iteT ⟨.ref L, rfl, .int ((n : Nat) : Int), rfl, L, _, _, .str (ks[n]), rfl, rfl, SqL.of (s2 _ _ eL), atI_nat (by rw [List.getElem?_map, en1]; rfl), .str k, rfl, rfl, ?_⟩
      have ef2 : fitR ks (some n) k = decide (V.str (ks[n]) = V.str k) := by
        show decide (ks[n]? = some k) = _
        rw [en1, Bool.eq_iff_iff]
        simp
      refine ⟨_, sU _ _ eD, ?_, same_upd s2 nD, ?_⟩
      · rw [List.length_map, List.length_take, List.length_zipWith]
        have := sizeLine_eq
        omega
      · rw [upd_same, List.take_add_one, ezw, ef2, Option.toList_some, List.map_append]
        rfl
  · obtain ⟨s1, eD⟩ := p
    rw [List.take_of_length_le (by rw [List.length_zipWith, lq]; exact Nat.min_le_left _ _)] at eD
    refine ⟨D, List.zipWith (fitR ks) r.2 rw'.2.2, rfl, SqL.of eD, ?_⟩
    have := q H' s1
    rw [decide_eq_true hl, Bool.true_and] at this
    exact this
end
end Ks
set_option Elab.async false
set_option linter.all false
set_option maxRecDepth 100000
set_option maxHeartbeats 4000000
/-! a def that calls what it got, catches three classes, and has another def say what was caught -/
namespace Gd
open PySem PySem.Spec PyProof.Rows L2 LamX
abbrev nTold : List Str := ["_law_act", "_law_told_here", "_law_e"]
def TTold3 (K : PySem.W.Frag) (c1 c2 c3 : Value) (sp : SpE) : (XK → Hp → VK → Prop) → Hp → VK → Prop := fun tl H Q =>
  tl (fun cls d H' => ∃ b, PySem.W.exmAny K cls [c1, c2, c3] = some b ∧ (b = true → sp cls d H' Q) ∧ (b = false → False)) H
    (fun v H' => ∃ v', (some (some v) : Option (Option V)) = some (some v') ∧ ([V.str "given", v'].length ≤ sizeLine ∧ ∀ p, H' p = none → Q (.ref p) (upd H' p (.lst [.str "given", v']))))
theorem told3 {X : Cx} {x q : Str} {sg : Scope} {g fs : Addr} {c1 c2 c3 : Value} {cdg : Value} {fds : FuncData} {sp : SpE} {k j1 j2 : Nat} {p1 p2 p3 p4 p5 p6 p7 p8 p9 p10 p11 p12 p13 p14 p15 p16 p17 p18 : Pos} (S : FnScope nTold ["_law_act"] sg)
    (le : sg.names.lookup ("_law_e" : Str) = some .local) (lt : sg.names.lookup ("_law_told_here" : Str) = some .local)
    (g1 : sg.names.lookup ("TreeError" : Str) = some .globalImplicit) (m1 : X.mg "TreeError" = some c1) (g2 : sg.names.lookup ("StateError" : Str) = some .globalImplicit) (m2 : X.mg "StateError" = some c2) (g3 : sg.names.lookup ("LimitError" : Str) = some .globalImplicit) (m3 : X.mg "LimitError" = some c3)
    (gs : sg.names.lookup ("_law_sort" : Str) = some .globalImplicit) (ms : X.mg "_law_sort" = some (.ref fs)) (F : FnE X.prog X.w X.K X.mg X.base k fs fds "_law_e" sp) (ks : PySem.W.keepIn X.K (.ref fs) = true) (bs : Binds X.K fds ["_law_e"] []) (hG : X.A.guards = some []) (hR : Room (k + 1) X.A) :
    GivesTo X nTold x sg g cdg [.Try [.Assign [.Name "_law_told_here" p1] (.Call (.Name "_law_act" p2) [] [] p3) p4] [.ExceptHandler (some (.Tuple [.Name "TreeError" p5, .Name "StateError" p6, .Name "LimitError" p7] j1 p8)) (some "_law_e") [.Return (some (.Call (.Name "_law_sort" p9) [.Name "_law_e" p10] [] p11)) p12] p13] [] [] p14,
      .Return (some (.List [.Constant (.str "given") j2 p15, .Name "_law_told_here" p16] p17)) p18] "_law_act" q (TTold3 X.K c1 c2 c3 sp) := by
  intro f c' s H Q tl act hc h
  have rm : Room k (X.A.deeper (envOfC x sg s.heap.objs.size g cdg)) := hR.deeper _
  refine ⟨_, pss_cons (ps_try3 (X := (cxOf C8.CX0 X.prog X.w X.K X.mg X.base nTold x sg g cdg X.A X.stack s H C8.E0).nox) (i := 2) (n := "_law_e") (c1 := c1) (c2 := c2) (c3 := c3)
      (tb := fun W D σ H => ∃ Ech : XK, (∀ cls d σ' H', Ech cls d H' → W cls d σ' H') ∧ σ[0]? = some (some (.ref f)) ∧ H c' = some (CodeO c' q) ∧ tl Ech H fun v H' => D.nx (σ.set 1 (some v)) H')
      rfl rfl S.nd rfl le g1 m1 g2 m2 g3 m3 LamX.takes0 (fun W pn xe tk _ => ?_) (fun a oe cls d pn hz hf => pss_one (ps_ret (pe_callE (n := "_law_e") (i := 2) F hG ⟨rm.dp, rm.un⟩ hz hf gs ms ks bs rfl (.inl le))))) (pss_one (ps_ret (pe_lst (pa_cons pe_str (pa_cons (pe_var (i := 1) rfl (.inl lt)) pa_nil))))), ?_⟩
  · refine ⟨fun pins s' σ H' D I h' => ?_⟩
    obtain ⟨Ech, hW, h1, h2, h3⟩ := h'
    have hp := act W pn xe Ech p2 p3 tk hW
    have hq := pss_one (ps_set (i := 1) (pos := p4) (pos' := p1) S.nd rfl (.inl lt) hp)
    exact hq.run pins s' σ H' D I ⟨h1, h2, h3⟩
  · refine ⟨_, fun cls d σ' H' z => ?_, rfl, hc, h⟩
    obtain ⟨b, e1, e2, e3⟩ := z
    exact ⟨b, e1, fun hb a na hl => ⟨by rw [List.getElem?_set_self (by rw [hl]; exact (by decide : 2 < 3))], e2 hb⟩, fun hb => (e3 hb).elim⟩
end Gd
set_option Elab.async false
set_option linter.all false
set_option maxRecDepth 100000
set_option maxHeartbeats 4000000
/-! a def called where an exception is handled (its repr asked there); a handled exception without attributes; readings of one call -/
namespace Gd
open PySem PySem.Spec PyProof.Rows L2
structure FnP (P : Program) (w : World) (K : PySem.W.Frag) (mg : Str → Option Value) (base : Heap) (k : Nat) (f : Addr) (fd : FuncData) (ps : List Str) (sp : Sp) : Prop where
  len : ∀ vs H Q E, sp vs H Q E → vs.length = ps.length
  run : ∀ (A : Around) (ou : List Env) (s : Shared) (H : Hp) (gs : Args) (us : List Value) (vs : List V) (Q : VK) (p : Addr × Obj), L2H.RoomH k A → L2H.PinOk ou H s p → Env0 P w K mg base A ou s H → BindsTo s fd gs (ps.zip us) → Vals vs us → sp vs H Q E0 →
    codeAny (model P w) A (.call (.ref f) gs) (CR CX0 ou P w H s Q E0) s
theorem okP {P : Program} {w : World} {K : PySem.W.Frag} {mg : Str → Option Value} {base : Heap} {x qn : Str} {st : Stmt} {f : Addr} {fd : FuncData} {N ps : List Str} {k : Nat} {sp : Sp} (F : Fun K x qn st f fd) (S : FnScope N ps (defScope st)) (hl : ∀ vs H Q E, sp vs H Q E → vs.length = ps.length)
    (hb : ∀ (cv : Value) (A : Around) (ou : List Env) (s : Shared) (H : Hp) (vs : List V) (Q : VK) (p : Addr × Obj), L2H.RoomH k (A.deeper (envOfC qn (defScope st) s.heap.objs.size f cv)) → sp vs H Q E0 →
      ∃ t, PSs (L2H.cxH CX0 P w K mg base N qn (defScope st) f cv A ou s H E0 p) (defBody st) t ∧ t { nx := fun _ H' => Q .non H', rt := Q } (start N vs) H) : FnP P w K mg base (k + 1) f fd ps sp := by
  obtain ⟨oc, od, kV, dc, pm, an, cv, ct, osl, rfl, lk, hc⟩ := F.ex
  refine ⟨hl, fun A ou s H gs us vs Q p hR hP e0 hB rv0 hS => ?_⟩
  have len := hl _ _ _ _ hS
  have inK : K.In s.heap := e0.mod.kin.keeps (fun b o e => (e0.bs b o e).left)
  have noL : s.heap.NoLimit := e0.mod.nolimit.keeps (fun b o e => (e0.bs b o e).left)
  have kinds : ∀ q ∈ ps.zip us, (defScope st).names.lookup q.1 = some .local ∨ ((defScope st).names.lookup q.1 = some .cell ∧ ((cellsFrom (s.heap.objs.size + 1) (defScope st).names []).lookup q.1).isSome = true) := by
    intro q hq
    have hm := (List.of_mem_zip (a := q.1) (b := q.2) hq).1
    cases S.par q.1 hm with
    | inl q => exact .inl q
    | inr q => exact .inr ⟨q, PySem.W.cellsFrom_some _ _ _ (.inl q)⟩
  refine codeAny_call_function hR.depth (inK _ _ lk) rfl S.co S.gen rfl (PySem.W.codeRec_of inK hc) (hB _ _ _ _ ?_)
  refine wpAny_newFunctionEnv_cells S.kind kinds fun ev he s2 y2 => ?_
  subst he
  refine ⟨noL.keeps y2.toInCall.keep, codeAny_func ?_⟩
  obtain ⟨t, ht, hq⟩ := hb cv A ou s H vs Q p (hR.deeper _) hS
  have J0 : Inv (L2H.cxH CX0 P w K mg base N qn (defScope st) f cv A ou s H E0 p) [] (start N vs) H s2 := L2H.inv_startH S hP e0 len rv0 y2
  refine wpAny_mono (ht.run [] s2 (start N vs) H _ J0 hq) (fun fl s3 h3 => ?_) fun _ _ z => z
  have fin : ∀ {τ : L2.St} {H' : Hp} {v : V} {u : Value}, Inv (L2H.cxH CX0 P w K mg base N qn (defScope st) f cv A ou s H E0 p) [] τ H' s3 → RelV v u → Q v H' → CE ou P w H s Q u s3 := by
    intro τ H' v u J rv q
    exact ⟨v, H', J.os, J.bare, J.base, J.hok, rv, q⟩
  match fl, h3 with
  | .ret u, ⟨v, τ, H', J, rv, q⟩ => exact fin J rv q
  | .next, ⟨τ, H', J, q⟩ => exact fin (v := V.non) (u := Value.none) J rfl q
  | .brk, ⟨_, _, _, q⟩ => exact False.elim q
  | .cont, ⟨_, _, _, q⟩ => exact False.elim q
theorem roomH_in1 {k : Nat} {A : Around} (r : L2H.RoomH (k + 1) A) : L2H.RoomH k A.in1 :=
  ⟨by have := r.dp; show A.depth + 3 * k + 5 < _; omega, by have := r.un; show A.units + 1 + 16 * k + 200 < _; omega⟩
theorem call_reprP {X : Cx} {k : Nat} {C f : Addr} {fd : FuncData} {ps : List Str} {sp : Sp} (D : Dm X.K C "__repr__" f) (F : FnP X.prog X.w X.K X.mg X.base k f fd ps sp) (hr : L2H.RoomH (k + 1) X.A) (hb : Binds X.K fd ps []) (hp : ∃ p, p ∈ X.pn) : CallR X (.builtin "repr") (rReprO C sp E0) := by
  intro pins s σ H xs us Q I r h
  obtain ⟨a, dx, fs, rfl, ea, q⟩ := h
  have e1 := Vals.ref1 r
  subst e1
  obtain ⟨mA, J, _⟩ := ins_get I.hok ea
  obtain ⟨od, J, _⟩ := J.look
  obtain ⟨m, hF⟩ := I.fr
  obtain ⟨p, hp⟩ := hp
  have P1 := I.pin p (List.mem_append_left _ hp)
  have hpin : L2H.PinOk X.stack H s p := ⟨P1.1, P1.2.1, fun hm => (List.mem_cons.mp (I.stkSub p.1 hm)).elim P1.2.2.1 P1.2.2.2.1, P1.2.2.2.2⟩
  have r1 := roomH_in1 hr
  have hl : ([Value.ref a] ++ ([] : List Value)).length = ps.length := by rw [List.append_nil]; exact F.len _ _ _ _ q
  have hB := hb s [.ref a] I.kIn hl
  rw [List.append_nil] at hB
  have hu : X.A.in1.units < cLine := by have := r1.un; omega
  refine PySem.W.repr_K hu hF I.ok.mod.kin J D.at_ D.fn (wpAny_call (codeAny_mono (F.run X.A.in1 X.stack s H ⟨[.ref a], []⟩ [.ref a] [.ref a] _ p r1 hpin I.env0.in1 hB r q) fun r s' hq => ?_))
  cases r with
  | error er => exact (show False from hq).elim
  | ok fl =>
    cases fl with
    | ret u =>
      obtain ⟨y, H', I', ry, z, ey, q2⟩ := I.after hq
      subst ey
      obtain ⟨t, rfl⟩ := ry
      exact ⟨.str z, H', I', ⟨_, rfl⟩, q2⟩
    | next => exact False.elim hq
    | brk => exact False.elim hq
    | cont => exact False.elim hq
/-- one call with two readings -/
theorem call_or {X : Cx} {f : Value} {r1 r2 : List V → Hp → VK → Prop} (h1 : CallR X f r1) (h2 : CallR X f r2) : CallR X f (fun xs H Q => r1 xs H Q ∨ r2 xs H Q) := by
  intro pins s σ H xs us Q I r h
  rcases h with h | h
  · exact h1 pins s σ H xs us Q I r h
  · exact h2 pins s σ H xs us Q I r h
/-- a handled exception without attributes -/
def Pn0 (X : Cx) (a C : Addr) : Prop := ∃ oe : Obj, (a, oe) ∈ X.pn ∧ Zc (.ref C) none oe ∧ ∃ vs, oe.data = .fields vs
def rIsP0 (X : Cx) : List V → Hp → VK → Prop := fun xs H Q => ∃ (a C : Addr) (c : V) (u : Value) (b : Bool), xs = [.ref a, c] ∧ Pn0 X a C ∧ ClsV c u ∧ XC X.K C ∧ PySem.W.kitOne X.K (.ref C) u = some b ∧ Q (.bl b) H
theorem call_isP0 {X : Cx} : CallR X (.builtin "isinstance") (rIsP0 X) := by
  intro pins s σ H xs us Q I r h
  obtain ⟨a, C, c, u, b, rfl, ⟨oe, hm, hz, vs, hd⟩, k, T, e, q⟩ := h
  obtain ⟨u1, u2, rfl, r1, r2⟩ := vals2 r
  have e2 := k.eq r2
  subst e2
  have e1 : u1 = Value.ref a := r1
  subst e1
  have hcl : (PySem.W.clsIn X.K C).isSome = true := by
    obtain ⟨cd, hc, _⟩ := PySem.W.any_some T.hd
    rw [hc]
    rfl
  obtain ⟨ha, _⟩ := I.pin (a, oe) (List.mem_append_left _ hm)
  have J : PySem.W.InstAt s.heap a oe C none := ⟨ha, hz.1, by unfold PySem.W.notCls; rw [hd] <;> rfl, by rw [hz.2]; trivial⟩
  exact PySem.W.kia_one (PySem.W.kitx_exc hcl T.ga T.gg T.sB T.ca T.cn T.ct T.mo) I.kIn J e (fun z => nomatch z) fun tk => ⟨.bl b, H, I.tok tk, rfl, q⟩
theorem passX0 {X : Cx} : Passes (CX X.prog X.w) X E0 := by
  intro pins σ H s e s' _ c
  obtain ⟨_, _, _, _, _, _, _, _, _, _, _, _, z⟩ := c
  exact z.elim
/-- f(k = v, ..), keywords alone -/
def tCallK0 (sp : Sp) (gV : List V → List V → List V) (E : XK) (tk : TA) : TE := fun σ H Q => tk σ H fun zs H2 => sp (gV [] zs) H2 Q E
theorem pe_callK0 {X : Cx} {CX : CXT} {k : Nat} {f : Addr} {fd : FuncData} {ps ks : List Str} {sp : Sp} {E : XK} {tk : TA} {x : Str} {p pos : Pos} {kws : List Keyword} {g : List Value → List Value → List Value} {gV : List V → List V → List V} (F : FnOk X.prog X.w X.K X.mg X.base CX k f fd ps sp) (hr : Room k X.A) (hg : Gl X x) (hm : X.mg x = some (.ref f))
    (hk : PySem.W.keepIn X.K (.ref f) = true) (hb : KBinds X.K fd ps ks g gV) (hx : Passes CX X E) (hkw : PK X kws tk) (hall : (backToKw pos (keywordEach kws X.env)).all (·.1.isSome) = true := by rfl) (hks : (backToKw pos (keywordEach kws X.env)).filterMap (·.1) = ks := by rfl)
    (hpl : ((backTo pos (starEach [] X.env)).any (·.1) || (backToKw pos (keywordEach kws X.env)).any (·.1.isNone)) = false := by rfl) (hdb : (x == ("__debug__" : Str)) = false := by decide) : PE X (.Call (.Name x p) [] kws pos) (tCallK0 sp gV E tk) := by
  refine ⟨fun pins s σ H Q I h => ?_⟩
  refine wpAny_Call_Name_kw (ld_glob I hg hm ?_ hdb)
  refine PySem.W.callWith_of hpl (PySem.W.keeps_K hk) (evalArgs_kw2_nil hall (thn (hkw.run pos pins s σ H _ I h) fun us s3 ⟨zs, H2, I3, rz, q2⟩ => ⟨I3.kIn, ?_⟩))
  rw [hks]
  exact wpAny_call (run_fnkC (us := []) (vs := []) F hr hb hx I3 .nil rz q2)
/-- two keywords, turned -/
def gCO {α : Type} : List α → List α → List α
  | [], [y, x] => [x, y]
  | _, _ => []
theorem gCO_rel {vs : List V} {us : List Value} {zs : List V} {ws : List Value} (h : Vals vs us) (k : Vals zs ws) : Vals (gCO vs zs) (gCO us ws) := by
  cases h with
  | cons _ _ => exact .nil
  | nil =>
    cases k with
    | nil => exact .nil
    | cons b k =>
      cases k with
      | nil => exact .nil
      | cons c k =>
        cases k with
        | nil => exact .cons c (.cons b .nil)
        | cons _ _ => exact .nil
end Gd
set_option Elab.async false
set_option linter.all false
set_option maxRecDepth 100000
set_option maxHeartbeats 4000000
/-! own error classes of one field, their facts as Bools -/
namespace Gd
open PySem PySem.Spec PyProof.Rows L2
structure Xd where
  nm : Str
  ba : Nat
  f : Str
def xtl : Nat → List Value
  | 0 => [.type "ValueError", .type "Exception", .type "BaseException", .type "object"]
  | 1 => [.type "LookupError", .type "Exception", .type "BaseException", .type "object"]
  | _ => [.type "ArithmeticError", .type "Exception", .type "BaseException", .type "object"]
def xnid : Nat → String
  | 0 => "ValueError.__new__"
  | 1 => "LookupError.__new__"
  | _ => "ArithmeticError.__new__"
def xclB (K : PySem.W.Frag) (C : Addr) (b : Nat) : Bool :=
  PySem.W.excInitIn K C (xtl b) (xnid b) && (PySem.W.excOver K C (xtl b) && (PySem.W.hasDictIn K C && (He.eqO (PySem.W.findIn K (.ref C) "__setattr__") (some (some (.builtin "object.__setattr__"))) &&
  (He.eqO (PySem.W.findIn K (.ref C) "__getattribute__") (some (some (.builtin "BaseException.__getattribute__"))) && (He.eqO (PySem.W.findIn K (.ref C) "__getattr__") (some none) && (decide (PySem.W.subIn K (.ref C) (.type "BaseException") = some true) &&
  (He.eqO (PySem.W.findIn K (.ref C) "__class__") (some (some (.builtin "object.__class__"))) && (He.eqO (PySem.W.specialIn K (.builtin "object.__class__") "__get__") (some (some (.builtin "getset_descriptor.__get__"))) &&
  (decide (PySem.W.takesIn K (.builtin "object.__class__") = some true) && (decide (PySem.W.mroIn K C (.type "object") = some true) && PySem.W.keepIn K (.ref C)))))))))))
def xdB (K : PySem.W.Frag) (d : Xd) : Bool := (He.Fa.glo d.nm).ok K && (xclB K (He.ga K d.nm) d.ba && (He.eqO (PySem.W.takerIn K (He.ga K d.nm) d.f) (some none) && (He.eqO (PySem.W.findIn K (.ref (He.ga K d.nm)) d.f) (some none) &&
  (He.eqO (PySem.W.findIn K (.ref (He.ga K d.nm)) "__init__") (some (some (.ref (He.ma K (He.ga K d.nm) "__init__")))) && (decide (PySem.W.typeIn K (.ref (He.ma K (He.ga K d.nm) "__init__")) = some (.type "function")) && decide (PySem.W.typeIn K (.ref (He.ga K d.nm)) = some (.type "type")))))))
section
variable {P : Program} {w : World} {K : PySem.W.Frag} {mg : Str → Option Value} {base : Heap} {h : Heap}
theorem xcl_of {C : Addr} {b : Nat} (q : xclB K C b = true) : XC K C := by
  obtain ⟨q1, q⟩ := He.ba q
  obtain ⟨q2, q⟩ := He.ba q
  obtain ⟨q3, q⟩ := He.ba q
  obtain ⟨q4, q⟩ := He.ba q
  obtain ⟨q5, q⟩ := He.ba q
  obtain ⟨q6, q⟩ := He.ba q
  obtain ⟨q7, q⟩ := He.ba q
  obtain ⟨q8, q⟩ := He.ba q
  obtain ⟨q9, q⟩ := He.ba q
  obtain ⟨q10, q⟩ := He.ba q
  obtain ⟨q11, q12⟩ := He.ba q
  refine ⟨?_, q3, He.eqO_ok q4, He.eqO_ok q5, He.eqO_ok q6, of_decide_eq_true q7, He.eqO_ok q8, He.eqO_ok q9, of_decide_eq_true q10, of_decide_eq_true q11, q12⟩
  match b, q1, q2 with
  | 0, q1, q2 => exact ⟨_, _, _, _, PySem.F.excBase_ValueError, PySem.F.store_ValueError, q1, q2⟩
  | 1, q1, q2 => exact ⟨_, _, _, _, PySem.F.excBase_LookupError, PySem.F.store_LookupError, q1, q2⟩
  | n + 2, q1, q2 => exact ⟨_, _, _, _, PySem.F.excBase_ArithmeticError, PySem.F.store_ArithmeticError, q1, q2⟩
theorem xd_glo {d : Xd} (q : xdB K d = true) : (He.Fa.glo d.nm).ok K = true := (He.ba q).1
theorem xd_xc {d : Xd} (q : xdB K d = true) : XC K (He.ga K d.nm) := xcl_of (He.ba (He.ba q).2).1
theorem xd_no {d : Xd} (q : xdB K d = true) : PySem.W.findIn K (.ref (He.ga K d.nm)) d.f = some none := He.eqO_ok (He.ba (He.ba (He.ba (He.ba q).2).2).2).1
theorem xd_ty {d : Xd} (q : xdB K d = true) : PySem.W.typeIn K (.ref (He.ga K d.nm)) = some (.type "type") := of_decide_eq_true (He.ba (He.ba (He.ba (He.ba (He.ba (He.ba q).2).2).2).2).2).2
theorem xd_one {nm f qn : Str} {b : Nat} {st : Stmt} {fd : FuncData} {p1 p2 p3 p4 : Pos} (X : K.In h) (G : h.Ns mainGlobals mg) (q : xdB K ⟨nm, b, f⟩ = true) (F : Fun K "__init__" qn st (He.ma K (He.ga K nm) "__init__") fd)
    (S : FnScope ["self", f] ["self", f] (defScope st)) (hb : defBody st = [.Assign [.Attribute (.Name "self" p1) f p2] (.Name f p3) p4])
    (hd : (f == ("__debug__" : Str)) = false) (hc : (f == ("__classdict__" : Str)) = false) (hs : ∀ env : Env, swapsWith (.Name f p3) (some (.Attribute (.Name "self" p1) f p2)) p4.line env = pure false)
    (b1 : ∀ (kV doc pm : Value) (an : Option Addr) (cdv ct : Value) (us : List Value), us.length = 2 → bindArgs (PySem.W.fnOf "__init__" qn (defArgs st) (defBody st) (defScope st) .none kV doc pm an cdv ct) ⟨us, []⟩ = pure ((["self", f] : List Str).zip us))
    (b2 : ∀ (kV doc pm : Value) (an : Option Addr) (cdv ct self v : Value), bindArgs (PySem.W.fnOf "__init__" qn (defArgs st) (defBody st) (defScope st) .none kV doc pm an cdv ct) ⟨[self], [(f, v)]⟩ = pure [(("self" : Str), self), (f, v)]) : One P w K mg base nm f (He.ga K nm) := by
  have T := xd_xc q
  obtain ⟨_, q'⟩ := He.ba q
  obtain ⟨_, q'⟩ := He.ba q'
  obtain ⟨t1, q'⟩ := He.ba q'
  obtain ⟨t2, q'⟩ := He.ba q'
  obtain ⟨i1, q'⟩ := He.ba q'
  obtain ⟨i2, _⟩ := He.ba q'
  refine ⟨He.glo_ok X G (xd_glo q), ⟨_, fd, ⟨T, He.eqO_ok i1, of_decide_eq_true i2⟩, ok_i1 F S hb hd hc hs T (He.eqO_ok t1), F.binds b1, ⟨fun s self ws _ hl => ?_, fun z => z⟩⟩, He.eqO_ok t2⟩
  obtain ⟨oc, od, kV, doc, pm, an, cdv, ct, osl, rfl, lk, hcd⟩ := F.ex
  match ws, hl with
  | [v], _ => exact .of_eq (b2 kV doc pm an cdv ct self v)
end
end Gd
set_option Elab.async false
set_option linter.all false
set_option maxRecDepth 100000
set_option maxHeartbeats 4000000
/-! own errors whose context is None, raised where nothing is handled; raised from None in the suite that handles another -/
namespace Gd
open PySem PySem.Spec PyProof.Rows L2
open PySem.W (excInitIn excOver excTail)
section
variable {P : Program} {w : World} {K : PySem.W.Frag} {mg : Str → Option Value} {base : Heap}
theorem okXN {x qual : Str} {st : Stmt} {f : Addr} {fd : FuncData} {N ps : List Str} {k : Nat} {sp : Sp} (F : Fun K x qual st f fd) (S : FnScope N ps (defScope st)) (len : ∀ vs H Q E, sp vs H Q E → vs.length = ps.length)
    (hbody : ∀ (cdv : Value) (A : Around) (outer : List Env) (s : Shared) (H : Hp) (vs : List V) (Q : VK) (E : XK), Room k (A.deeper (envOfC qual (defScope st) s.heap.objs.size f cdv)) → sp vs H Q E →
      ∃ t, PSs (cxOf (L2N.CX P w) P w K mg base N qual (defScope st) f cdv A outer s H E) (defBody st) t ∧ t { nx := fun _ H' => Q .non H', rt := Q } (start N vs) H) : FnOk P w K mg base (L2N.CX P w) (k + 1) f fd ps sp := by
  obtain ⟨oc, od, kV, doc, pm, an, cdv, ct, osl, rfl, lk, hcd⟩ := F.ex
  exact fn_of lk hcd S len fun A outer s H vs Q E hr hsp => hbody cdv A outer s H vs Q E hr hsp
theorem okN_weak {k : Nat} {f : Addr} {fd : FuncData} {ps : List Str} {sp : Sp} (F : FnOk P w K mg base (L2N.CX P w) k f fd ps sp) : FnOk P w K mg base (L2.CX P w) k f fd ps sp :=
  ⟨F.len, fun A ou s H gs us vs Q E hr e0 hb r h => codeAny_mono (F.run A ou s H gs us vs Q E hr e0 hb r h) fun r s' hq => by
    match r, hq with
    | .error e, ⟨a, B, H', cls, d, e1, fl, rest⟩ => exact ⟨a, B, H', cls, d, e1, L2H.flyingZ_imp (fun o z => z.zc) fl, rest⟩
    | .ok (.ret u), hq => exact hq
    | .ok .next, hq => exact False.elim hq
    | .ok .brk, hq => exact False.elim hq
    | .ok .cont, hq => exact False.elim hq⟩
end
section
variable {X : Cx} {CX : CXT} {k : Nat} {f C : Addr} {fd : FuncData} {ps : List Str} {sp : Sp} {x : Str} {p pos : Pos} {e : Expr}
theorem run_raiN {pins : List (Addr × Obj)} {σ : L2.St} {H : Hp} {s : Shared} {Q : XK} {us ws : List Value} {kw : List (Str × Value)} {zs : List V} (N : Ini X.K C f) (ty : PySem.W.typeIn X.K (.ref C) = some (.type "type"))
    (hrun : ∀ (A : Around) (s1 : Shared) (H1 : Hp) (gs : Args) (us1 : List Value) (vs1 : List V) (Q1 : VK), A = X.A.under (.builtin "type.__call__" ⟨.ref C :: us, kw⟩) → Inv X pins σ H1 s1 → Env0 X.prog X.w X.K X.mg X.base A X.stack s1 H1 → BindsTo s1 fd gs (ps.zip us1) → Vals vs1 us1 → sp vs1 H1 Q1 E0 →
      codeAny (model X.prog X.w) A (.call (.ref f) gs) (CR CX0 X.stack X.prog X.w H1 s1 Q1 E0) s1)
    (I : Inv X pins σ H s) (hl : us.length ≤ sizeLine) (hB : ∀ (s' : Shared) (self : Value), X.K.In s'.heap → BindsTo s' fd ⟨self :: us, kw⟩ (ps.zip (self :: ws))) (hV : Vals zs ws)
    (h : ∀ a, H a = none → sp (.ref a :: zs) (upd H a (exo a C none)) (fun v H2 => v = .non ∧ ∃ d fs, H2 a = some (exo a C (some d)) ∧ H2 d = some (exd d fs) ∧ H d = none ∧ Q (.ref C) (some d) (upd (del H2 a) d (.xd fs))) E0) :
    wpAny (model X.prog X.w) X.A (call (.ref C) us kw) (fun u s' => L2N.MkP X pins σ Q u s' ∧ L2H.Six u s') X.xe s := by
  obtain ⟨B, nid, iid, tl, FB, SF, hin, hov⟩ := N.xc.base
  obtain ⟨hp, g, dr, t0, os⟩ := s
  obtain ⟨nm, N', qn, bs, bm, hdct, sn, sub, ab, col, dd, k0, k1, k2, k3, k5, hC, hT⟩ := PySem.W.excInit_of I.kIn hin
  have le1 : hp.objs.size ≤ hp.objs.size + 1 := Nat.le_succ _
  have n1 : H (hp.objs.size + 1) = none := I.hok.fresh le1
  have q1 := h (hp.objs.size + 1) n1
  have kk : ∀ b o, hp.get? b = some o → ((hp.push (PySem.W.kdv_tup us)).push (PySem.HandSPX.excO C hp.objs.size)).get? b = some o := fun b o e => Heap.get?_push_of_some _ (Heap.get?_push_of_some _ e)
  have g1 : ((hp.push (PySem.W.kdv_tup us)).push (PySem.HandSPX.excO C hp.objs.size)).get? (hp.objs.size + 1) = some (PySem.HandSPX.excO C hp.objs.size) := by heap_get
  have I2 : Inv X pins σ (upd H (hp.objs.size + 1) (exo (hp.objs.size + 1) C none)) ⟨(hp.push (PySem.W.kdv_tup us)).push (PySem.HandSPX.excO C hp.objs.size), g, dr, t0, os⟩ :=
    I.laid (t' := t0) (a := hp.objs.size + 1) (o := exo (hp.objs.size + 1) C none) (h' := (hp.push (PySem.W.kdv_tup us)).push (PySem.HandSPX.excO C hp.objs.size)) kk le1 (exo_ok g1)
  have r2 : Vals (V.ref (hp.objs.size + 1) :: zs) (Value.ref (hp.objs.size + 1) :: ws) := .cons rfl hV
  have e0 := I2.env0
  have e1 : Env0 X.prog X.w X.K X.mg X.base (X.A.under (.builtin "type.__call__" ⟨.ref C :: us, kw⟩)) X.stack ⟨(hp.push (PySem.W.kdv_tup us)).push (PySem.HandSPX.excO C hp.objs.size), g, dr, t0, os⟩ (upd H (hp.objs.size + 1) (exo (hp.objs.size + 1) C none)) :=
    ⟨by first | exact e0.frames | (simpa [Around.under, Code.envs, Code.isFrame, pushEnvs] using e0.frames), e0.mod, e0.bs, e0.bsz, e0.funs, e0.frf, e0.hok, e0.bare⟩
  refine wpAny_call (PySem.Gk.call_kw FB hT hC (PySem.W.looks_findIn I.kIn N.at_) (fun self => PySem.W.bind_fn I.kIn self N.ty) hl
    (codeAny_mono (hrun _ _ _ ⟨Value.ref (hp.objs.size + 1) :: us, kw⟩ (Value.ref (hp.objs.size + 1) :: ws) _ _ rfl I2 e1 (hB _ _ I2.kIn) r2 q1) fun r s' hq' => ?_))
  match r, hq' with
  | .error er, hq' => exact (show False from hq').elim
  | .ok (.ret u), hq' =>
    obtain ⟨v, H2, os2, bare2, un2, hok2, rv, ev, d, fs, ea, ed, hd1, q2⟩ := hq'
    subst ev
    obtain ⟨h2, g2, d2, t2, os'⟩ := s'
    obtain ⟨t0', G, J, kG, ge, hoe, na⟩ := mk_end0 (d2 := d2) (t2 := t2) I le1 kk un2 hok2 os2 bare2 ea ed hd1
    refine ⟨rv, ⟨hp.objs.size + 1, _, _, ⟨G, g2, d2, t2, os'⟩, _, .ref C, some d, rfl, J, kG, ge, hoe, ⟨rfl, rfl, fun vs hv => ?_⟩, rfl, rfl, na, rfl, bare2, raises_own N.xc.sB ty, q2⟩, fun a oe vs ea2 hg2 hd2 => ?_⟩
    · cases hv
      rfl
    · cases ea2
      have hg3 : h2.get? (hp.objs.size + 1) = some oe := hg2
      rw [hoe] at hg3
      cases hg3
      cases hd2
      show (4 : Nat) < 6
      decide
  | .ok .next, hq' => exact False.elim hq'
  | .ok .brk, hq' => exact False.elim hq'
  | .ok .cont, hq' => exact False.elim hq'
theorem under_room {k : Nat} {A : Around} {C : Addr} {us : List Value} {kw : List (Str × Value)} (hR : Room (k + 1) A) : Room k (A.under (.builtin "type.__call__" ⟨.ref C :: us, kw⟩)) := by
  have d1 : (A.under (.builtin "type.__call__" ⟨.ref C :: us, kw⟩)).depth = A.depth + 1 := by
    first | rfl | simp [Around.under, Code.weight, Code.isCreation, Code.isGuard, Code.isCaller, Code.frames, Code.isFrame, guardIds]
  have d2 : (A.under (.builtin "type.__call__" ⟨.ref C :: us, kw⟩)).units = A.units + 1 := by
    first | rfl | simp [Around.under, Code.cUnits, Code.frames, Code.isFrame]
  exact ⟨hR.hd, by have := hR.dp; rw [d1]; omega, by have := hR.un; rw [d2]; omega⟩
theorem mk_q {H1 : Hp} {C a d : Addr} {g : Str} {v : V} {Q : XK} (na : H1 a = none) (nd : upd H1 a (exo a C none) d = none) (n : d ≠ a) (h : ∀ d H', Same H1 H' → H1 d = none → H' d = some (.xd [(g, v)]) → Q (.ref C) (some d) H') :
    V.non = V.non ∧ ∃ d' fs, upd (upd (upd H1 a (exo a C none)) d (exd d [(g, v)])) a (exo a C (some d)) a = some (exo a C (some d')) ∧ upd (upd (upd H1 a (exo a C none)) d (exd d [(g, v)])) a (exo a C (some d)) d' = some (exd d' fs) ∧ H1 d' = none ∧
      Q (.ref C) (some d') (upd (del (upd (upd (upd H1 a (exo a C none)) d (exd d [(g, v)])) a (exo a C (some d))) a) d' (.xd fs)) := by
  have nd' : H1 d = none := by rw [upd_ne n] at nd; exact nd
  refine ⟨rfl, d, [(g, v)], upd_same, ?_, nd', h d _ (fun b o eb => ?_) nd' upd_same⟩
  · rw [upd_ne n, upd_same]
  · rw [upd_ne (ne_of_none eb nd'), del_ne (ne_of_none eb na), upd_ne (ne_of_none eb na), upd_ne (ne_of_none eb nd'), upd_ne (ne_of_none eb na)]
    exact eb
/-- C(e), where nothing is handled -/
theorem pmkN_one {nm g : Str} {te : TE} (O : One X.prog X.w X.K X.mg X.base nm g C) (ty : PySem.W.typeIn X.K (.ref C) = some (.type "type")) (hR : Room 2 X.A) (hg : Gl X nm) (he : PE X e te) (hdb : (nm == ("__debug__" : Str)) = false := by decide)
    (hs : starEach [e] X.env = (false, eval e X.env) :: starEach [] X.env := by rfl) (hpl : (backTo pos (starEach [] X.env)).any (·.1) = false := by rfl) :
    L2N.PMk X (.Call (.Name nm p) [e] [] pos) (tRai C g te) := by
  intro pins s σ H Q I h
  obtain ⟨fa, fd, N, F, b, sb⟩ := O.ini
  refine wpAny_Call_Name_kw (ld_glob I hg O.gl ?_ hdb)
  refine PySem.W.callWith_K (h₀ := X.base) I.ok.mod.kin N.xc.kp (thn ((pa_cons he pa_nil hs).run pos pins s σ H (fun zs H1 => match zs with | [v] => ∀ d H', Same H1 H' → H1 d = none → H' d = some (.xd [(g, v)]) → Q (.ref C) (some d) H' | _ => False) I ?_) fun us s2 z2 => ?_) hs hpl
  · exact h
  obtain ⟨zs, H2, I2, r2, q2⟩ := z2
  obtain ⟨v, rfl, q2⟩ : ∃ v, zs = [v] ∧ ∀ d H', Same H2 H' → H2 d = none → H' d = some (.xd [(g, v)]) → Q (.ref C) (some d) H' := by
    match zs, q2 with
    | [v], q2 => exact ⟨v, rfl, q2⟩
  obtain ⟨u, rfl, ru⟩ := vals1 r2
  refine ⟨I2.kIn, ?_⟩
  refine thn (run_raiN (ws := [u]) (zs := [v]) (kw := []) N ty (fun A s1 H1 gs us1 vs1 Q1 eA _ e1 hB hV hsp => by
    subst eA
    exact F.run _ X.stack s1 H1 gs us1 vs1 Q1 E0 (under_room hR) e1 hB hV hsp) I2 (by rw [sizeLine_eq]; exact (by decide : 1 ≤ 16777216)) (fun s' self ki => ?_) (.cons ru .nil) fun a na => ?_) fun _ _ x => x.1
  · have := b s' [self, u] ki rfl
    rw [List.append_nil] at this
    exact this
  · exact ⟨a, v, rfl, upd_same, fun d nd n => mk_q na nd n q2⟩
end
/-- a class of one field, for where an exception is handled -/
structure OneH (P : Program) (w : World) (K : PySem.W.Frag) (mg : Str → Option Value) (base : Heap) (nm f : Str) (C : Addr) : Prop where
  gl : mg nm = some (.ref C)
  ini : ∃ (fa : Addr) (fd : FuncData), Ini K C fa ∧ FnP P w K mg base 1 fa fd ["self", f] (spI1 C f) ∧ Binds K fd ["self", f] []
section
variable {X : Cx} {C : Addr} {p pos : Pos} {e : Expr}
theorem pmk5_one {nm g : Str} {te : TE} (O : OneH X.prog X.w X.K X.mg X.base nm g C) (ty : PySem.W.typeIn X.K (.ref C) = some (.type "type")) (hR : L2H.RoomH 2 X.A) (hp : ∃ p, p ∈ X.pn) (hg : Gl X nm) (he : PE X e te) (hdb : (nm == ("__debug__" : Str)) = false := by decide)
    (hs : starEach [e] X.env = (false, eval e X.env) :: starEach [] X.env := by rfl) (hpl : (backTo pos (starEach [] X.env)).any (·.1) = false := by rfl) :
    L2H.PMk5 X (.Call (.Name nm p) [e] [] pos) (tRai C g te) := by
  intro pins s σ H Q I h
  obtain ⟨fa, fd, N, F, b⟩ := O.ini
  refine wpAny_Call_Name_kw (ld_glob I hg O.gl ?_ hdb)
  refine PySem.W.callWith_K (h₀ := X.base) I.ok.mod.kin N.xc.kp (thn ((pa_cons he pa_nil hs).run pos pins s σ H (fun zs H1 => match zs with | [v] => ∀ d H', Same H1 H' → H1 d = none → H' d = some (.xd [(g, v)]) → Q (.ref C) (some d) H' | _ => False) I ?_) fun us s2 z2 => ?_) hs hpl
  · exact h
  obtain ⟨zs, H2, I2, r2, q2⟩ := z2
  obtain ⟨v, rfl, q2⟩ : ∃ v, zs = [v] ∧ ∀ d H', Same H2 H' → H2 d = none → H' d = some (.xd [(g, v)]) → Q (.ref C) (some d) H' := by
    match zs, q2 with
    | [v], q2 => exact ⟨v, rfl, q2⟩
  obtain ⟨u, rfl, ru⟩ := vals1 r2
  refine ⟨I2.kIn, ?_⟩
  obtain ⟨pn, hpn⟩ := hp
  refine run_raiN (ws := [u]) (zs := [v]) (kw := []) N ty (fun A s1 H1 gs us1 vs1 Q1 eA I1 e1 hB hV hsp => by
    subst eA
    have P1 := I1.pin pn (List.mem_append_left _ hpn)
    have hpin : L2H.PinOk X.stack H1 s1 pn := ⟨P1.1, P1.2.1, fun hmm => (List.mem_cons.mp (I1.stkSub pn.1 hmm)).elim P1.2.2.1 P1.2.2.2.1, P1.2.2.2.2⟩
    exact F.run _ X.stack s1 H1 gs us1 vs1 Q1 pn (hR.make C _ _) hpin e1 hB hV hsp) I2 (by rw [sizeLine_eq]; exact (by decide : 1 ≤ 16777216)) (fun s' self ki => ?_) (.cons ru .nil) fun a na => ?_
  · have := b s' [self, u] ki rfl
    rw [List.append_nil] at this
    exact this
  · exact ⟨a, v, rfl, upd_same, fun d nd n => mk_q na nd n q2⟩
end
section
variable {P : Program} {w : World} {K : PySem.W.Frag} {mg : Str → Option Value} {base : Heap}
theorem ok_i1P {qn f : Str} {st : Stmt} {fa C : Addr} {fd : FuncData} {p1 p2 p3 p4 : Pos} (F : Fun K "__init__" qn st fa fd) (S : FnScope ["self", f] ["self", f] (defScope st)) (hb : defBody st = [.Assign [.Attribute (.Name "self" p1) f p2] (.Name f p3) p4])
    (hd : (f == ("__debug__" : Str)) = false) (hc : (f == ("__classdict__" : Str)) = false) (hs : ∀ env : Env, swapsWith (.Name f p3) (some (.Attribute (.Name "self" p1) f p2)) p4.line env = pure false) (T : XC K C) (ht : PySem.W.takerIn K C f = some none) : FnP P w K mg base 1 fa fd ["self", f] (spI1 C f) := by
  refine okP F S (fun vs H Q E h => ?_) (fun cv A ou s H vs Q p hr h => ?_)
  · obtain ⟨a, v, rfl, _⟩ := h
    rfl
  obtain ⟨a, v, rfl, ea, q⟩ := h
  rw [hb]
  refine ⟨_, pss_one (ps_est (pe_var (i := 0) rfl ((S.par "self" (List.Mem.head _)).elim (fun z => .inl z) (fun z => .inr (.inl z)))) (pe_var (i := 1) rfl ((S.par f (.tail _ (List.Mem.head _))).elim (fun z => .inl z) (fun z => .inr (.inl z))) hd hc) (hs _)), ?_⟩
  exact ⟨v, rfl, .ref a, rfl, a, C, rfl, T, ht, .inl ⟨ea, q⟩⟩
theorem xd_oneH {h : Heap} {nm f qn : Str} {b : Nat} {st : Stmt} {fd : FuncData} {p1 p2 p3 p4 : Pos} (X : K.In h) (G : h.Ns mainGlobals mg) (q : xdB K ⟨nm, b, f⟩ = true) (F : Fun K "__init__" qn st (He.ma K (He.ga K nm) "__init__") fd)
    (S : FnScope ["self", f] ["self", f] (defScope st)) (hb : defBody st = [.Assign [.Attribute (.Name "self" p1) f p2] (.Name f p3) p4])
    (hd : (f == ("__debug__" : Str)) = false) (hc : (f == ("__classdict__" : Str)) = false) (hs : ∀ env : Env, swapsWith (.Name f p3) (some (.Attribute (.Name "self" p1) f p2)) p4.line env = pure false)
    (b1 : ∀ (kV doc pm : Value) (an : Option Addr) (cdv ct : Value) (us : List Value), us.length = 2 → bindArgs (PySem.W.fnOf "__init__" qn (defArgs st) (defBody st) (defScope st) .none kV doc pm an cdv ct) ⟨us, []⟩ = pure ((["self", f] : List Str).zip us)) : OneH P w K mg base nm f (He.ga K nm) := by
  have T := xd_xc q
  obtain ⟨_, q'⟩ := He.ba q
  obtain ⟨_, q'⟩ := He.ba q'
  obtain ⟨t1, q'⟩ := He.ba q'
  obtain ⟨t2, q'⟩ := He.ba q'
  obtain ⟨i1, q'⟩ := He.ba q'
  obtain ⟨i2, _⟩ := He.ba q'
  exact ⟨He.glo_ok X G (xd_glo q), ⟨_, fd, ⟨T, He.eqO_ok i1, of_decide_eq_true i2⟩, ok_i1P F S hb hd hc hs T (He.eqO_ok t1), F.binds b1⟩⟩
end
end Gd
set_option Elab.async false
set_option linter.all false
set_option maxRecDepth 100000
set_option maxHeartbeats 4000000
namespace Ks
open PySem PySem.Spec PyProof.Rows L2 Gd Kx
/-! ### check_rows of rows that a text tells -/
def kindOf (m : Md) (z : Str) : Str := ((m.rs.find? (fun w => decide (w.1 = z))).map (·.2.1)).getD ""
def ksAt (m : Md) (rs : List Ro) (i : Nat) : List Str := (rs.take i).map fun r => kindOf m r.1
def okTo (m : Md) (rs : List Ro) (i : Nat) : Prop := ∀ j r, j < i → rs[j]? = some r → rowB m (ksAt m rs j) r = true
theorem rowB_row {m : Md} {ks : List Str} {r : Ro} (h : rowB m ks r = true) : ∃ (w : Rw) (pl : Nat), m.rs[pl]? = some w ∧ w.1 = r.1 ∧ kindOf m r.1 = w.2.1 := by
  have hm : r.1 ∈ m.rs.map (·.1) := by
    by_cases hm : r.1 ∈ m.rs.map (·.1)
    · exact hm
    · unfold rowB at h
      rw [find_no hm] at h
      cases h
  obtain ⟨w, pl, e1, e2, e3⟩ := find_row hm
  refine ⟨w, pl, e2, e3, ?_⟩
  unfold kindOf
  rw [e1]
  rfl
section
variable {P : Program} {w : World} {K : PySem.W.Frag} {mg : Str → Option Value} {base : Heap} {CS IR : Addr}
def spCrwO (CS IR : Addr) : Sp := fun vs H Q E => ∃ (s R : Addr) (m : Md) (rs : List Ro), vs = [.ref s, .ref R] ∧ ScAt CS H s m ∧ Good m ∧ RwsO H R rs ∧ rs.length < sizeLine ∧ (∀ r ∈ rs, r.2.length ≤ 1000) ∧
  (¬ (1 ≤ rs.length ∧ rs.length ≤ 200) → ∀ d H', Same H H' → H' d = some (.xd [("index", .non)]) → E (.ref IR) (some d) H') ∧
  (1 ≤ rs.length → rs.length ≤ 200 → (∀ (i : Nat) (r : Ro), rs[i]? = some r → okTo m rs i → rowB m (ksAt m rs i) r = false → ∀ d H', Same H H' → H' d = some (.xd [("index", .int ((i : Nat) : Int))]) → E (.ref IR) (some d) H') ∧
    (okTo m rs rs.length → ∀ H', Same H H' → Q .non H'))
set_option maxHeartbeats 8000000 in
theorem ok_crwO {f fi : Addr} {fd fdi : FuncData} (F : Fun K "check_rows" "check_rows" sCrw f fd) (T : TS0 mg) (mM : ∃ t, mg "MOST_ROWS" = some (.int 200 t)) (S : Sch P w K mg base CS) (O : One P w K mg base "InvalidRows" "index" IR) (ty : PySem.W.typeIn K (.ref IR) = some (.type "type"))
    (GI : FnOk P w K mg base CX0 4 fi fdi ["schema", "row", "kinds"] (spIrwO CS)) (ki : PySem.W.keepIn K (.ref fi) = true) (bI : Binds K fdi ["schema", "row", "kinds"] []) (gI : mg "_is_row" = some (.ref fi)) :
    FnOk P w K mg base (L2N.CX P w) 5 f fd ["schema", "rows"] (spCrwO CS IR) := by
  refine okXN F scCrw (fun vs H Q E h => ?_) (fun cv A ou s H vs Q E hr h => ?_)
  · obtain ⟨s, R, m, rs, rfl, _⟩ := h
    rfl
  obtain ⟨sa, R, m, rs, rfl, hs, g, ⟨xs, eR, pR⟩, lz, l1000, q0, q1⟩ := h
  obtain ⟨Z, _, _, _, ⟨fco, dco, Mco, Fco, bco⟩⟩ := S
  obtain ⟨tM, mM⟩ := mM
  have hr3 : Room 3 (A.deeper (envOfC "check_rows" (defScope sCrw) s.heap.objs.size f cv)) := hr.mono (by decide)
  have hr2 : Room 2 (A.deeper (envOfC "check_rows" (defScope sCrw) s.heap.objs.size f cv)) := hr.mono (by decide)
  have lx : xs.length = rs.length := Paired.length pR
  refine ⟨_, pss_cons (ps_if (PW.pt (pw_or (pt_not (pt_val (pe_callB call_isi (by rfl) T.isi boot_isinstance (pa_cons (pv 1) (pa_cons (pe_bltn (v := .ty "tuple") (by rfl) T.tup boot_tuple rfl) pa_nil)))))
        (pw_or1 (pt_not (pt_chain op_le op_le pe_int (pe_callB call_len_seq (by rfl) T.len PySem.boot_len (pa_cons (pv 1) pa_nil)) (pe_glob (v := .int 200) (by rfl) mM ⟨_, rfl⟩)))))) (pss_one (L2N.ps_raise rfl (L2N.takes_of rfl rfl rfl rfl) (pmkN_one O ty hr2 (by rfl) pe_non))) pss_nil)
    (pss_cons (ps_set (i := 2) scCrw.nd rfl (.inl rfl) (pe_lst pa_nil))
    (pss_one (ps_for PassesOwn.leaving rfl (pi_enT (by rfl) T.enu (pa_cons (pv 1) pa_nil)) (pg_tup rfl (pgs_cons (pg_name (i := 3) scCrw.nd rfl (.inl rfl)) (pgs_cons (pg_name (i := 4) scCrw.nd rfl (.inl rfl)) pgs_nil)))
      (pss_cons (ps_if (pt_not (pt_val (pe_call GI hr (by rfl) gI ki bI .nil pass0 (pa_cons (pv 0) (pa_cons (pv 4) (pa_cons (pv 2) pa_nil)))))) (pss_one (L2N.ps_raise rfl (L2N.takes_of rfl rfl rfl rfl) (pmkN_one O ty hr2 (by rfl) (pv 3)))) pss_nil)
      (pss_one (ps_expr (pe_bm PySem.F.plainAttrs_list PySem.F.slot_list_append PySem.F.type_list_append mt_append (pv 2) (pa_cons (pe_ix ix_tup (pe_meth (pv 0) Z.cls Mco Fco hr3 bco .nil pass0 (pa_cons (pe_ix ix_tup (pv 4) pe_int (fun _ _ => rfl)) pa_nil)) pe_int (fun _ _ => rfl)) pa_nil)))))))), ?_⟩
  refine ⟨.ref R, rfl, .ref R, .ty "tuple", _, _, true, rfl, .ty "tuple", .base (.tup eR), kit_ty (by decide +kernel), _, rfl, iteF ?_⟩
  refine ⟨.ref R, rfl, R, _, rfl, .inr (SqT.of eR), _, _, rfl, rfl, _, rfl, ?_⟩
  by_cases r1 : 1 ≤ rs.length
  rotate_left
  · rw [decide_eq_false (show ¬ (1 : Int) ≤ ((xs.length : Nat) : Int) by omega)]
    exact iteF ⟨_, rfl, iteT (fun d H' s n e => q0 (fun h => r1 h.1) d H' s e)⟩
  rw [decide_eq_true (show (1 : Int) ≤ ((xs.length : Nat) : Int) by omega)]
  refine iteT ⟨_, _, rfl, rfl, _, rfl, ?_⟩
  by_cases r200 : rs.length ≤ 200
  rotate_left
  · rw [decide_eq_false (show ¬ ((xs.length : Nat) : Int) ≤ 200 by omega)]
    exact iteT (fun d H' s n e => q0 (fun h => r200 h.2) d H' s e)
  rw [decide_eq_true (show ((xs.length : Nat) : Int) ≤ 200 by omega)]
  obtain ⟨q1, q2⟩ := q1 r1 r200
  refine iteF ⟨(by show 0 ≤ sizeLine; exact Nat.zero_le _), fun L nL => ?_⟩
  refine ⟨.ref R, rfl, R, _, rfl, SqT.of (same_new nL _ _ eR), for_enT (K := K) (t := R) (xs := xs) (fun i σ H' => ∃ o3 o4 : Option V, σ = [some (.ref sa), some (.ref R), some (.ref L), o3, o4] ∧ Same H H' ∧ H' L = some (.lst ((ksAt m rs i).map V.str)) ∧ okTo m rs i) ⟨none, none, rfl, same_new nL, upd_same, fun j r hj => absurd hj (Nat.not_lt_zero _)⟩ (fun i σ H' _ p => ?_) ?_ ?_⟩
  · obtain ⟨_, _, _, s1, _⟩ := p
    exact SqT.of (s1 _ _ eR)
  · rintro i x σ H1 p hx ⟨o3, o4, rfl, s1, eL, gd⟩ np
    obtain ⟨r, er, hrow⟩ := par_at pR hx
    have hi : i < rs.length := (List.getElem?_eq_some_iff.mp er).1
    have s2 : Same H1 (upd H1 p (.tup [.int (i : Nat), x])) := same_new np
    have sA := s1.trans s2
    have lks : (ksAt m rs i).length ≤ 200 := by
      unfold ksAt
      rw [List.length_map, List.length_take]
      omega
    refine ⟨p, _, rfl, SqT.of upd_same, rfl, _, _, rfl, _, _, rfl, rfl, ?_⟩
    refine ⟨.ref sa, rfl, x, rfl, .ref L, rfl, sa, L, x, m, r, ksAt m rs i, rfl, hs.keep sA, g, RowO.keep hrow sA, l1000 r (List.mem_of_getElem? er), s2 _ _ eL, lks, fun H2 s3 => ?_⟩
    have sB := sA.trans s3
    cases hb : rowB m (ksAt m rs i) r with
    | false => exact ⟨false, rfl, iteT ⟨.int ((i : Nat) : Int), rfl, fun d H' s n e => q1 i r er gd hb d H' (sB.trans s) e⟩⟩
    | true =>
      refine ⟨true, rfl, iteF ?_⟩
      have eL2 := s3 _ _ (s2 _ _ eL)
      obtain ⟨b, q0', rfl, eb, eq0⟩ := RowO.keep hrow sB
      obtain ⟨w0, pl, epl, en, ek⟩ := rowB_row hb
      have ezn : (m.rs.map (·.1))[pl]? = some r.1 := by rw [List.getElem?_map, epl, ← en]; rfl
      obtain ⟨dS, kA, cA, nA, ⟨dp, ea, edp⟩, ak, ac, an⟩ := hs.keep sB
      obtain ⟨ys, eac, pac⟩ := id ac
      obtain ⟨y, ey, vy⟩ := rows_has' pac epl
      obtain ⟨rb, fb, rfl, erb, efb⟩ := id vy
      refine ⟨.ref L, rfl, .inl ⟨rfl, _, SqL.of eL2⟩, .ref sa, rfl, sa, dS, _, rfl, ea, rfl, .ref b, rfl, b, _, _, .str r.1, rfl, rfl, SqT.of eb, rfl, sa, kA, cA, nA, _, ys, r.1, pl, .ref rb, rfl, ⟨dS, _, ⟨dp, ea, edp⟩, an⟩, an, g.rd, ezn, eac, ey, rb, _, _, .str w0.2.1, rfl, rfl, SqT.of erb, rfl, L, _, _, rfl, rfl, eL2, ?_, _, _, rfl, same_upd sB nL, ?_, fun j r' hj er' => ?_⟩
      · rw [List.length_map]
        exact small1000 (by omega)
      · rw [upd_same]
        unfold ksAt
        rw [List.take_add_one, er, Option.toList_some, List.map_append, List.map_append]
        show some (HO.lst (_ ++ [V.str w0.2.1])) = some (HO.lst (_ ++ [V.str (kindOf m r.1)]))
        rw [ek]
      · by_cases hj2 : j < i
        · exact gd j r' hj2 er'
        · obtain rfl : j = i := by omega
          rw [er] at er'
          cases er'
          exact hb
  · rintro σ H1 ⟨o3, o4, rfl, s1, eL, gd⟩
    exact q2 (by rw [lx] at gd; exact gd) H1 s1
end
end Ks
set_option Elab.async false
set_option linter.all false
set_option maxRecDepth 100000
set_option maxHeartbeats 4000000
namespace Ks
open PySem PySem.Spec PyProof.Rows L2 Gd Kx
/-! ### rows that build trees, and rows that are let through -/
def liftR (r : Rn) : Ro := (r.1, r.2.map some)
theorem find_of {m : Md} (g : Good m) {w : Rw} (h : w ∈ m.rs) : m.rs.find? (fun x => decide (x.1 = w.1)) = some w := by
  obtain ⟨v, pl, e1, e2, e3⟩ := find_row (m := m) (z := w.1) (List.mem_map.mpr ⟨w, h, rfl⟩)
  rw [e1]
  obtain ⟨j, hj, ej⟩ := List.getElem_of_mem h
  have e4 : (m.rs.map (·.1))[j]? = (m.rs.map (·.1))[pl]? := by
    rw [List.getElem?_map, List.getElem?_map, e2, List.getElem?_eq_getElem hj, ej]
    exact congrArg some e3.symm
  have hl : j < (m.rs.map (·.1)).length := by rw [List.length_map]; exact hj
  have := (List.getElem?_inj hl g.rd).mp e4
  subst this
  rw [List.getElem?_eq_getElem hj, ej] at e2
  exact congrArg some (Option.some.inj e2).symm
theorem kind_of {m : Md} (g : Good m) {t : Tr} (ok : t.Ok m) : kindOf m t.row.1 = t.row.2.1 := by
  unfold kindOf
  rw [find_of g (Tr.ok_iff.mp ok).1]
  rfl
theorem rowB_of {m : Md} (g : Good m) {ks : List Str} {r : Ro} {w : Rw} (h : w ∈ m.rs) (e : w.1 = r.1) : rowB m ks r = (decide (r.2.length = w.2.2.length) && (List.zipWith (fitR ks) r.2 w.2.2).all id) := by
  unfold rowB
  have := find_of g h
  rw [e] at this
  rw [this]
theorem zip_all {α β : Type} {f : α → β → Bool} : ∀ {xs : List α} {ys : List β}, xs.length = ys.length → ((List.zipWith f xs ys).all id = true ↔ ∀ (j : Nat) (x : α) (y : β), xs[j]? = some x → ys[j]? = some y → f x y = true)
  | [], [], _ => by simp
  | x :: xs, y :: ys, h => by
    have ih := zip_all (f := f) (xs := xs) (ys := ys) (by simpa using h)
    rw [List.zipWith_cons_cons, List.all_cons, Bool.and_eq_true, ih]
    constructor
    · rintro ⟨h1, h2⟩ j a b ea eb
      cases j with
      | zero =>
        cases ea
        cases eb
        exact h1
      | succ j => exact h2 j a b (by simpa using ea) (by simpa using eb)
    · intro hh
      exact ⟨hh 0 x y rfl rfl, fun j a b ea eb => hh (j + 1) a b (by simpa using ea) (by simpa using eb)⟩
  | [], _ :: _, h => by simp at h
  | _ :: _, [], h => by simp at h
theorem bld_okTo {m : Md} (g : Good m) {rs : List Rn} {ts : List Tr} (b : Bld m rs ts) : okTo m (rs.map liftR) rs.length := fun j r hj er => by
  rw [List.getElem?_map] at er
  cases e0 : rs[j]? with
  | none => rw [e0] at er; cases er
  | some r0 =>
  rw [e0] at er
  cases er
  have hjt : j < ts.length := by rw [← b.len]; exact hj
  have et : ts[j]? = some ts[j] := List.getElem?_eq_getElem hjt
  obtain ⟨en, ln, kk⟩ := b.at_ j r0 _ e0 et
  have okt := b.ok _ (List.mem_of_getElem? et)
  obtain ⟨o1, o2, o3⟩ := Tr.ok_iff.mp okt
  have lw : (liftR r0).2.length = ts[j].row.2.2.length := by
    show (r0.2.map some).length = _
    rw [List.length_map, ln, o2, List.length_map]
  rw [rowB_of g o1 en, decide_eq_true lw, Bool.true_and]
  refine (zip_all lw).mpr fun i o k ei ek => ?_
  have ei' : (r0.2.map some)[i]? = some o := ei
  rw [List.getElem?_map] at ei'
  cases e1 : r0.2[i]? with
  | none => rw [e1] at ei'; cases ei'
  | some n =>
  rw [e1] at ei'
  cases ei'
  rw [o2, List.getElem?_map] at ek
  cases e2 : ts[j].kids[i]? with
  | none => rw [e2] at ek; cases ek
  | some c =>
  rw [e2] at ek
  cases ek
  obtain ⟨hn, hc⟩ := kk i n c e1 e2
  show decide ((ksAt m (rs.map liftR) j)[n]? = some c.row.2.1) = true
  refine decide_eq_true ?_
  unfold ksAt
  have hnr : n < rs.length := by have : j < rs.length := hj; omega
  have e3 : rs[n]? = some rs[n] := List.getElem?_eq_getElem hnr
  obtain ⟨en2, _, _⟩ := b.at_ n _ c e3 hc
  rw [List.getElem?_map, List.getElem?_take, if_pos hn, List.getElem?_map, e3]
  show some (kindOf m rs[n].1) = _
  rw [← en2, kind_of g (b.ok c (List.mem_of_getElem? hc))]
theorem ok_bld {m : Md} (g : Good m) {rs : List Ro} (h : okTo m rs rs.length) : ∀ n, n ≤ rs.length → ∃ (rs' : List Rn) (ts : List Tr), rs.take n = rs'.map liftR ∧ Bld m rs' ts := fun n => by
  induction n with
  | zero => exact fun _ => ⟨[], [], rfl, ⟨rfl, fun t ht => (by cases ht), fun i r t e _ => (by simp at e)⟩⟩
  | succ n ih =>
    intro hn
    obtain ⟨rs', ts, er, b⟩ := ih (by omega)
    have ln : rs'.length = n := by
      have := congrArg List.length er
      rw [List.length_take, List.length_map] at this
      omega
    have lt : ts.length = n := by rw [← b.len, ln]
    have er0 : rs[n]? = some (rs[n]'(by omega)) := List.getElem?_eq_getElem _
    generalize rs[n]'(by omega) = r at er0
    have hb := h n r (by omega) er0
    obtain ⟨w, pl, epl, en, _⟩ := rowB_row hb
    have hw := List.mem_of_getElem? epl
    rw [rowB_of g hw en] at hb
    obtain ⟨hl, ha⟩ := Bool.and_eq_true_iff.mp hb
    replace hl := of_decide_eq_true hl
    replace ha := (zip_all hl).mp ha
    have w3 : w.2.2.length ≤ 3 := g.f3 w hw
    -- each number leads to a tree of its kind
    have fit : ∀ (j : Nat) (o : Option Nat) (k : Str), r.2[j]? = some o → w.2.2[j]? = some k → ∃ (a : Nat) (c : Tr), o = some a ∧ a < n ∧ ts[a]? = some c ∧ c.row.2.1 = k := fun j o k eo ek => by
      have hf := ha j o k eo ek
      cases o with
      | none => cases hf
      | some a =>
        have hk : (ksAt m rs n)[a]? = some k := of_decide_eq_true hf
        unfold ksAt at hk
        rw [er, List.getElem?_map, List.getElem?_map] at hk
        cases ea : rs'[a]? with
        | none => rw [ea] at hk; cases hk
        | some ra =>
          rw [ea] at hk
          have hal := (List.getElem?_eq_some_iff.mp ea).1
          have et : ts[a]? = some (ts[a]'(by omega)) := List.getElem?_eq_getElem _
          obtain ⟨e1, _, _⟩ := b.at_ a ra _ ea et
          refine ⟨a, _, rfl, by omega, et, ?_⟩
          have hk' : kindOf m ra.1 = k := Option.some.inj hk
          rw [← hk', ← e1, kind_of g (b.ok _ (List.mem_of_getElem? et))]
    let ns : List Nat := r.2.map fun o => o.getD 0
    let cs : List Tr := ns.map fun a => (ts[a]?).getD (.n0 w)
    have lns : ns.length = w.2.2.length := by show (r.2.map _).length = _; rw [List.length_map, hl]
    have lcs : cs.length = w.2.2.length := by show (ns.map _).length = _; rw [List.length_map, lns]
    have each : ∀ (j a : Nat) (c : Tr), ns[j]? = some a → cs[j]? = some c → a < n ∧ ts[a]? = some c ∧ r.2[j]? = some (some a) ∧ w.2.2[j]? = some c.row.2.1 := fun j a c ea ec => by
      have ea' : (r.2.map fun o => o.getD 0)[j]? = some a := ea
      rw [List.getElem?_map] at ea'
      have ec' : (ns.map fun a => (ts[a]?).getD (.n0 w))[j]? = some c := ec
      rw [List.getElem?_map, ea] at ec'
      cases eo : r.2[j]? with
      | none => rw [eo] at ea'; cases ea'
      | some o =>
        have hj := (List.getElem?_eq_some_iff.mp eo).1
        have ek : w.2.2[j]? = some (w.2.2[j]'(by omega)) := List.getElem?_eq_getElem _
        obtain ⟨a', c', rfl, h1, h2, h3⟩ := fit j o _ eo ek
        rw [eo] at ea'
        cases ea'
        have ec2 : (ts[a']?).getD (.n0 w) = c := Option.some.inj ec'
        rw [h2] at ec2
        have ec3 : c' = c := ec2
        subst ec3
        exact ⟨h1, h2, rfl, by rw [ek, h3]⟩
    have rcs : r.2 = ns.map some := by
      refine List.ext_getElem? fun j => ?_
      rw [List.getElem?_map]
      show r.2[j]? = (r.2.map fun o => o.getD 0)[j]?.map some
      rw [List.getElem?_map]
      cases eo : r.2[j]? with
      | none => rfl
      | some o =>
        have hj := (List.getElem?_eq_some_iff.mp eo).1
        have ek : w.2.2[j]? = some (w.2.2[j]'(by omega)) := List.getElem?_eq_getElem _
        obtain ⟨a', c', rfl, _⟩ := fit j o _ eo ek
        rfl
    have kids : (Tr.mk w cs).kids = cs := Tr.mk_kids _ (by rw [lcs]; exact w3)
    have okt : (Tr.mk w cs).Ok m := by
      refine Tr.ok_iff.mpr ⟨by rw [Tr.mk_row]; exact hw, ?_, fun c hc => ?_⟩
      · rw [Tr.mk_row, kids]
        refine List.ext_getElem? fun j => ?_
        rw [List.getElem?_map]
        cases ec : cs[j]? with
        | none =>
          have := List.getElem?_eq_none_iff.mp ec
          rw [List.getElem?_eq_none (by omega)]
          rfl
        | some c =>
          have hj := (List.getElem?_eq_some_iff.mp ec).1
          have ea : ns[j]? = some (ns[j]'(by omega)) := List.getElem?_eq_getElem _
          exact (each j _ c ea ec).2.2.2
      · rw [kids] at hc
        obtain ⟨j, hj, ej⟩ := List.getElem_of_mem hc
        have ec : cs[j]? = some c := by rw [List.getElem?_eq_getElem hj, ej]
        have ea : ns[j]? = some (ns[j]'(by omega)) := List.getElem?_eq_getElem _
        exact b.ok c (List.mem_of_getElem? (each j _ c ea ec).2.1)
    refine ⟨rs' ++ [(r.1, ns)], ts ++ [Tr.mk w cs], ?_, ?_, ?_, ?_⟩
    · rw [List.take_add_one, er0, Option.toList_some, er, List.map_append]
      show _ ++ [r] = _ ++ [((r.1, ns.map some) : Ro)]
      rw [← rcs]
    · rw [List.length_append, List.length_append, b.len]
      rfl
    · intro t ht
      rcases List.mem_append.mp ht with h1 | h1
      · exact b.ok t h1
      · rw [List.mem_singleton.mp h1]
        exact okt
    · intro i r1 t1 e1 e2
      by_cases hi : i < n
      · rw [List.getElem?_append_left (by omega)] at e1 e2
        obtain ⟨a1, a2, a3⟩ := b.at_ i r1 t1 e1 e2
        refine ⟨a1, a2, fun j k c ej ec => ?_⟩
        obtain ⟨h1, h2⟩ := a3 j k c ej ec
        exact ⟨h1, by rw [List.getElem?_append_left (by omega)]; exact h2⟩
      · have hi2 : i = n := by
          have := (List.getElem?_eq_some_iff.mp e1).1
          rw [List.length_append, List.length_singleton] at this
          omega
        subst hi2
        rw [List.getElem?_append_right (by omega), ln, Nat.sub_self] at e1
        rw [List.getElem?_append_right (by omega), lt, Nat.sub_self] at e2
        cases e1
        cases e2
        refine ⟨by rw [Tr.mk_row]; exact en, by rw [kids, lcs]; exact lns, fun j k c ej ec => ?_⟩
        rw [kids] at ec
        obtain ⟨h1, h2, _, _⟩ := each j k c ej ec
        exact ⟨h1, by rw [List.getElem?_append_left (by omega)]; exact h2⟩
end Ks
set_option Elab.async false
set_option linter.all false
set_option maxRecDepth 100000
set_option maxHeartbeats 4000000
namespace Ks
open PySem PySem.Spec PyProof.Rows L2 Gd Kx
abbrev sGrn : Stmt := Kx.topS 60
abbrev nGrn : List Str := ["_law_deal_here", "_law_names", "_law_rows", "_law_k", "_law_many", "_law_turn"]
theorem scGrn : FnScope nGrn ["_law_deal_here", "_law_names"] (defScope sGrn) := ⟨rfl, rfl, rfl, by decide +kernel, rfl, by decide +kernel, by decide +kernel⟩
/-- rows that rest on earlier ones -/
def Grown (z : Nat → Str) (rows : List Rn) : Prop := ∀ (i : Nat) (r : Rn), rows[i]? = some r → r.2.length ≤ 3 ∧ r.1 = z r.2.length ∧ ∀ n ∈ r.2, n < i
theorem grown_snoc {z : Nat → Str} {rows : List Rn} {r : Rn} (h : Grown z rows) (h1 : r.2.length ≤ 3) (h2 : r.1 = z r.2.length) (h3 : ∀ n ∈ r.2, n < rows.length) : Grown z (rows ++ [r]) := fun i s e => by
  by_cases hi : i < rows.length
  · rw [List.getElem?_append_left hi] at e
    exact h i s e
  · have hl := (List.getElem?_eq_some_iff.mp e).1
    rw [List.length_append, List.length_singleton] at hl
    have : i = rows.length := by omega
    subst this
    rw [List.getElem?_append_right (Nat.le_refl _), Nat.sub_self] at e
    cases e
    exact ⟨h1, h2, h3⟩
section
variable {P : Program} {w : World} {K : PySem.W.Frag} {mg : Str → Option Value} {base : Heap}
def spGrn : Sp := fun vs H Q _ => ∃ (p L : Addr) (z : Nat → Str), vs = [.ref p, .ref L] ∧ DealAt H p ∧ H L = some (.lst [.str (z 0), .str (z 1), .str (z 2), .str (z 3)]) ∧ L ≠ p ∧
  ∀ (R : Addr) (xs : List V) (rows : List Rn) (H' : Hp), DealAt H' p → Sb p H H' → H' R = some (.lst xs) → R ≠ p → H R = none → Paired (RowN H') xs rows → Grown z rows → 2 ≤ rows.length → rows.length ≤ 60 → Q (.ref R) H'
set_option maxHeartbeats 8000000 in
theorem ok_grn {f fp : Addr} {fd dp : FuncData} (F : Fun K "_law_grown" "_law_grown" sGrn f fd) (mr : mg "range" = none) (mt : mg "tuple" = none) (mx : mg "max" = none)
    (GP : FnOk P w K mg base CX0 1 fp dp ["_law_deal_here", "_law_many"] spPick) (kp : PySem.W.keepIn K (.ref fp) = true) (bP : Binds K dp ["_law_deal_here", "_law_many"] []) (gP : mg "_law_pick" = some (.ref fp)) :
    FnOk P w K mg base CX0 2 f fd ["_law_deal_here", "_law_names"] spGrn := by
  refine F.ok scGrn (fun vs H Q E h => ?_) (fun cv A ou s H vs Q E hr h => ?_)
  · obtain ⟨p, L, z, rfl, _⟩ := h
    rfl
  obtain ⟨p, L, z, rfl, hD, eL, Lp, q⟩ := h
  refine ⟨_, pss_cons (ps_set (i := 2) scGrn.nd rfl (.inl rfl) (pe_lst (pa_cons (pe_tup (pa_cons (pe_ix ix_list (pv 1) pe_int (fun _ _ => rfl)) (pa_cons (pe_tup pa_nil) pa_nil))) pa_nil)))
    (pss_cons (ps_for PassesOwn.never rfl (pi_range1 (by rfl) mr (pa_cons (pe_op op_add pe_int (pe_call GP hr (by rfl) gP kp bP .nil pass0 (pa_cons (pv 0) (pa_cons pe_int pa_nil)))) pa_nil)) (pg_name (i := 3) scGrn.nd rfl (.inr rfl))
      (pss_cons (ps_set (i := 4) scGrn.nd rfl (.inl rfl) (pe_op op_add pe_int (pe_call GP hr (by rfl) gP kp bP .nil pass0 (pa_cons (pv 0) (pa_cons pe_int pa_nil)))))
      (pss_one (ps_expr (pe_bm PySem.F.plainAttrs_list PySem.F.slot_list_append PySem.F.type_list_append mt_append (pv 2) (pa_cons (pe_tup (pa_cons (pe_ix ix_list (pv 1) (pv 4) (fun _ _ => rfl)) (pa_cons (pe_tupleOf (by rfl) mt (pe_lc (own := [("_law_turn", 5)]) (g := gName 5) (tt := tYes) (by rfl) scGrn.nd (pi_range1 (by rfl) mr (pa_cons (pv 4) pa_nil)) (blkOk_by (own := [("_law_turn", 5)]) (N := nGrn) (sc := defScope sGrn) (by decide +kernel))
          (fun _ _ _ _ _ => pg_name (i := 5) scGrn.nd rfl (Or.inl rfl)) (fun _ _ _ _ _ => pts_nil)
          (fun _ _ _ _ _ => pe_callB (call_max2 rfl) (by rfl) mx boot_max (pa_cons pe_int (pa_cons (pe_op op_sub (pv 3) (pe_call GP hr (by rfl) gP kp bP .nil pass0 (pa_cons (pv 0) (pa_cons pe_int pa_nil)))) pa_nil))))) pa_nil))) pa_nil))))))
    (pss_one (ps_ret (pv 2)))), ?_⟩
  refine seq_join (fun σ G => ∃ (R x0 : Addr), σ = [some (.ref p), some (.ref L), some (.ref R), none, none, none] ∧ Same H G ∧ G R = some (.lst [.ref x0]) ∧ H R = none ∧ RowN G (.ref x0) (z 0, [])) ?_ fun rest => ?_
  rotate_left
  · refine ⟨.ref L, rfl, L, _, _, .str (z 0), rfl, rfl, SqL.of eL, rfl, (by show 0 ≤ sizeLine; exact Nat.zero_le _), fun t0 nt0 => ⟨(by show 2 ≤ sizeLine; decide), fun t1 nt1 => ⟨(by show 1 ≤ sizeLine; decide), fun R nR => ?_⟩⟩⟩
    have s1 := same_new (o := .tup []) nt0
    have s2 := same_new (o := .tup [.str (z 0), .ref t0]) nt1
    have s3 := same_new (o := .lst [.ref t1]) nR
    refine rest _ _ ⟨R, t1, rfl, s1.trans (s2.trans s3), upd_same, ?_, t1, t0, rfl, s3 _ _ upd_same, (s2.trans s3) _ _ upd_same⟩
    cases e : H R with
    | none => rfl
    | some o => rw [(s1.trans s2) _ _ e] at nR; cases nR
  rintro σ G1 ⟨R, x0, rfl, s1, eR1, nR, h0⟩
  have D1 := hD.keep s1
  have Rp : R ≠ p := fun e => by
    obtain ⟨_, _, _, ep, _⟩ := hD
    rw [e, ep] at nR
    cases nR
  refine ⟨.ref p, rfl, p, _, rfl, D1, by decide, by decide, fun d0 H2 d00 d0l D2 b2 => ⟨_, _, rfl, rfl, _, rfl, ?_, ?_, for_range (n := (5 + d0).toNat) (fun i σ G => ∃ (o3 o4 : Option V) (xs : List V) (rows : List Rn), σ = [some (.ref p), some (.ref L), some (.ref R), o3, o4, none] ∧ DealAt G p ∧ Sb p H G ∧ G R = some (.lst xs) ∧ Paired (RowN G) xs rows ∧ Grown z rows ∧ rows.length = i + 1)
    ⟨none, none, [.ref x0], [(z 0, [])], rfl, D2, (Sb.of s1).trans b2, b2 _ _ Rp eR1, .cons (h0.tk (Tk.deal D1 b2)) .nil, ?_, rfl⟩ ?_ ?_⟩⟩
  · omega
  · omega
  · intro i r e
    cases i with
    | zero => cases e; exact ⟨Nat.zero_le _, rfl, fun n hn => by cases hn⟩
    | succ i => simp at e
  · rintro i σ G hi ⟨o3, o4, xs, rows, rfl, D3, b3, eR, pR, gr, lr⟩
    have hi60 : i < 55 := by omega
    have eLG : G L = some (.lst [.str (z 0), .str (z 1), .str (z 2), .str (z 3)]) := b3 _ _ Lp eL
    refine ⟨.ref p, rfl, p, _, rfl, D3, by decide, by decide, fun d1 H4 d10 d1l D4 b4 => ⟨_, _, rfl, rfl, ?_⟩⟩
    obtain ⟨j, rfl⟩ := Int.eq_ofNat_of_zero_le d10
    have hj : j < 3 := by omega
    have eR4 := b4 _ _ Rp eR
    have at4 : ([V.str (z 0), .str (z 1), .str (z 2), .str (z 3)] : List V)[j + 1]? = some (.str (z (j + 1))) := by
      match j, hj with
      | 0, _ => rfl
      | 1, _ => rfl
      | 2, _ => rfl
    refine ⟨.ref R, rfl, .inl ⟨rfl, _, SqL.of eR4⟩, .ref L, rfl, .int (1 + (j : Int)), rfl, L, _, _, .str (z (j + 1)), rfl, rfl, SqL.of (b4 _ _ Lp eLG), at_of (j := j + 1) (by omega) at4, ?_⟩
    refine ⟨.int (1 + (j : Int)), rfl, _, rfl, by omega, by omega, fun D nD => ?_⟩
    have Dp' : D ≠ p := fun e => by
      obtain ⟨_, _, _, ep, _⟩ := D4
      rw [e, ep] at nD
      cases nD
    refine lc_rangeY (n := ((1 + (j : Int))).toNat) (fun t H5 => DealAt H5 p ∧ Sb p (upd H4 D (.lst [])) (upd H5 D (.lst [])) ∧ t ≤ 3 ∧ ∃ ns : List Nat, ns.length = t ∧ (∀ n ∈ ns, n ≤ i) ∧ H5 D = some (.lst (nsV ns))) (fun _ => rfl) ⟨D4.keep (same_new nD), fun b o n e => by rw [upd_upd]; exact e, Nat.zero_le _, [], rfl, fun n hn => (by cases hn), upd_same⟩ ?_ ?_
    · rintro t H5 ht ⟨D5, b5, t3, ns, lns, hns, eD5⟩
      refine ⟨.int (0 + (i : Int)), rfl, .ref p, rfl, p, _, rfl, D5, by decide, by decide, fun d2 H6 d20 d2l D6 b6 => ⟨_, _, rfl, rfl, _, _, rfl, nsV ns, b6 _ _ Dp' eD5, ?_, deal_upd D6 Dp', ?_, by omega, ns ++ [i - d2.toNat], ?_, ?_, ?_⟩⟩
      · rw [nsV_len]
        exact small1000 (by omega)
      · intro b o n e
        by_cases hb : b = D
        · subst hb
          rw [upd_same] at e ⊢
          exact e
        · have := b5 b o n (by rw [upd_ne hb] at e ⊢; exact e)
          rw [upd_ne hb] at this
          rw [upd_ne hb, upd_ne hb]
          exact b6 _ _ n this
      · rw [List.length_append, List.length_singleton, lns]
      · intro n hn
        rcases List.mem_append.mp hn with h | h
        · exact hns n h
        · rw [List.mem_singleton.mp h]
          omega
      · rw [upd_same, nsV_app]
        congr 3
        show [V.int _] = [V.int _]
        congr 2
        split <;> omega
    · rintro H5 ⟨D5, b5, t3, ns, lns, hns, eD5⟩
      have lns' : ns.length = j + 1 := by rw [lns]; omega
      refine .inl ⟨D, nsV ns, rfl, SqL.of eD5, fun T1 nT1 => ⟨(by show 2 ≤ sizeLine; decide), fun T2 nT2 => ?_⟩⟩
      have s6 := same_new (o := .tup (nsV ns)) nT1
      have s7 := same_new (o := .tup [.str (z (j + 1)), .ref T1]) nT2
      have s67 := s6.trans s7
      have old : ∀ b o, b ≠ p → H4 b = some o → H5 b = some o := fun b o n e => by
        have hb : b ≠ D := fun h => by rw [h, nD] at e; cases e
        have := b5 b o n (by rw [upd_ne hb]; exact e)
        rw [upd_ne hb] at this
        exact this
      have eR7 := s67 _ _ (old _ _ Rp eR4)
      have tk47 : Tk G (upd (upd H5 T1 (.tup (nsV ns))) T2 (.tup [.str (z (j + 1)), .ref T1])) := fun b ys e => by
        have e4 := Tk.deal D3 b4 _ _ e
        refine s67 _ _ (old _ _ (fun h => ?_) e4)
        obtain ⟨_, _, _, ep, _⟩ := id D4
        rw [h, ep] at e4
        cases e4
      have tR : Tk (upd (upd H5 T1 (.tup (nsV ns))) T2 (.tup [.str (z (j + 1)), .ref T1])) (upd (upd (upd H5 T1 (.tup (nsV ns))) T2 (.tup [.str (z (j + 1)), .ref T1])) R (.lst (xs ++ [.ref T2]))) := fun b ys e => by
        rw [upd_ne (fun h => by rw [h, eR7] at e; cases e)]
        exact e
      refine ⟨R, _, _, rfl, rfl, eR7, ?_, _, _, xs ++ [.ref T2], rows ++ [(z (j + 1), ns)], rfl, deal_upd (D5.keep s67) Rp, ?_, upd_same, ?_, ?_, ?_⟩
      · rw [Paired.length pR, lr]
        exact small1000 (by omega)
      · intro b o n e
        have hb : b ≠ R := fun h => by rw [h, nR] at e; cases e
        rw [upd_ne hb]
        exact s67 _ _ (old _ _ n (b4 _ _ n (b3 _ _ n e)))
      · refine Paired.snoc (Paired.mapP pR fun _ _ h => (h.tk tk47).tk tR) ?_
        exact RowN.tk ⟨T2, T1, rfl, upd_same, s7 _ _ upd_same⟩ tR
      · refine grown_snoc gr (by show ns.length ≤ 3; omega) (by show z (j + 1) = z ns.length; rw [lns']) fun n hn => ?_
        have := hns n hn
        omega
      · rw [List.length_append, lr]
        rfl
  · rintro σ G ⟨o3, o4, xs, rows, rfl, D3, b3, eR, pR, gr, lr⟩
    exact ⟨.ref R, rfl, q R xs rows G D3 b3 eR Rp nR pR gr (by omega) (by omega)⟩
end
end Ks
set_option Elab.async false
set_option linter.all false
set_option maxRecDepth 100000
set_option maxHeartbeats 4000000
namespace Ks
open PySem PySem.Spec PyProof.Rows L2 Gd Kx
/-! ### the schema of rows that are grown, their trees -/
def rG (z : Nat → Str) (k : Str) (n : Nat) : Rw := (z n, k, List.replicate n k)
def mG (z : Nat → Str) (k : Str) : Md := ⟨[k], [rG z k 0, rG z k 1, rG z k 2, rG z k 3]⟩
theorem rG_mem {z : Nat → Str} {k : Str} {n : Nat} (h : n ≤ 3) : rG z k n ∈ (mG z k).rs := by
  match n, h with
  | 0, _ => simp [mG]
  | 1, _ => simp [mG]
  | 2, _ => simp [mG]
  | 3, _ => simp [mG]
theorem mG_mem {z : Nat → Str} {k : Str} {r : Rw} (h : r ∈ (mG z k).rs) : ∃ n, n ≤ 3 ∧ r = rG z k n := by
  simp only [mG, List.mem_cons, List.not_mem_nil, or_false] at h
  rcases h with h | h | h | h
  · exact ⟨0, by decide, h⟩
  · exact ⟨1, by decide, h⟩
  · exact ⟨2, by decide, h⟩
  · exact ⟨3, by decide, h⟩
theorem good_mG {z : Nat → Str} {k : Str} (hk : nmS k = true) (hz : ∀ i, i ≤ 3 → nmS (z i) = true) (nd : [z 0, z 1, z 2, z 3].Nodup) : Good (mG z k) where
  k1 := by show 1 ≤ 1; decide
  k4 := by show 1 ≤ 4; decide
  kn := fun x hx => by rw [List.mem_singleton.mp hx]; exact hk
  kd := by simp [mG]
  r1 := by show 1 ≤ 4; decide
  r6 := by show 4 ≤ 6; decide
  rn := fun r hr => by obtain ⟨n, hn, rfl⟩ := mG_mem hr; exact hz n hn
  rd := nd
  rk := fun r hr => by obtain ⟨n, hn, rfl⟩ := mG_mem hr; exact List.mem_singleton.mpr rfl
  f3 := fun r hr => by obtain ⟨n, hn, rfl⟩ := mG_mem hr; show (List.replicate n k).length ≤ 3; rw [List.length_replicate]; exact hn
  fk := fun r hr f hf => by obtain ⟨n, hn, rfl⟩ := mG_mem hr; rw [(List.mem_replicate.mp hf).2]; exact List.mem_singleton.mpr rfl
  tr := fun x hx => ⟨rG z k 0, rG_mem (by decide), (List.mem_singleton.mp hx).symm, rfl⟩
theorem grown_bld {z : Nat → Str} {k : Str} (g : Good (mG z k)) {rows : List Rn} (h : Grown z rows) : ∃ ts, Bld (mG z k) rows ts := by
  have kd : ∀ n, n ≤ 3 → kindOf (mG z k) (z n) = k := fun n hn => by
    unfold kindOf
    rw [show z n = (rG z k n).1 from rfl, find_of g (rG_mem hn)]
    rfl
  have ok : okTo (mG z k) (rows.map liftR) (rows.map liftR).length := fun j r hj er => by
    rw [List.getElem?_map] at er
    cases e0 : rows[j]? with
    | none => rw [e0] at er; cases er
    | some r0 =>
    rw [e0] at er
    cases er
    obtain ⟨h1, h2, h3⟩ := h j r0 e0
    have lw : (liftR r0).2.length = (rG z k r0.2.length).2.2.length := by
      show (r0.2.map some).length = (List.replicate _ k).length
      rw [List.length_map, List.length_replicate]
    have en0 : (rG z k r0.2.length).1 = (liftR r0).1 := h2.symm
    rw [rowB_of g (rG_mem h1) en0, decide_eq_true lw, Bool.true_and]
    refine (zip_all lw).mpr fun i o x ei ex => ?_
    have ei' : (r0.2.map some)[i]? = some o := ei
    rw [List.getElem?_map] at ei'
    cases e1 : r0.2[i]? with
    | none => rw [e1] at ei'; cases ei'
    | some n =>
    rw [e1] at ei'
    cases ei'
    have hx : x = k := (List.mem_replicate.mp (List.mem_of_getElem? ex)).2
    subst hx
    have hn := h3 n (List.mem_of_getElem? e1)
    have hjl : j < rows.length := by rw [List.length_map] at hj; exact hj
    have en : rows[n]? = some (rows[n]'(by omega)) := List.getElem?_eq_getElem _
    obtain ⟨g1, g2, _⟩ := h n _ en
    show decide ((ksAt (mG z x) (rows.map liftR) j)[n]? = some x) = true
    refine decide_eq_true ?_
    unfold ksAt
    rw [List.getElem?_map, List.getElem?_take, if_pos hn, List.getElem?_map, en]
    show some (kindOf (mG z x) (rows[n]'(by omega)).1) = some x
    rw [g2, kd _ g1]
  obtain ⟨rs', ts, e, b⟩ := ok_bld g ok (rows.map liftR).length (Nat.le_refl _)
  rw [List.take_length] at e
  have inj : ∀ {a b : List Rn}, a.map liftR = b.map liftR → a = b := by
    intro a
    induction a with
    | nil => intro b h; cases b with
      | nil => rfl
      | cons _ _ => cases h
    | cons x a ih =>
      intro b h
      cases b with
      | nil => cases h
      | cons y b =>
        rw [List.map_cons, List.map_cons] at h
        injection h with h1 h2
        have e1 : x.1 = y.1 := congrArg (fun r : Ro => r.1) h1
        have e2 : x.2 = y.2 := some_injG (congrArg (fun r : Ro => r.2) h1)
        rw [ih h2, Prod.ext e1 e2]
  rw [inj e]
  exact ⟨ts, b⟩
/-! ### the unlike ones -/
abbrev sShd : Stmt := Kx.topS 61
abbrev nShd : List Str := ["_law_rows", "_law_made", "_law_places", "_law_name", "_law_numbers", "_law_row", "_law_number_here"]
theorem scShd : FnScope nShd ["_law_rows"] (defScope sShd) := ⟨rfl, rfl, rfl, by decide +kernel, rfl, by decide +kernel, by decide +kernel⟩
def woods (ts : List Tr) : List Tr := addAll [] ts
theorem woods_snoc (ts : List Tr) (t : Tr) : woods (ts ++ [t]) = add (woods ts) t := by
  unfold woods
  rw [addAll_app]
  rfl
theorem woods_mem {ts : List Tr} {t : Tr} : t ∈ woods ts ↔ t ∈ ts := by
  unfold woods
  rw [mem_addAll]
  simp
theorem woods_nd (ts : List Tr) : (woods ts).Nodup := addAll_nd .nil
theorem take_snoc {α : Type} {l : List α} {i : Nat} {x : α} (h : l[i]? = some x) : l.take (i + 1) = l.take i ++ [x] := by
  rw [List.take_add_one, h]
  rfl
theorem bld_kids {m : Md} {rs : List Rn} {ts : List Tr} (b : Bld m rs ts) {i : Nat} {t : Tr} (h : ts[i]? = some t) : ∀ c ∈ t.kids, c ∈ ts.take i := fun c hc => by
  have hi := (List.getElem?_eq_some_iff.mp h).1
  have er : rs[i]? = some (rs[i]'(by rw [b.len]; exact hi)) := List.getElem?_eq_getElem _
  obtain ⟨_, ln, kk⟩ := b.at_ i _ t er h
  obtain ⟨j, hj, ej⟩ := List.getElem_of_mem hc
  have ec : t.kids[j]? = some c := by rw [List.getElem?_eq_getElem hj, ej]
  have en : (rs[i]'(by rw [b.len]; exact hi)).2[j]? = some ((rs[i]'(by rw [b.len]; exact hi)).2[j]'(by rw [ln]; exact hj)) := List.getElem?_eq_getElem _
  obtain ⟨h1, h2⟩ := kk j _ c en ec
  refine List.mem_of_getElem? (i := (rs[i]'(by rw [b.len]; exact hi)).2[j]'(by rw [ln]; exact hj)) ?_
  rw [List.getElem?_take, if_pos h1]
  exact h2
theorem woods_ord {m : Md} {rs : List Rn} {ts : List Tr} (b : Bld m rs ts) : ∀ i, i ≤ ts.length → Ord (woods (ts.take i))
  | 0, _ => ord_nil
  | i + 1, h => by
    have e : ts[i]? = some (ts[i]'(by omega)) := List.getElem?_eq_getElem _
    rw [take_snoc e, woods_snoc]
    exact ord_add (woods_ord b i (by omega)) fun c hc => woods_mem.mpr (bld_kids b e c hc)
section
variable {P : Program} {w : World} {K : PySem.W.Frag} {mg : Str → Option Value} {base : Heap}
def spShd : Sp := fun vs H Q _ => ∃ (R : Addr) (m : Md) (xs : List V) (rows : List Rn) (ts : List Tr), vs = [.ref R] ∧ H R = some (.lst xs) ∧ Paired (RowN H) xs rows ∧ Bld m rows ts ∧ Good m ∧ rows.length ≤ 60 ∧
  ∀ (T M Pl : Addr) (ys : List V) (H' : Hp), Same H H' → H' T = some (.tup [.ref M, .ref Pl]) → H M = none → H Pl = none → H' M = some (.lst ys) → Paired (RowN H') ys (codes (woods ts)) → H' Pl = some (.lst (nsV (ts.map fun t => (woods ts).idxOf t))) → Q (.ref T) H'
set_option maxHeartbeats 8000000 in
theorem ok_shd {f : Addr} {fd : FuncData} (F : Fun K "_law_shared" "_law_shared" sShd f fd) (mt : mg "tuple" = none) : FnOk P w K mg base CX0 1 f fd ["_law_rows"] spShd := by
  refine F.ok scShd (fun vs H Q E h => ?_) (fun cv A ou s H vs Q E hr h => ?_)
  · obtain ⟨R, m, xs, rows, ts, rfl, _⟩ := h
    rfl
  obtain ⟨R, m, xs, rows, ts, rfl, eR, pR, bd, g, l60, q⟩ := h
  have hu : (A.deeper (envOfC "_law_shared" (defScope sShd) s.heap.objs.size f cv)).units + 65 < cLine := by
    have := hr.un
    omega
  refine ⟨_, pss_cons (ps_asg (pe_tup (pa_cons (pe_lst pa_nil) (pa_cons (pe_lst pa_nil) pa_nil))) (pg_tup (by rfl) (pgs_cons (pg_name (i := 1) scShd.nd rfl (.inl rfl)) (pgs_cons (pg_name (i := 2) scShd.nd rfl (.inr rfl)) pgs_nil))))
    (pss_cons (ps_for PassesOwn.never rfl (pi_list (pv 0)) (pg_tup rfl (pgs_cons (pg_name (i := 3) scShd.nd rfl (.inl rfl)) (pgs_cons (pg_name (i := 4) scShd.nd rfl (.inl rfl)) pgs_nil)))
      (pss_cons (ps_set (i := 5) scShd.nd rfl (.inl rfl) (pe_tup (pa_cons (pv 3) (pa_cons (pe_tupleOf (by rfl) mt (pe_lc (own := [("_law_number_here", 6)]) (g := gName 6) (tt := tYes) (by rfl) scShd.nd (pi_tup (pv 4)) (blkOk_by (own := [("_law_number_here", 6)]) (N := nShd) (sc := defScope sShd) (by decide +kernel))
          (fun _ _ _ _ _ => pg_name (i := 6) scShd.nd rfl (Or.inl rfl)) (fun _ _ _ _ _ => pts_nil) (fun _ _ _ _ _ => asTE (te := tOp (rIxL K) (tVar 2) (tVar 6)) (pe_ix ix_list (pv 2) (pv 6) (fun _ _ => rfl)) rfl))) pa_nil))))
      (pss_cons (ps_if (pt_cmpR (op_notInD hu) (pv 5) (pv 1) (by rfl)) (pss_one (ps_expr (pe_bm PySem.F.plainAttrs_list PySem.F.slot_list_append PySem.F.type_list_append mt_append (pv 1) (pa_cons (pv 5) pa_nil)))) pss_nil)
      (pss_one (ps_expr (pe_bm PySem.F.plainAttrs_list PySem.F.slot_list_append PySem.F.type_list_append mt_append (pv 2) (pa_cons (pe_bm PySem.F.plainAttrs_list PySem.F.slot_list_index PySem.F.type_list_index (mt_indexD hu) (pv 1) (pa_cons (pv 5) pa_nil)) pa_nil)))))))
    (pss_one (ps_ret (pe_tup (pa_cons (pv 1) (pa_cons (pv 2) pa_nil)))))), ?_⟩
  have lt : ts.length = rows.length := bd.len.symm
  have lxs : xs.length = rows.length := Paired.length pR
  have z0 : 0 ≤ sizeLine := Nat.zero_le _
  refine seq_join (fun σ G => ∃ M Pl : Addr, σ = [some (.ref R), some (.ref M), some (.ref Pl), none, none, none, none] ∧ Same H G ∧ H M = none ∧ H Pl = none ∧ M ≠ Pl ∧ G M = some (.lst []) ∧ G Pl = some (.lst [])) ?_ fun rest => ?_
  rotate_left
  · refine ⟨z0, fun M nM => ⟨z0, fun Pl nPl => ⟨(by show 2 ≤ sizeLine; decide), fun T nT => ⟨T, _, rfl, SqT.of upd_same, rfl, _, _, rfl, _, _, rfl, rfl, ?_⟩⟩⟩⟩
    have s1 := same_new (o := .lst []) nM
    have s2 := same_new (o := .lst []) nPl
    have s3 := same_new (o := .tup [.ref M, .ref Pl]) nT
    have nPlH : H Pl = none := by
      cases e : H Pl with
      | none => rfl
      | some o => rw [s1 _ _ e] at nPl; cases nPl
    have MP : M ≠ Pl := fun e => by
      rw [← e, upd_same] at nPl
      cases nPl
    exact rest _ _ ⟨M, Pl, rfl, s1.trans (s2.trans s3), nM, nPlH, MP, (s2.trans s3) _ _ upd_same, s3 _ _ upd_same⟩
  rintro σ G1 ⟨M, Pl, rfl, s1, nM, nPl, MP, eM1, eP1⟩
  refine ⟨.ref R, rfl, R, rfl, ⟨_, SqL.of (s1 _ _ eR)⟩, for_list (K := K) (a := R) (xs := xs) (fun i σ G => ∃ (o3 o4 o5 : Option V) (ys : List V), σ = [some (.ref R), some (.ref M), some (.ref Pl), o3, o4, o5, none] ∧ Same H G ∧ G M = some (.lst ys) ∧ Paired (RowN G) ys (codes (woods (ts.take i))) ∧ G Pl = some (.lst (nsV ((ts.take i).map fun t => (woods (ts.take i)).idxOf t)))) ⟨none, none, none, [], rfl, s1, eM1, .nil, eP1⟩ (fun j σ H' _ pp => ?_) ?_ ?_⟩
  · obtain ⟨_, _, _, _, _, s2, _⟩ := pp
    exact SqL.of (s2 _ _ eR)
  · rintro i y σ G hy ⟨o3, o4, o5, ys, rfl, s2, eM, pM, eP⟩
    obtain ⟨r, er, b, q0, rfl, eb0, eq0⟩ := par_at pR hy
    have hi : i < rows.length := (List.getElem?_eq_some_iff.mp er).1
    have et : ts[i]? = some (ts[i]'(by omega)) := List.getElem?_eq_getElem _
    generalize ts[i]'(by omega) = t at et
    obtain ⟨en, ln, kk⟩ := bd.at_ i r t er et
    have okt := bd.ok t (List.mem_of_getElem? et)
    have k3 := t.kids3
    have kin : ∀ c ∈ t.kids, c ∈ woods (ts.take i) := fun c hc => woods_mem.mpr (bld_kids bd et c hc)
    have oD : Ord (woods (ts.take i)) := woods_ord bd i (by omega)
    have ndD := woods_nd (ts.take i)
    have okD : ∀ u ∈ woods (ts.take i), u.Ok m := fun u hu => bd.ok u (List.mem_of_mem_take (woods_mem.mp hu))
    have eD' : woods (ts.take (i + 1)) = add (woods (ts.take i)) t := by rw [take_snoc et, woods_snoc]
    have lys : ys.length ≤ 60 := by
      rw [Paired.length pM, codes_len]
      have : (woods (ts.take i)).length ≤ (ts.take i).length := (woods_nd _).length_le_of_subset fun u hu => woods_mem.mp hu
      rw [List.length_take] at this
      omega
    have lpl : (nsV ((ts.take i).map fun t => (woods (ts.take i)).idxOf t)).length ≤ 60 := by
      rw [nsV_len, List.length_map, List.length_take]
      omega
    have eb := s2 _ _ eb0
    have eq := s2 _ _ eq0
    generalize hDk : woods (ts.take i) = Dk at *
    refine ⟨b, _, rfl, SqT.of eb, rfl, _, _, rfl, _, _, rfl, rfl, ?_⟩
    show tSeq _ _ _ _ _
    refine seq_join (fun σ G' => ∃ T2 : Addr, σ = [some (.ref R), some (.ref M), some (.ref Pl), some (.str r.1), some (.ref q0), some (.ref T2), none] ∧ Same G G' ∧ RowN G' (.ref T2) (code Dk t)) ?_ fun rest => ?_
    rotate_left
    · refine ⟨.str r.1, rfl, .ref q0, rfl, q0, rfl, ⟨_, SqT.of eq⟩, fun D nD => lc_funT (K := K) (a := q0) (xs := nsV r.2) (ys := nsV (code Dk t).2) (fun _ => rfl) nD (SqT.of eq) (by rw [nsV_len]; omega) (by rw [nsV_len, nsV_len]; show (t.kids.map _).length = _; rw [List.length_map, ln]) (fun j x y H3 hx hy2 s3 q3 => ?_) fun H3 s3 eD => ?_⟩
      · intro kk3
        unfold nsV at hx hy2
        rw [List.getElem?_map] at hx hy2
        cases ern : r.2[j]? with
        | none => rw [ern] at hx; cases hx
        | some n =>
        rw [ern] at hx
        cases hx
        have ec : t.kids[j]? = some (t.kids[j]'(by rw [← ln]; exact (List.getElem?_eq_some_iff.mp ern).1)) := List.getElem?_eq_getElem _
        generalize t.kids[j]'(by rw [← ln]; exact (List.getElem?_eq_some_iff.mp ern).1) = c at ec
        obtain ⟨h1, h2⟩ := kk j n c ern ec
        have ecode : (code Dk t).2[j]? = some (Dk.idxOf c) := by
          show (t.kids.map fun c => Dk.idxOf c)[j]? = _
          rw [List.getElem?_map, ec]
          rfl
        rw [ecode] at hy2
        cases hy2
        refine ⟨.ref Pl, rfl, .int ((n : Nat) : Int), rfl, Pl, _, _, .int ((Dk.idxOf c : Nat) : Int), rfl, rfl, SqL.of (s3 _ _ eP), atI_nat (nsV_at ?_), kk3 H3 fun _ _ e => e⟩
        rw [List.getElem?_map, List.getElem?_take, if_pos h1, h2]
        rfl
      · refine .inl ⟨D, _, rfl, SqL.of eD, fun T1 nT1 => ⟨(by show 2 ≤ sizeLine; decide), fun T2 nT2 => ?_⟩⟩
        have s4 := same_new (o := .tup (nsV (code Dk t).2)) nT1
        have s5 := same_new (o := .tup [.str r.1, .ref T1]) nT2
        refine rest _ _ ⟨T2, rfl, s3.trans (s4.trans s5), T2, T1, rfl, ?_, s5 _ _ upd_same⟩
        rw [upd_same, ← en]
        rfl
    rintro σ G2 ⟨T2, rfl, s3, row⟩
    have eM2 := s3 _ _ eM
    have eP2 := s3 _ _ eP
    have pM2 : Paired (RowN G2) ys (codes Dk) := Paired.mapP pM fun _ _ h => RowN.keep h s3
    have nmc : nmS (code Dk t).1 = true := g.rn _ (Tr.ok_iff.mp okt).1
    have nmD := codes_nm g okD
    refine seq_join (fun σ G' => ∃ zs', σ = [some (.ref R), some (.ref M), some (.ref Pl), some (.str r.1), some (.ref q0), some (.ref T2), none] ∧ Same H G' ∧ G' M = some (.lst zs') ∧ Paired (RowN G') zs' (codes (add Dk t)) ∧ RowN G' (.ref T2) (code Dk t) ∧ G' Pl = some (.lst (nsV ((ts.take i).map fun t => Dk.idxOf t)))) ?_ fun rest => ?_
    rotate_left
    · refine ⟨.ref T2, rfl, .ref M, rfl, dRn (code Dk t), (codes Dk).map dRn, dp_rn row, .lst (SqL.of eM2) (dp_rnAll pM2), sh_rn nmc, sh_lst nmD, _, rfl, ?_⟩
      rw [any_rn]
      by_cases hm : t ∈ Dk
      · rw [decide_eq_true ((code_mem g.rd oD okD okt kin).mpr hm)]
        exact iteF (rest _ _ ⟨ys, rfl, s2.trans s3, eM2, by rw [add_in hm]; exact pM2, row, eP2⟩)
      · rw [decide_eq_false fun z => hm ((code_mem g.rd oD okD okt kin).mp z)]
        have t6 : Tk G2 (upd G2 M (.lst (ys ++ [.ref T2]))) := fun y zs' e => by
          rw [upd_ne (fun z => by rw [z, eM2] at e; cases e)]
          exact e
        refine iteT ⟨.ref M, rfl, .inl ⟨rfl, _, SqL.of eM2⟩, .ref T2, rfl, M, _, _, rfl, rfl, eM2, small1000 (by omega), rest _ _ ⟨_, rfl, same_upd (s2.trans s3) nM, upd_same, ?_, row.tk t6, by rw [upd_ne (Ne.symm MP)]; exact eP2⟩⟩
        rw [add_out hm, codes_snoc oD kin]
        exact Paired.snoc (Paired.mapP pM2 fun _ _ z => RowN.tk z t6) (row.tk t6)
    rintro σ G3 ⟨zs', rfl, s4, eM3, pM3, row3, eP3⟩
    have ht : t ∈ add Dk t := mem_add.mpr (.inr rfl)
    have okA : ∀ u ∈ add Dk t, u.Ok m := fun u hu => by
      rcases mem_add.mp hu with z | z
      · exact okD u z
      · rw [z]; exact okt
    have oA : Ord (add Dk t) := ord_add oD kin
    have ndA : (add Dk t).Nodup := add_nd ndD
    obtain ⟨E2, eE⟩ := add_pre Dk t
    have cA : code (add Dk t) t = code Dk t := by rw [eE, code_app E2 kin]
    have hidx := codes_at (idx_at ht)
    rw [cA] at hidx
    refine ⟨.ref Pl, rfl, .inl ⟨rfl, _, SqL.of eP3⟩, .ref M, rfl, .inl ⟨rfl, _, SqL.of eM3⟩, .ref T2, rfl, M, .ref T2, dRn (code Dk t), (codes (add Dk t)).map dRn, (add Dk t).idxOf t, dRn (code Dk t), rfl, rfl, .lst (SqL.of eM3) (dp_rnAll pM3), dp_rn row3, sh_lst (codes_nm g okA), sh_rn nmc, by rw [List.getElem?_map, hidx]; rfl, by rw [eqv_rn]; exact decide_eq_true rfl, fun j z' hj hz' => ?_, Pl, _, _, rfl, rfl, eP3, small1000 (by omega), _, _, _, zs', rfl, same_upd s4 nPl, by rw [upd_ne MP]; exact eM3, ?_, ?_⟩
    · rw [List.getElem?_map] at hz'
      cases ej : (codes (add Dk t))[j]? with
      | none => rw [ej] at hz'; cases hz'
      | some r =>
        rw [ej] at hz'
        cases hz'
        rw [eqv_rn]
        refine decide_eq_false fun z => ?_
        rw [z] at ej
        have := (List.getElem?_inj (l := codes (add Dk t)) (List.getElem?_eq_some_iff.mp ej).1 (codes_nd g.rd oA ndA okA)).mp (ej.trans hidx.symm)
        omega
    · rw [eD']
      exact Paired.mapP pM3 fun _ _ h => RowN.tk h (fun y zs' e => by
        rw [upd_ne (fun z => by rw [z, eP3] at e; cases e)]
        exact e)
    · rw [upd_same, eD', take_snoc et, List.map_append, nsV_app, eE, idx_app E2 (L := ts.take i) (fun c hc => by rw [← hDk]; exact woods_mem.mpr hc), ← eE]
      rfl
  · rintro σ G ⟨o3, o4, o5, ys, rfl, s2, eM, pM, eP⟩
    rw [lxs, ← lt, List.take_length] at pM eP
    refine ⟨.ref M, rfl, .ref Pl, rfl, (by show 2 ≤ sizeLine; decide), fun T nT => ?_⟩
    have s3 := same_new (o := .tup [.ref M, .ref Pl]) nT
    exact q T M Pl ys _ (s2.trans s3) upd_same nM nPl (s3 _ _ eM) (Paired.mapP pM fun _ _ h => RowN.keep h s3) (s3 _ _ eP)
end
end Ks
set_option Elab.async false
set_option linter.all false
set_option maxRecDepth 100000
set_option maxHeartbeats 4000000
namespace Ks
open PySem PySem.Spec PyProof.Rows L2 Gd Kx
abbrev sSzs : Stmt := Kx.topS 62
abbrev nSzs : List Str := ["_law_rows", "_law_found", "_law_name", "_law_numbers", "_law_below", "_law_number_here", "_law_pair"]
theorem scSzs : FnScope nSzs ["_law_rows"] (defScope sSzs) := ⟨rfl, rfl, rfl, by decide +kernel, rfl, by decide +kernel, by decide +kernel⟩
/-- a size and a depth -/
def PrI (H : Hp) (v : V) (t : Tr) : Prop := ∃ b : Addr, v = .ref b ∧ H b = some (.tup [.int ((t.size : Nat) : Int), .int ((t.dep : Nat) : Int)])
theorem PrI.tk {H H' : Hp} {v : V} {t : Tr} (h : PrI H v t) (s : Tk H H') : PrI H' v t := by
  obtain ⟨b, e, h⟩ := h
  exact ⟨b, e, s _ _ h⟩
section
variable {P : Program} {w : World} {K : PySem.W.Frag} {mg : Str → Option Value} {base : Heap}
def spSzs : Sp := fun vs H Q _ => ∃ (R : Addr) (m : Md) (xs : List V) (rows : List Rn) (ts : List Tr), vs = [.ref R] ∧ H R = some (.lst xs) ∧ Paired (RowN H) xs rows ∧ Bld m rows ts ∧ rows.length ≤ 60 ∧
  ∀ (L : Addr) (ys : List V) (H' : Hp), Same H H' → H L = none → H' L = some (.lst ys) → Paired (PrI H') ys ts → Q (.ref L) H'
set_option maxHeartbeats 8000000 in
theorem ok_szs {f : Addr} {fd : FuncData} (F : Fun K "_law_sizes" "_law_sizes" sSzs f fd) (ms : mg "sum" = none) (mx : mg "max" = none) : FnOk P w K mg base CX0 1 f fd ["_law_rows"] spSzs := by
  refine F.ok scSzs (fun vs H Q E h => ?_) (fun cv A ou s H vs Q E hr h => ?_)
  · obtain ⟨R, m, xs, rows, ts, rfl, _⟩ := h
    rfl
  obtain ⟨R, m, xs, rows, ts, rfl, eR, pR, bd, l60, q⟩ := h
  have hun := hr.units
  refine ⟨_, pss_cons (ps_set (i := 1) scSzs.nd rfl (.inr rfl) (pe_lst pa_nil))
    (pss_cons (ps_for PassesOwn.never rfl (pi_list (pv 0)) (pg_tup rfl (pgs_cons (pg_name (i := 2) scSzs.nd rfl (.inl rfl)) (pgs_cons (pg_name (i := 3) scSzs.nd rfl (.inl rfl)) pgs_nil)))
      (pss_cons (ps_setLc (i := 4) (own := [("_law_number_here", 5)]) (g := gName 5) (tt := tYes) (by rfl) scSzs.nd rfl rfl (sw_true rfl rfl rfl (by decide +kernel)) (pi_tup (pv 3)) (blkOk_by (own := [("_law_number_here", 5)]) (N := nSzs) (sc := defScope sSzs) (by decide +kernel))
          (fun _ _ _ _ _ => pg_name (i := 5) scSzs.nd rfl (Or.inl rfl)) (fun _ _ _ _ _ => pts_nil) (fun _ _ _ _ _ => asTE (te := tOp (rIxL K) (tVar 1) (tVar 5)) (pe_ix ix_list (pv 1) (pv 5) (fun _ _ => rfl)) rfl))
      (pss_one (ps_expr (pe_bm PySem.F.plainAttrs_list PySem.F.slot_list_append PySem.F.type_list_append mt_append (pv 1) (pa_cons (pe_tup (pa_cons (pe_op op_add pe_int (pe_callB (cr_sum rfl) (by rfl) ms boot_sum (pa_cons (pe_lc (own := [("_law_pair", 6)]) (g := gName 6) (tt := tYes) (by rfl) scSzs.nd (pi_list (pv 4)) (blkOk_by (own := [("_law_pair", 6)]) (N := nSzs) (sc := defScope sSzs) (by decide +kernel))
          (fun _ _ _ _ _ => pg_name (i := 6) scSzs.nd rfl (Or.inl rfl)) (fun _ _ _ _ _ => pts_nil) (fun _ _ _ _ _ => asTE (te := tOp (rIxT K) (tVar 6) (tC (.int 0))) (pe_ix ix_tup (pv 6) pe_int (fun _ _ => rfl)) rfl)) pa_nil)))
        (pa_cons (pe_op op_add pe_int (pe_callBK (call_maxD rfl (Nat.lt_of_le_of_lt (Nat.add_le_add_left (by decide : 1 ≤ 64) _) hun)) (by rfl) mx boot_max (pa_cons (pe_lc (own := [("_law_pair", 6)]) (g := gName 6) (tt := tYes) (by rfl) scSzs.nd (pi_list (pv 4)) (blkOk_by (own := [("_law_pair", 6)]) (N := nSzs) (sc := defScope sSzs) (by decide +kernel))
          (fun _ _ _ _ _ => pg_name (i := 6) scSzs.nd rfl (Or.inl rfl)) (fun _ _ _ _ _ => pts_nil) (fun _ _ _ _ _ => asTE (te := tOp (rIxT K) (tVar 6) (tC (.int 1))) (pe_ix ix_tup (pv 6) pe_int (fun _ _ => rfl)) rfl)) pa_nil) (pk_cons pe_int pk_nil))) pa_nil))) pa_nil))))))
    (pss_one (ps_ret (pv 1)))), ?_⟩
  have lt : ts.length = rows.length := bd.len.symm
  have lxs : xs.length = rows.length := Paired.length pR
  refine seq_join (fun σ G => ∃ L : Addr, σ = [some (.ref R), some (.ref L), none, none, none, none, none] ∧ Same H G ∧ H L = none ∧ G L = some (.lst [])) ?_ fun rest => ?_
  rotate_left
  · exact ⟨(by show 0 ≤ sizeLine; exact Nat.zero_le _), fun L nL => rest _ _ ⟨L, rfl, same_new nL, nL, upd_same⟩⟩
  rintro σ G1 ⟨L, rfl, s1, nL, eL1⟩
  refine ⟨.ref R, rfl, R, rfl, ⟨_, SqL.of (s1 _ _ eR)⟩, for_list (K := K) (a := R) (xs := xs) (fun i σ G => ∃ (o2 o3 o4 : Option V) (ys : List V), σ = [some (.ref R), some (.ref L), o2, o3, o4, none, none] ∧ Same H G ∧ G L = some (.lst ys) ∧ Paired (PrI G) ys (ts.take i)) ⟨none, none, none, [], rfl, s1, eL1, .nil⟩ (fun j σ H' _ pp => ?_) ?_ ?_⟩
  · obtain ⟨_, _, _, _, _, s2, _⟩ := pp
    exact SqL.of (s2 _ _ eR)
  · rintro i y σ G hy ⟨o2, o3, o4, ys, rfl, s2, eL, pL⟩
    obtain ⟨r, er, b, q0, rfl, eb0, eq0⟩ := par_at pR hy
    have hi : i < rows.length := (List.getElem?_eq_some_iff.mp er).1
    have et : ts[i]? = some (ts[i]'(by omega)) := List.getElem?_eq_getElem _
    generalize ts[i]'(by omega) = t at et
    obtain ⟨en, ln, kk⟩ := bd.at_ i r t er et
    have k3 := t.kids3
    have eb := s2 _ _ eb0
    have eq := s2 _ _ eq0
    have lys : ys.length = i := by rw [Paired.length pL, List.length_take]; omega
    refine ⟨b, _, rfl, SqT.of eb, rfl, _, _, rfl, _, _, rfl, rfl, ?_⟩
    show tSeq _ _ _ _ _
    refine seq_join (fun σ G' => ∃ (B : Addr) (bs : List V), σ = [some (.ref R), some (.ref L), some (.str r.1), some (.ref q0), some (.ref B), none, none] ∧ Same G G' ∧ G' B = some (.lst bs) ∧ Paired (PrI G') bs t.kids) ?_ fun rest => ?_
    rotate_left
    · refine ⟨.ref q0, rfl, q0, rfl, ⟨_, SqT.of eq⟩, fun D nD => lc_relTN (K := K) (a := q0) (xs := nsV r.2) (cs := t.kids) (G := fun H v c => PrI H v c) (fun _ _ _ _ h s => h.tk s.tk) (fun _ => rfl) nD (SqT.of eq) (by rw [nsV_len]; omega) (by rw [nsV_len, ln]) (fun j x c H3 hx hc s3 q3 kk3 => ?_) fun H3 bs s3 eD pB => rest _ _ ⟨D, bs, rfl, s3, eD, pB⟩⟩
      unfold nsV at hx
      rw [List.getElem?_map] at hx
      cases ern : r.2[j]? with
      | none => rw [ern] at hx; cases hx
      | some n =>
      rw [ern] at hx
      cases hx
      obtain ⟨h1, h2⟩ := kk j n c ern hc
      have et2 : (ts.take i)[n]? = some c := by rw [List.getElem?_take, if_pos h1, h2]
      have ey : ys[n]? = some (ys[n]'(by omega)) := List.getElem?_eq_getElem _
      obtain ⟨c', ec', hp⟩ := par_at pL ey
      rw [et2] at ec'
      cases ec'
      exact ⟨.ref L, rfl, .int ((n : Nat) : Int), rfl, L, _, _, _, rfl, rfl, SqL.of (s3 _ _ eL), atI_nat ey, kk3 _ H3 (fun _ _ e => e) (hp.tk (.of s3))⟩
    rintro σ G2 ⟨B, bs, rfl, s3, eB, pB⟩
    have lbs : bs.length = t.kids.length := Paired.length pB
    have eL2 := s3 _ _ eL
    have get : ∀ {G' : Hp}, Same G2 G' → ∀ (j : Nat) (x : V) (c : Tr), bs[j]? = some x → t.kids[j]? = some c → ∃ b : Addr, x = .ref b ∧ G' b = some (.tup [.int ((c.size : Nat) : Int), .int ((c.dep : Nat) : Int)]) := fun s j x c hx hc => by
      obtain ⟨c', ec', b', e1, e2⟩ := par_at pB hx
      rw [hc] at ec'
      cases ec'
      exact ⟨b', e1, s _ _ e2⟩
    refine ⟨.ref L, rfl, .inl ⟨rfl, _, SqL.of eL2⟩, .ref B, rfl, B, rfl, ⟨_, SqL.of eB⟩, fun D nD => lc_funL (K := K) (a := B) (xs := bs) (ys := (t.kids.map fun c => ((c.size : Nat) : Int)).map V.int) (fun _ => rfl) nD (SqL.of eB) (by omega) (by rw [List.length_map, List.length_map, lbs]) (fun j x y H3 hx hy3 s4 q3 kk3 => ?_) fun H3 s4 eD => ?_⟩
    · rw [List.getElem?_map, List.getElem?_map] at hy3
      cases ec : t.kids[j]? with
      | none => rw [ec] at hy3; cases hy3
      | some c =>
      rw [ec] at hy3
      cases hy3
      obtain ⟨b', rfl, e2⟩ := get s4 j x c hx ec
      exact ⟨.ref b', rfl, b', _, _, _, rfl, rfl, SqT.of e2, rfl, kk3 H3 fun _ _ e => e⟩
    refine ⟨D, _, rfl, SqL.of eD, _, _, rfl, rfl, .ref B, rfl, B, rfl, ⟨_, SqL.of (s4 _ _ eB)⟩, fun D2 nD2 => lc_funL (K := K) (a := B) (xs := bs) (ys := (t.kids.map fun c => ((c.dep : Nat) : Int)).map V.int) (fun _ => rfl) nD2 (SqL.of (s4 _ _ eB)) (by omega) (by rw [List.length_map, List.length_map, lbs]) (fun j x y H4 hx hy3 s5 q3 kk3 => ?_) fun H4 s5 eD2 => ?_⟩
    · rw [List.getElem?_map, List.getElem?_map] at hy3
      cases ec : t.kids[j]? with
      | none => rw [ec] at hy3; cases hy3
      | some c =>
      rw [ec] at hy3
      cases hy3
      obtain ⟨b', rfl, e2⟩ := get (s4.trans s5) j x c hx ec
      exact ⟨.ref b', rfl, b', _, _, _, rfl, rfl, SqT.of e2, rfl, kk3 H4 fun _ _ e => e⟩
    have fin : ∀ v : Int, v = mxI t → ∀ T (nT : H4 T = none), ∃ o2 o3 o4 : Option V, ∃ ys', [some (.ref R), some (.ref L), some (.str r.1), some (.ref q0), some (.ref B), none, none] = [some (.ref R), some (.ref L), o2, o3, o4, none, none] ∧
        Same H (upd (upd H4 T (.tup [.int (1 + (t.kids.map fun c => ((c.size : Nat) : Int)).sum), .int (1 + v)])) L (.lst (ys ++ [.ref T]))) ∧ (upd (upd H4 T (.tup [.int (1 + (t.kids.map fun c => ((c.size : Nat) : Int)).sum), .int (1 + v)])) L (.lst (ys ++ [.ref T]))) L = some (.lst ys') ∧
        Paired (PrI (upd (upd H4 T (.tup [.int (1 + (t.kids.map fun c => ((c.size : Nat) : Int)).sum), .int (1 + v)])) L (.lst (ys ++ [.ref T])))) ys' (ts.take (i + 1)) := fun v ev T nT => by
      have s6 := same_new (o := .tup [.int (1 + (t.kids.map fun c => ((c.size : Nat) : Int)).sum), .int (1 + v)]) nT
      have sA := s3.trans (s4.trans (s5.trans s6))
      have eLA := sA _ _ eL
      have tL : Tk (upd H4 T (.tup [.int (1 + (t.kids.map fun c => ((c.size : Nat) : Int)).sum), .int (1 + v)])) (upd (upd H4 T (.tup [.int (1 + (t.kids.map fun c => ((c.size : Nat) : Int)).sum), .int (1 + v)])) L (.lst (ys ++ [.ref T]))) := fun b zs e => by
        rw [upd_ne (fun h => by rw [h, eLA] at e; cases e)]
        exact e
      refine ⟨_, _, _, ys ++ [.ref T], rfl, same_upd (s2.trans sA) nL, upd_same, ?_⟩
      rw [take_snoc et]
      refine Paired.snoc (Paired.mapP pL fun _ _ h => (h.tk (.of sA)).tk tL) (PrI.tk ⟨T, rfl, ?_⟩ tL)
      rw [upd_same, size_int, ev, dep_int]
    have eL4 := (s4.trans s5) _ _ eL2
    refine ⟨D2, t.kids.map (fun c => ((c.dep : Nat) : Int)), .int 0, rfl, rfl, SqL.of eD2, fun e0 => ?_, fun e0 => ?_⟩
    · have ev : (0 : Int) = mxI t := by rw [mxI, if_pos (List.map_eq_nil_iff.mp e0)]
      refine ⟨_, _, rfl, rfl, (by show 2 ≤ sizeLine; decide), fun T nT => ?_⟩
      exact ⟨L, _, _, rfl, rfl, same_new nT _ _ eL4, by rw [lys]; exact small1000 (by omega), fin 0 ev T nT⟩
    · have ev : maxL (t.kids.map fun c => ((c.dep : Nat) : Int)) = mxI t := by rw [mxI, if_neg (fun z => e0 (by rw [z]; rfl))]
      refine ⟨_, _, rfl, rfl, (by show 2 ≤ sizeLine; decide), fun T nT => ?_⟩
      exact ⟨L, _, _, rfl, rfl, same_new nT _ _ eL4, by rw [lys]; exact small1000 (by omega), fin _ ev T nT⟩
  · rintro σ G ⟨o2, o3, o4, ys, rfl, s2, eL, pL⟩
    rw [lxs, ← lt, List.take_length] at pL
    exact ⟨.ref L, rfl, q L ys G s2 nL eL pL⟩
end
end Ks
set_option Elab.async false
set_option linter.all false
set_option maxRecDepth 100000
set_option maxHeartbeats 4000000
namespace Ks
open PySem PySem.Spec PyProof.Rows L2 Gd Kx
/-! ### the trees of one size, sorted by their keys -/
def szN (D : List Tr) (j : Nat) : Nat := ((D[j]?).map Tr.size).getD 0
theorem szN_at {D : List Tr} {j : Nat} {t : Tr} (h : D[j]? = some t) : szN D j = t.size := by
  unfold szN
  rw [h]
  rfl
def keyE (m : Md) (D : List Tr) (g : List Nat) (j : Nat) : PyData := match (g[j]?).bind fun a => (D[a]?).map fun t => kdT m D a t with
  | some d => d
  | none => .tuple [.int 0, .tuple [], .int 0]
def trE (D : List Tr) (g : List Nat) (j : Nat) : Tr := ((g[j]?).bind fun a => D[a]?).getD (.n0 (Str.empty, Str.empty, []))
def sortJ (m : Md) (D : List Tr) (g : List Nat) : List Nat := (List.range g.length).mergeSort (PySem.W.dataLe false (keyE m D g))
theorem keyE_at {m : Md} {D : List Tr} {g : List Nat} {j a : Nat} {t : Tr} (h1 : g[j]? = some a) (h2 : D[a]? = some t) : keyE m D g j = kdT m D a t := by
  unfold keyE
  rw [h1]
  show (match (D[a]?).map fun t => kdT m D a t with | some d => d | none => _) = _
  rw [h2]
  rfl
theorem trE_at {D : List Tr} {g : List Nat} {j a : Nat} {t : Tr} (h1 : g[j]? = some a) (h2 : D[a]? = some t) : trE D g j = t := by
  unfold trE
  rw [h1]
  show (D[a]?).getD _ = t
  rw [h2]
  rfl
theorem range_map {α : Type} (d : α) (l : List α) : (List.range l.length).map (fun j => (l[j]?).getD d) = l := by
  refine List.ext_getElem? fun i => ?_
  rw [List.getElem?_map]
  by_cases h : i < l.length
  · rw [List.getElem?_range h, List.getElem?_eq_getElem h]
    show some ((l[i]?).getD d) = _
    rw [List.getElem?_eq_getElem h]
    rfl
  · rw [List.getElem?_eq_none (by rw [List.length_range]; omega), List.getElem?_eq_none (by omega)]
    rfl
section
variable {m : Md} {D : List Tr} {ats : List Nat} {s : Nat}
theorem mem_lt (hp : ats.Perm (List.range D.length)) {a : Nat} (h : a ∈ ats) : a < D.length := List.mem_range.mp (hp.mem_iff.mp h)
theorem filter_trees (hp : ats.Perm (List.range D.length)) (p : Nat → Bool) : ((ats.filter fun j => p (szN D j)).map fun a => (D[a]?).getD (.n0 (Str.empty, Str.empty, []))).Perm (D.filter fun t => p t.size) := by
  refine List.Perm.trans ((hp.filter _).map _) ?_
  have e : D.filter (fun t => p t.size) = (((List.range D.length).map fun a => (D[a]?).getD (.n0 (Str.empty, Str.empty, []))).filter fun t => p t.size) := by rw [range_map]
  rw [e, List.filter_map]
  refine List.Perm.of_eq (congrArg (List.map _) (List.filter_congr fun a ha => ?_))
  have hl := List.mem_range.mp ha
  show p (szN D a) = p ((D[a]?).getD _).size
  rw [szN_at (List.getElem?_eq_getElem hl), List.getElem?_eq_getElem hl]
  rfl
theorem less_cnt (hp : ats.Perm (List.range D.length)) : (ats.filter fun j => decide (szN D j < s)).length = D.countP fun t => decide (t.size < s) := by
  have := (filter_trees (p := fun n => decide (n < s)) hp).length_eq
  rw [List.length_map] at this
  rw [this, List.countP_eq_length_filter]
abbrev grpN (D : List Tr) (ats : List Nat) (s : Nat) : List Nat := ats.filter fun j => decide (szN D j = s)
theorem grp_at (hp : ats.Perm (List.range D.length)) {j a : Nat} (h : (grpN D ats s)[j]? = some a) : ∃ t, D[a]? = some t ∧ t.size = s := by
  obtain ⟨h1, h2⟩ := List.mem_filter.mp (List.mem_of_getElem? h)
  have hl := mem_lt hp h1
  have e : D[a]? = some D[a] := List.getElem?_eq_getElem hl
  refine ⟨_, e, ?_⟩
  rw [← szN_at e]
  exact of_decide_eq_true h2
theorem sortJ_perm (g : List Nat) : (sortJ m D g).Perm (List.range g.length) := List.mergeSort_perm _ _
theorem sortJ_trees (hp : ats.Perm (List.range D.length)) : ((sortJ m D (grpN D ats s)).map (trE D (grpN D ats s))).Perm (D.filter fun t => decide (t.size = s)) := by
  refine List.Perm.trans ((sortJ_perm _).map _) ?_
  refine List.Perm.trans (List.Perm.of_eq ?_) (filter_trees (p := fun n => decide (n = s)) hp)
  have e : (grpN D ats s).map (fun a => (D[a]?).getD (.n0 (Str.empty, Str.empty, []))) = ((List.range (grpN D ats s).length).map fun j => ((grpN D ats s)[j]?).getD 0).map (fun a => (D[a]?).getD (.n0 (Str.empty, Str.empty, []))) := by rw [range_map]
  rw [e, List.map_map]
  refine List.map_congr_left fun j hj => ?_
  have hl := List.mem_range.mp hj
  unfold trE
  show _ = (D[((grpN D ats s)[j]?).getD 0]?).getD _
  rw [List.getElem?_eq_getElem hl]
  rfl
theorem sortJ_srt (ok : ∀ u ∈ D, u.Ok m) (kid : ∀ u ∈ D, ∀ c ∈ u.kids, c ∈ D) (hp : ats.Perm (List.range D.length)) : ((sortJ m D (grpN D ats s)).map (trE D (grpN D ats s))).Pairwise fun a b => tlt m b a = false := by
  rw [List.pairwise_map]
  refine List.Pairwise.imp_of_mem (fun {a b} ha hb h => ?_) (sorted_le (e := keyE m D (grpN D ats s)) (List.range (grpN D ats s).length))
  have at_ : ∀ {j : Nat}, j ∈ sortJ m D (grpN D ats s) → ∃ x t, (grpN D ats s)[j]? = some x ∧ D[x]? = some t ∧ t.size = s := fun {j} hj => by
    have hl := List.mem_range.mp ((sortJ_perm _).mem_iff.mp hj)
    obtain ⟨t, h1, h2⟩ := grp_at hp (List.getElem?_eq_getElem hl)
    exact ⟨_, t, List.getElem?_eq_getElem hl, h1, h2⟩
  obtain ⟨xa, ta, a1, a2, a3⟩ := at_ ha
  obtain ⟨xb, tb, b1, b2, b3⟩ := at_ hb
  rw [keyE_at a1 a2, keyE_at b1 b2] at h
  rw [trE_at a1 a2, trE_at b1 b2]
  by_cases e : tb = ta
  · rw [e, tlt_irr]
  · rw [← kd_lt ok kid (List.mem_of_getElem? b2) (List.mem_of_getElem? a2) (by omega) e]
    exact h
theorem rank_at (nd : D.Nodup) (ok : ∀ u ∈ D, u.Ok m) (kid : ∀ u ∈ D, ∀ c ∈ u.kids, c ∈ D) (hp : ats.Perm (List.range D.length)) {x j a : Nat} {t : Tr} (h1 : (sortJ m D (grpN D ats s))[x]? = some j) (h2 : (grpN D ats s)[j]? = some a) (h3 : D[a]? = some t) :
    rnk m D t = (ats.filter fun j => decide (szN D j < s)).length + x := by
  rw [less_cnt hp]
  refine rnk_pos nd ok (sortJ_trees hp) (sortJ_srt ok kid hp) ?_
  rw [List.getElem?_map, h1]
  exact congrArg some (trE_at h2 h3)
theorem all_hit {a : Nat} (h : a ∈ grpN D ats s) : ∃ (x j : Nat), (sortJ m D (grpN D ats s))[x]? = some j ∧ (grpN D ats s)[j]? = some a := by
  obtain ⟨j, hj, e⟩ := List.getElem_of_mem h
  have hm : j ∈ sortJ m D (grpN D ats s) := (sortJ_perm _).mem_iff.mpr (List.mem_range.mpr hj)
  obtain ⟨x, hx, e2⟩ := List.getElem_of_mem hm
  exact ⟨x, j, by rw [List.getElem?_eq_getElem hx, e2], by rw [List.getElem?_eq_getElem hj, e]⟩
end
end Ks
set_option Elab.async false
set_option linter.all false
set_option maxRecDepth 100000
/-! set(x), x a list of whole numbers -/
namespace Dd
open PySem PySem.Spec PyProof.Rows L2
/-- a new set -/
abbrev seed (w : World) : Obj := { cls := .type "set", dict := none, data := .set #[] 0 (.fresh 0 0 (!w.params.followText "set-order")) }
section
variable {prog : Program} {w : World} {A : Around} {E : Value → Shared → Prop} {s : Shared}
set_option maxHeartbeats 3200000 in
theorem set_ofI {l : Addr} {items : Array Value} {ns : List Int} {Q : Value → Shared → Prop} (hh : A.handled = none) (hl : s.heap.IsList l items) (hi : IntsAre items.toList ns) (hb : ns.length + 1 < scanBound)
    (h : ∀ (h' : Heap) (tk c : Nat), SetR w h' s.heap.objs.size (fun j => decide (j ∈ ns)) c → c ≤ ns.length → (∀ b o, b < s.heap.objs.size → s.heap.get? b = some o → h'.get? b = some o) → Q (.ref s.heap.objs.size) { s with heap := h', toks := tk }) :
    wpAny (model prog w) A (call (.type "set") [.ref l]) Q E s := by
  obtain ⟨c, tl, hmro⟩ := PySem.F.called_set.mro
  have hmade := PySem.F.called_set.made
  have hsub := PySem.F.called_set.sub
  refine wpAny_call (codeAny_of_tree ?_)
  show wpAny _ _ (callAny (.type "set") _) _ _ _
  refine wpAny_pure ⟨Code.quiet_builtin _ (by decide +kernel), codeAny_builtin PySem.F.entry_type_call ?_⟩
  rw [Around.under_plain (weight_type_call_type "set" [.ref l] []) rfl]
  have n1 := PySem.F.called_set.notType
  have n2 := PySem.F.called_set.canCreate
  have n3 := PySem.F.typeCall_set_1 (.ref l)
  repeat (any_goals (first | assumption | wp_step))
  refine codeAny_mono (code_set_led1 (.ref l) (E := E) (Q₁ := fun obj s₁ => obj = .ref s.heap.objs.size ∧ s₁ = { s with heap := s.heap.push (seed w) }) ⟨rfl, rfl⟩) fun r s₁ hr => ?_
  match r, hr with
  | .error e, hr => exact hr
  | .ok .next, hr => exact hr.elim
  | .ok .brk, hr => exact hr.elim
  | .ok .cont, hr => exact hr.elim
  | .ok (.ret obj), hr =>
  obtain ⟨rfl, rfl⟩ := hr
  have hS : (s.heap.push (seed w)).get? s.heap.objs.size = some (seed w) := Heap.get?_push_size _ rfl
  have hT : Shared.TypeIs { s with heap := s.heap.push (seed w) } (.ref s.heap.objs.size) "set" := ⟨_, hS, rfl⟩
  have i1 := PySem.F.called_set.init.lookup
  have i2 := PySem.F.called_set.init.bind (.ref s.heap.objs.size)
  repeat (any_goals (first | assumption | wp_step))
  refine codeAny_mono (codeAny_call_builtin (R := wants (fun r s₂ => r = .none ∧ ∃ h' tk c, s₂ = { s with heap := h', toks := tk } ∧ SetR w h' s.heap.objs.size (fun j => decide (j ∈ ns)) c ∧ c ≤ ns.length ∧ (∀ b o, b < s.heap.objs.size → s.heap.get? b = some o → h'.get? b = some o)) E)
    PySem.F.called_set.init.plain PySem.F.entry_set_init (check_set_init_1 hT ?_)) fun r₂ s₂ hr₂ => ?_
  · obtain ⟨ol, hol, hcl, nl, hdl⟩ := hl
    obtain ⟨ocls, odict, odata, oslots⟩ := ol
    simp only at hcl hdl
    subst hcl; subst hdl
    have hol' : (s.heap.push (seed w)).get? l = some { cls := .type "list", dict := odict, data := .seq items nl, slots := oslots } := Heap.get?_push_of_some _ hol
    have hsls := PySem.F.sub_list_set
    have hslf := PySem.F.sub_list_frozenset
    have hne : (Value.type "list" == Value.type "dict") = false := by decide
    have hl1 : (s.heap.push (seed w)).IsList l items := ⟨_, hol', rfl, nl, rfl⟩
    unfold Builtin.«set.__init__» noKeywords Builtin.Frozenset.updateFrom
    generalize hPI : pyIter = PI
    wp_walk
    subst hPI
    refine wpAny_pyIter_list hl1 ?_
    refine wpAny_bind (wpAny_runValue ?_)
    have lt : l < s.heap.objs.size := Heap.lt_size hol
    have hh3 : A.in1.in1.in1.handled = none := by simp [hh]
    have e1 : (s.heap.push (seed w)).objs.size = s.heap.objs.size + 1 := Heap.size_push _ _
    have hneI : l ≠ (s.heap.push (seed w)).objs.size := by rw [e1]; exact Nat.ne_of_lt (Nat.lt_succ_of_lt lt)
    have hSf : s.heap.objs.size ∉ [(s.heap.push (seed w)).objs.size, l] := by
      rw [e1]
      simp only [List.mem_cons, List.mem_singleton, List.not_mem_nil, or_false, not_or]
      exact ⟨Nat.ne_of_lt (Nat.lt_succ_self _), Nat.ne_of_gt lt⟩
    have hsz : items.size = ns.length := by
      have q := IntsAre.length hi
      rw [Array.length_toList] at q
      exact q
    refine set_update_ints ((Walks.list hh3 _ l hneI items).toS) s.heap.objs.size hSf ns hsz hb (fun i v hv => ?_) (items.size - 0) 0 _ (by omega) (Nat.zero_le _) ⟨⟨_, Heap.get?_push_size _ rfl, rfl, rfl⟩, (hl1.push _)⟩ ⟨0, Nat.le_refl 0, setR_new_at (Heap.get?_push_of_some _ hS)⟩ ?_
    · have lt2 : i < ns.length := by rw [← hsz]; exact (Array.getElem?_eq_some_iff.mp hv).1
      obtain ⟨tk0, e0⟩ := IntsAre.int_at hi i v (by rw [Array.getElem?_toList]; exact hv)
      exact ⟨ns[i], tk0, List.getElem?_eq_getElem lt2, by rw [e0, List.getD_eq_getElem?_getD, List.getElem?_eq_getElem lt2]; rfl⟩
    · intro s' c' hm hc' hS'
      rw [hsz] at hc'
      obtain ⟨h', g', d', tk', os'⟩ := s'
      obtain rfl : g' = s.gens := hm.gens
      obtain rfl : d' = s.drawn := hm.drawn
      obtain rfl : os' = s.os := hm.os
      show wpAny _ _ _ _ _ _
      refine wpAny_pure ?_
      show wpAny _ _ (ret Value.none) _ _ _
      refine wpAny_pure ⟨rfl, h', tk', c', rfl, hS', hc', fun b o hb e => hm.heap b o ?_ (Heap.get?_push_of_some _ (Heap.get?_push_of_some _ e))⟩
      simp only [List.mem_cons, List.mem_singleton, List.not_mem_nil, or_false, not_or]
      exact ⟨Nat.ne_of_lt hb, by rw [e1]; exact Nat.ne_of_lt (Nat.lt_succ_of_lt hb)⟩
  · match r₂, hr₂ with
    | .error e, hr₂ => exact hr₂
    | .ok .next, hr₂ => exact hr₂.elim
    | .ok .brk, hr₂ => exact hr₂.elim
    | .ok .cont, hr₂ => exact hr₂.elim
    | .ok (.ret r), hr₂ =>
      obtain ⟨rfl, h', tk, c0, rfl, hS', hc', hk'⟩ := hr₂
      repeat (any_goals (first | assumption | wp_step))
      exact h _ _ _ hS' hc' hk'
end
end Dd
namespace Gd
open PySem PySem.Spec PyProof.Rows L2
section
variable {X : Cx}
def rSetI (K : PySem.W.Frag) (w : World) : List V → Hp → VK → Prop := fun xs H Q => ∃ (l : Addr) (ns : List Int), xs = [.ref l] ∧ SqL K H l (ns.map V.int) ∧ ns.length ≤ 1000 ∧ ∀ a c, H a = none → c ≤ ns.length → Q (.ref a) (upd H a (SetO w a (fun j => decide (j ∈ ns)) c))
theorem cr_setI (hc : X.calm = true) : CallR X (.type "set") (rSetI X.K X.w) := by
  intro pins s σ H xs us Q I r h
  obtain ⟨l, ns, rfl, hq, h1, q⟩ := h
  have e1 := Vals.ref1 r
  subst e1
  obtain ⟨its, rv, pl, hz⟩ := I.list hq
  have hi : IntsAre its.toArray.toList ns := by simpa using rv.ints
  refine Dd.set_ofI (ns := ns) (I.ok.hd hc) pl.isList hi (by unfold scanBound; omega) fun h' tk c hS hcn hk => ?_
  exact ⟨.ref _, upd H s.heap.objs.size (SetO X.w s.heap.objs.size (fun j => decide (j ∈ ns)) c), I.laid (t' := tk) (fun b u e => hk b u (Heap.lt_size e) e) (Nat.le_refl _) (setO_new hS), rfl, q _ c (I.hok.fresh (Nat.le_refl _)) hcn⟩
end
end Gd
set_option Elab.async false
set_option linter.all false
set_option maxRecDepth 100000
set_option maxHeartbeats 4000000
namespace Ks
open PySem PySem.Spec PyProof.Rows L2 Gd Kx
/-! ### comprehensions: a pair as the target; new objects over a range; sorted pairs of numbers -/
theorem pair_tg {K : PySem.W.Frag} {j1 j2 : Nat} {b : Addr} {x y : V} {σ : L2.St} {H : Hp} {Q : L2.St → Hp → Prop} (h : SqT K H b [x, y]) (q : Q ((σ.set j1 (some x)).set j2 (some y)) H) : gTup K 2 (gCons (gName j1) (gCons (gName j2) gNil)) (.ref b) σ H Q :=
  ⟨b, _, rfl, h, rfl, _, _, rfl, _, _, rfl, rfl, q⟩
theorem picked_map {α : Type} (l : List α) (p : α → Bool) (f : α → V) : picked (l.map fun x => (p x, f x)) = (l.filter p).map f := by
  unfold picked
  induction l with
  | nil => rfl
  | cons x l ih =>
    rw [List.map_cons, List.filter_cons, List.filter_cons]
    cases e : p x
    · simpa using ih
    · simpa using ih
section
variable {K : PySem.W.Frag} {a : Addr} {xs : List V} {zs : List (Bool × V)} {g : TG} {tt : TT} {te : TE} {vs : List Nat} {σ : L2.St} {H1 : Hp} {D : Addr} {Qd : Hp → Prop} {τ : Nat → L2.St}
theorem lc_selGL (hg : ∀ (i : Nat) (x : V) (H : Hp), xs[i]? = some x → Same H1 H → ∀ k : L2.St → Hp → Prop, k (τ i) H → g x (wipe σ vs) H k) (hw : ∀ i, i < xs.length → wipe (τ i) vs = wipe σ vs)
    (nD : H1 D = none) (hx : SqL K H1 a xs) (hz : xs.length ≤ 1000) (hl : zs.length = xs.length)
    (hs : ∀ (i : Nat) (x : V) (z : Bool × V) (H : Hp), xs[i]? = some x → zs[i]? = some z → Same H1 H → ∀ q : Bool → Hp → Prop, (∀ H3, Same H H3 → q z.1 H3) → tt (τ i) H q)
    (he : ∀ (i : Nat) (x : V) (z : Bool × V) (H : Hp), xs[i]? = some x → zs[i]? = some z → z.1 = true → Same H1 H → ∀ q : VK, (∀ H4, Same H H4 → q z.2 H4) → te (τ i) H q)
    (hd : ∀ H, Same H1 H → H D = some (.lst (picked zs)) → Qd H) : ∃ W : Nat → Nat → Hp → Prop, (∃ m, W 0 m (upd H1 D (.lst []))) ∧ ∀ i m H, W i m H →
      ((Itl K a).stop i H ∧ Qd H) ∨ ((Itl K a).go i H ∧ ∃ Nx : Hp → Prop, (∀ H', Nx H' → ∃ m', m' < m ∧ W (i + 1) m' H') ∧ ∀ v H', (Itl K a).yld i H v H' → g v (wipe σ vs) H' fun τ H2 => wipe τ vs = wipe σ vs ∧ tt τ H2 fun b H3 =>
        if b = true then te τ H3 fun y H4 => ∃ acc, H4 D = some (.lst acc) ∧ acc.length < sizeLine ∧ Nx (upd H4 D (.lst (acc ++ [y]))) else Nx H3) := by
  refine lc_list (fun i H => i ≤ xs.length ∧ Same H1 H ∧ H D = some (.lst (picked (zs.take i)))) ⟨Nat.zero_le _, same_new nD, upd_same⟩ (fun i H _ p => SqL.ext hx p.2.1) (fun i x H hxi p => ?_) fun H p => hd H p.2.1 (by have := p.2.2; rw [← hl, List.take_length] at this; exact this)
  obtain ⟨hi, s, eD⟩ := p
  have hlt : i < xs.length := (List.getElem?_eq_some_iff.mp hxi).1
  obtain ⟨z, hzi⟩ : ∃ z, zs[i]? = some z := ⟨_, List.getElem?_eq_getElem (by omega)⟩
  have pt := picked_take hzi
  refine hg i x H hxi s _ ⟨hw i hlt, hs i x z H hxi hzi s _ fun H3 s3 => ?_⟩
  cases hb : z.1 with
  | true =>
    rw [hb] at pt
    refine iteT (he i x z H3 hxi hzi hb (s.trans s3) _ fun H4 s4 => ⟨_, s4 _ _ (s3 _ _ eD), ?_, hlt, fun b o e2 => ?_, ?_⟩)
    · have := picked_len (zs.take i)
      rw [List.length_take] at this
      exact small1000 (by omega)
    · rw [upd_ne (ne_of_none e2 nD)]
      exact s4 _ _ (s3 _ _ (s _ _ e2))
    · rw [upd_same, pt]
      rfl
  | false =>
    rw [hb] at pt
    refine iteF ⟨hlt, s.trans s3, ?_⟩
    rw [pt]
    show H3 D = some (.lst (picked (zs.take i) ++ []))
    rw [List.append_nil]
    exact s3 _ _ eD
end
section
variable {n j : Nat} {te : TE} {vs : List Nat} {σ : L2.St} {H1 : Hp} {D : Addr} {Qd : Hp → Prop} {α : Type} {cs : List α} {G : Hp → V → α → Prop}
theorem lc_relRN (kp : ∀ H H' v c, G H v c → Nl H H' → G H' v c) (hw : ∀ v, wipe ((wipe σ vs).set j (some v)) vs = wipe σ vs) (nD : H1 D = none) (hz : n ≤ 1000) (hl : cs.length = n)
    (he : ∀ (i : Nat) (c : α) (H : Hp), cs[i]? = some c → Same H1 H → ∀ q : VK, (∀ z H4, Same H H4 → G H4 z c → q z H4) → te ((wipe σ vs).set j (some (.int (0 + (i : Int))))) H q)
    (hd : ∀ H zs, Same H1 H → H D = some (.lst zs) → Paired (G H) zs cs → Qd H) : ∃ W : Nat → Nat → Hp → Prop, (∃ m, W 0 m (upd H1 D (.lst []))) ∧ ∀ i m H, W i m H →
      ((Itr 0 n).stop i H ∧ Qd H) ∨ ((Itr 0 n).go i H ∧ ∃ Nx : Hp → Prop, (∀ H', Nx H' → ∃ m', m' < m ∧ W (i + 1) m' H') ∧ ∀ v H', (Itr 0 n).yld i H v H' → gName j v (wipe σ vs) H' fun τ H2 => wipe τ vs = wipe σ vs ∧ tYes τ H2 fun b H3 =>
        if b = true then te τ H3 fun y H4 => ∃ acc, H4 D = some (.lst acc) ∧ acc.length < sizeLine ∧ Nx (upd H4 D (.lst (acc ++ [y]))) else Nx H3) := by
  refine lc_rangeY (fun i H => i ≤ n ∧ Same H1 H ∧ ∃ zs, H D = some (.lst zs) ∧ Paired (G H) zs (cs.take i)) hw ⟨Nat.zero_le _, same_new nD, [], upd_same, .nil⟩ (fun i H hi p => ?_) fun H p => ?_
  · obtain ⟨_, s, zs, eD, pz⟩ := p
    have ec : cs[i]? = some (cs[i]'(by omega)) := List.getElem?_eq_getElem _
    refine he i _ H ec s _ fun z H4 s4 g => ?_
    have lz : zs.length = i := by rw [Paired.length pz, List.length_take]; omega
    have t0 : Nl H4 (upd H4 D (.lst (zs ++ [z]))) := Nl.upd (s4 _ _ eD)
    refine ⟨zs, s4 _ _ eD, by rw [lz]; exact small1000 (by omega), hi, same_upd (s.trans s4) nD, zs ++ [z], upd_same, ?_⟩
    rw [List.take_succ, ec]
    exact Paired.snoc (Paired.mapP pz fun v c g0 => kp _ _ _ _ (kp _ _ _ _ g0 (.of s4)) t0) (kp _ _ _ _ g t0)
  · obtain ⟨_, s, zs, eD, pz⟩ := p
    rw [← hl, List.take_length] at pz
    exact hd H zs s eD pz
end
/-- a pair of numbers -/
def PrN (H : Hp) (v : V) (c : Nat × Nat) : Prop := ∃ b : Addr, v = .ref b ∧ H b = some (.tup [.int ((c.1 : Nat) : Int), .int ((c.2 : Nat) : Int)])
theorem PrN.nl {H H' : Hp} {v : V} {c : Nat × Nat} (h : PrN H v c) (s : Nl H H') : PrN H' v c := by
  obtain ⟨b, e, h⟩ := h
  exact ⟨b, e, s _ _ (fun zs z => by cases z) h⟩
/-- a tree's key by ranks, as it lies -/
def KyI (m : Md) (D : List Tr) (H : Hp) (v : V) (a : Nat) : Prop := ∃ (t : Tr) (b q : Addr), D[a]? = some t ∧ v = .ref b ∧ H b = some (.tup [.int ((rpl m t.row : Nat) : Int), .ref q, .int ((a : Nat) : Int)]) ∧ H q = some (.tup (t.kids.map fun c => V.int ((rnk m D c : Nat) : Int)))
theorem KyI.nl {m : Md} {D : List Tr} {H H' : Hp} {v : V} {a : Nat} (h : KyI m D H v a) (s : Nl H H') : KyI m D H' v a := by
  obtain ⟨t, b, q, e1, e2, h1, h2⟩ := h
  exact ⟨t, b, q, e1, e2, s _ _ (fun zs z => by cases z) h1, s _ _ (fun zs z => by cases z) h2⟩
theorem KyI.dp {K : PySem.W.Frag} {m : Md} {D : List Tr} {H : Hp} {v : V} {a : Nat} {t : Tr} (h : KyI m D H v a) (e : D[a]? = some t) : Dp K H v (kdT m D a t) := by
  obtain ⟨t', b, q, e1, rfl, h1, h2⟩ := h
  rw [e] at e1
  cases e1
  refine .tup (SqT.of h1) (.cons (.int _) (.cons (.tup (SqT.of h2) ?_) (.cons (.int _) .nil)))
  induction t.kids with
  | nil => exact .nil
  | cons c l ih => exact .cons (.int _) ih
theorem kd_depth (m : Md) (D : List Tr) (a : Nat) (t : Tr) : (kdT m D a t).depth ≤ 60 := by
  have h1 : ∀ d ∈ t.kids.map (fun c => PyData.int ((rnk m D c : Nat) : Int)), d.depth ≤ 1 := fun d hd => by
    obtain ⟨k, _, rfl⟩ := List.mem_map.mp hd
    rw [PyData.depth]
    omega
  have h2 := dep_all (n := 1) h1
  have h3 : ∀ d ∈ [PyData.int ((rpl m t.row : Nat) : Int), .tuple (t.kids.map fun c => PyData.int ((rnk m D c : Nat) : Int)), .int ((a : Nat) : Int)], d.depth ≤ 3 := by
    intro d hd
    simp only [List.mem_cons, List.not_mem_nil, or_false] at hd
    rcases hd with rfl | rfl | rfl
    · rw [PyData.depth]; omega
    · rw [PyData.depth]; omega
    · rw [PyData.depth]; omega
  have h4 := dep_all (n := 3) h3
  unfold kdT
  rw [PyData.depth]
  omega
theorem srt_take {ns : List Int} (h : ns.Pairwise (· < ·)) {i : Nat} {x y : Int} (hx : ns[i]? = some x) (hy : y ∈ ns) (hl : y < x) : y ∈ ns.take i := by
  obtain ⟨j, hj, e⟩ := List.getElem_of_mem hy
  obtain ⟨hi, ex⟩ := List.getElem?_eq_some_iff.mp hx
  rcases Nat.lt_or_ge j i with hji | hji
  · refine List.mem_of_getElem? (i := j) ?_
    rw [List.getElem?_take, if_pos hji, List.getElem?_eq_getElem hj, e]
  · rcases Nat.eq_or_lt_of_le hji with z | z
    · subst z
      rw [e] at ex
      omega
    · have := List.pairwise_iff_getElem.mp h i j hi hj z
      omega
end Ks
set_option Elab.async false
set_option linter.all false
set_option maxRecDepth 100000
set_option maxHeartbeats 4000000
namespace Ks
open PySem PySem.Spec PyProof.Rows L2 Gd Kx
/-! ### a tree with another one put in -/
def setK (t : Tr) : V → Tr → Tr
  | .int n, c => Tr.mk t.row (t.kids.set n.toNat c)
  | _, _ => t
def putT : Tr → List V → Tr → Tr
  | _, [], c => c
  | t, v :: r, c => match stepT t v with
    | some s => setK t v (putT s r c)
    | none => t
theorem setK_row (t : Tr) (v : V) (c : Tr) : (setK t v c).row = t.row := by
  cases v with
  | int n => exact Tr.mk_row ..
  | _ => rfl
theorem setK_kids (t : Tr) (k : Nat) (c : Tr) : (setK t (.int ((k : Nat) : Int)) c).kids = t.kids.set k c := by
  show (Tr.mk t.row (t.kids.set ((k : Nat) : Int).toNat c)).kids = _
  rw [Tr.mk_kids _ (by rw [List.length_set]; exact t.kids3)]
  rfl
theorem walk_cons {t u : Tr} {v : V} {r : List V} (h : walk t (v :: r) = some u) : ∃ s, stepT t v = some s ∧ walk s r = some u := Option.bind_eq_some_iff.mp h
theorem walk_cut {u : Tr} : ∀ {xs : List V} {t : Tr}, walk t xs = some u → ∀ i, i ≤ xs.length → ∃ s, walk t (xs.take i) = some s ∧ walk s (xs.drop i) = some u
  | _, t, h, 0, _ => ⟨t, rfl, h⟩
  | [], _, _, i + 1, hi => absurd hi (by simp)
  | v :: r, t, h, i + 1, hi => by
    obtain ⟨s, e, h'⟩ := walk_cons h
    obtain ⟨s', e1, e2⟩ := walk_cut h' i (by simpa using hi)
    refine ⟨s', ?_, e2⟩
    show (stepT t v).bind (fun c => walk c (r.take i)) = _
    rw [e]
    exact e1
theorem walk_snoc {v : V} : ∀ {xs : List V} {t s : Tr}, walk t xs = some s → walk t (xs ++ [v]) = stepT s v
  | [], t, s, h => by
    cases h
    show (stepT t v).bind (fun c => some c) = _
    cases stepT t v <;> rfl
  | x :: r, t, s, h => by
    obtain ⟨s', e, h'⟩ := walk_cons h
    show (stepT t x).bind (fun c => walk c (r ++ [v])) = _
    rw [e]
    exact walk_snoc h'
theorem ixN_k {n j : Nat} (hj : j < n) : ixN n ((j : Nat) : Int) = some j := by
  unfold ixN
  rw [if_pos (by omega), if_pos (by omega)]
  simp
theorem drop_at {α : Type} {xs : List α} {i : Nat} {v : α} (h : xs[i]? = some v) : xs.drop i = v :: xs.drop (i + 1) := by
  have hi := (List.getElem?_eq_some_iff.mp h).1
  rw [List.drop_eq_getElem_cons hi]
  congr 1
  exact (List.getElem?_eq_some_iff.mp h).2
/-- the trees down the path; and those made upwards -/
structure Dwn (t : Tr) (xs : List V) (c : Tr) (U N : Nat → Tr) : Prop where
  u0 : U 0 = t
  n0 : N 0 = putT t xs c
  nn : N xs.length = c
  st : ∀ i v, xs[i]? = some v → ∃ k : Nat, v = .int ((k : Nat) : Int) ∧ (U i).kids[k]? = some (U (i + 1)) ∧ N i = setK (U i) v (N (i + 1))
theorem dwn {t u c : Tr} {xs : List V} (h : walk t xs = some u) : ∃ U N, Dwn t xs c U N ∧ U xs.length = u := by
  refine ⟨fun i => (walk t (xs.take i)).getD t, fun i => putT ((walk t (xs.take i)).getD t) (xs.drop i) c, ⟨rfl, rfl, ?_, fun i v hv => ?_⟩, ?_⟩
  · show putT _ (xs.drop xs.length) c = c
    rw [List.drop_length]
    rfl
  · have hi := (List.getElem?_eq_some_iff.mp hv).1
    obtain ⟨s, e1, e2⟩ := walk_cut h i (by omega)
    rw [drop_at hv] at e2
    obtain ⟨s', e3, e4⟩ := walk_cons e2
    have e5 : walk t (xs.take (i + 1)) = some s' := by
      rw [List.take_add_one, hv, Option.toList_some, walk_snoc e1]
      exact e3
    obtain ⟨k, rfl, ek⟩ := step_int e3
    refine ⟨k, rfl, ?_, ?_⟩
    · show ((walk t (xs.take i)).getD t).kids[k]? = some ((walk t (xs.take (i + 1))).getD t)
      rw [e1, e5]
      exact ek
    · show putT ((walk t (xs.take i)).getD t) (xs.drop i) c = setK ((walk t (xs.take i)).getD t) _ (putT ((walk t (xs.take (i + 1))).getD t) (xs.drop (i + 1)) c)
      rw [e1, e5, drop_at hv]
      show (match stepT s (.int ((k : Nat) : Int)) with | some s => setK _ _ _ | none => _) = _
      rw [e3]
      rfl
  · show (walk t (xs.take xs.length)).getD t = u
    rw [List.take_length, h]
    rfl
theorem sub_kid {t c : Tr} (h : c ∈ t.kids) : (sub c).length ≤ (sub t).length := by
  refine (sub_nd c).length_le_of_subset fun y hy => ?_
  rcases mem_addAll.mp hy with z | z
  · cases z
  · refine mem_addAll.mpr (.inr ?_)
    rw [Tr.post_eq]
    exact List.mem_append_left _ (List.mem_flatMap.mpr ⟨c, h, z⟩)
theorem setK_ok {m : Md} {t s c : Tr} {k : Nat} (ok : t.Ok m) (hk : t.kids[k]? = some s) (okc : c.Ok m) (e : c.row.2.1 = s.row.2.1) : (setK t (.int ((k : Nat) : Int)) c).Ok m := by
  obtain ⟨h1, h2, h3⟩ := Tr.ok_iff.mp ok
  refine Tr.ok_iff.mpr ⟨by rw [setK_row]; exact h1, ?_, fun d hd => ?_⟩
  · rw [setK_row, setK_kids, h2]
    refine List.ext_getElem? fun j => ?_
    rw [List.getElem?_map, List.getElem?_map, List.getElem?_set]
    split
    · rename_i ej
      subst ej
      have hl := (List.getElem?_eq_some_iff.mp hk).1
      rw [hk, if_pos hl]
      exact congrArg some e.symm
    · rfl
  · rw [setK_kids] at hd
    rcases List.mem_or_eq_of_mem_set hd with z | z
    · exact h3 d z
    · rw [z]
      exact okc
theorem Dwn.oks {m : Md} {t c u : Tr} {xs : List V} {U N : Nat → Tr} (D : Dwn t xs c U N) (eu : U xs.length = u) (ok : t.Ok m) (okc : c.Ok m) (e : c.row.2.1 = u.row.2.1) : (∀ i, i ≤ xs.length → (U i).Ok m) ∧ ∀ i, i ≤ xs.length → (N i).Ok m ∧ (N i).row.2.1 = (U i).row.2.1 := by
  have hU : ∀ i, i ≤ xs.length → (U i).Ok m := fun i => by
    induction i with
    | zero => intro _; rw [D.u0]; exact ok
    | succ i ih =>
      intro hi
      obtain ⟨k, _, ek, _⟩ := D.st i _ (List.getElem?_eq_getElem (by omega))
      exact (Tr.ok_iff.mp (ih (by omega))).2.2 _ (List.mem_of_getElem? ek)
  refine ⟨hU, ?_⟩
  have hN : ∀ j, j ≤ xs.length → (N (xs.length - j)).Ok m ∧ (N (xs.length - j)).row.2.1 = (U (xs.length - j)).row.2.1 := fun j => by
    induction j with
    | zero => intro _; rw [Nat.sub_zero, D.nn, eu]; exact ⟨okc, e⟩
    | succ j ih =>
      intro hj
      have e1 : xs.length - j = xs.length - (j + 1) + 1 := by omega
      have := ih (by omega)
      rw [e1] at this
      obtain ⟨k, ev, ek, en⟩ := D.st (xs.length - (j + 1)) _ (List.getElem?_eq_getElem (by omega))
      rw [en, ev]
      exact ⟨setK_ok (hU _ (by omega)) ek this.1 this.2, by rw [setK_row]⟩
  intro i hi
  have := hN (xs.length - i) (by omega)
  rwa [show xs.length - (xs.length - i) = i by omega] at this
theorem Dwn.len {t c : Tr} {xs : List V} {U N : Nat → Tr} (D : Dwn t xs c U N) : ∀ i, i ≤ xs.length → (sub (N i)).length ≤ (sub (putT t xs c)).length := fun i => by
  induction i with
  | zero => intro _; rw [D.n0]; exact Nat.le_refl _
  | succ i ih =>
    intro hi
    obtain ⟨k, ev, ek, en⟩ := D.st i _ (List.getElem?_eq_getElem (by omega))
    refine Nat.le_trans (sub_kid (t := N i) ?_) (ih (by omega))
    rw [en, ev, setK_kids]
    exact List.mem_set (List.getElem?_eq_some_iff.mp ek).1 _
theorem putT_ok {m : Md} {t u c : Tr} {xs : List V} (h : walk t xs = some u) (ok : t.Ok m) (okc : c.Ok m) (e : c.row.2.1 = u.row.2.1) : (putT t xs c).Ok m ∧ (putT t xs c).row.2.1 = t.row.2.1 := by
  obtain ⟨U, N, D, eu⟩ := dwn (c := c) h
  have := (D.oks eu ok okc e).2 0 (Nat.zero_le _)
  rwa [D.n0, D.u0] at this
section
variable {P : Program} {w : World} {K : PySem.W.Frag} {mg : Str → Option Value} {base : Heap} {CT CS IP IT : Addr}
def spItoV (K : PySem.W.Frag) (CT CS : Addr) : Sp := fun vs H Q E => spIto CT CS vs H Q E ∨ ∃ (x : V) (s : Addr) (k : Str), vs = [x, .ref s, .str k] ∧ NotT K CT H x ∧ Q (.bl false) H
theorem ok_itoV {f : Addr} {fd : FuncData} (F : Fun K "is_tree_of" "is_tree_of" sIto f fd) (mi : mg "isinstance" = none) (S : Sch P w K mg base CS) (T : Tch P w K mg base CT) : FnOk P w K mg base CX0 3 f fd ["value", "schema", "kind"] (spItoV K CT CS) := by
  refine F.ok scIto (fun vs H Q E h => ?_) (fun cv A ou s H vs Q E hr h => ?_)
  · rcases h with ⟨b, s, k, m, t, rfl, _⟩ | ⟨x, s, k, rfl, _⟩ <;> rfl
  obtain ⟨fe, de, De, Fe, be⟩ := S.eq
  obtain ⟨ps, fs, ds, Ps, Fs, bs⟩ := T.gs
  have hr1 : Room 1 (A.deeper (envOfC "is_tree_of" (defScope sIto) s.heap.objs.size f cv)) := hr.mono (by decide)
  refine ⟨_, pss_one (ps_ret (pe_and (pe_callB call_isi (by rfl) mi boot_isinstance (pa_cons (pv 0) (pa_cons (pe_glob (v := .ref CT) (by rfl) T.gl rfl) pa_nil)))
    (pe_and (pe_cmpR op_eq (pe_fld (pv 0) rfl) (pv 2) (nomark _)) (pe_one (pe_cmpR (op_eqO De Fe hr1 be pass0) (pe_prop (pv 0) T.cl.cls Ps Fs hr bs .nil pass0 rfl) (pv 1) (nomark _)))))), ?_⟩
  rcases h with ⟨b, a, k, m, t, rfl, ht, hs, g, q⟩ | ⟨x, a, k, rfl, ⟨ty, tx, ek⟩, q⟩
  · have ty := ht.ty T.cl T.ci
    cases ht with
    | @mk _ dx R s' F' _ _ e h2 h3 h4 h5 h6 =>
    refine ⟨.ref b, rfl, .ref b, .ref CT, _, .ref CT, true, rfl, .own CT, .base ty, kit_self CT, _, rfl, iteT ?_⟩
    refine ⟨.ref b, rfl, b, CT, dx, _, _, rfl, e, T.cl.cls, T.cl.nk, trF_k, .str k, rfl, rfl, _, rfl, ?_⟩
    rw [show decide (V.str t.row.2.1 = V.str k) = decide (t.row.2.1 = k) by rw [Bool.eq_iff_iff]; simp]
    cases hk : decide (t.row.2.1 = k) with
    | false =>
      rw [hk] at q
      exact iteF q
    | true =>
      rw [hk] at q
      obtain ⟨d1, f1, e1⟩ := h2.ins
      obtain ⟨d2, f2, e2⟩ := hs.ins
      refine iteT ⟨.ref b, rfl, b, dx, _, rfl, e, b, dx, _, .ref s', rfl, e, trF_s, .ref a, rfl, s', d1, f1, rfl, e1, .inl ⟨a, d2, f2, rfl, e2⟩, s', .ref a, m, rfl, h2, g, .inl ⟨a, m, rfl, hs, g, _, rfl, ?_⟩⟩
      rw [decide_eq_true rfl, decide_eq_true rfl]
      exact q
  · exact ⟨x, rfl, x, .ref CT, ty, _, false, rfl, .own CT, tx, ek, _, rfl, iteF q⟩
end
end Ks
set_option Elab.async false
set_option linter.all false
set_option maxRecDepth 100000
set_option maxHeartbeats 4000000
namespace Ks
open PySem PySem.Spec PyProof.Rows L2 Gd Kx
/-! ### put -/
abbrev nPut : List Str := ["self", "path", "other", "old", "above", "tree", "number", "new", "fields"]
theorem scPut : FnScope nPut ["self", "path", "other"] (defScope (cT 8)) := ⟨rfl, rfl, rfl, by decide +kernel, rfl, by decide +kernel, by decide +kernel⟩
section
variable {P : Program} {w : World} {K : PySem.W.Frag} {mg : Str → Option Value} {base : Heap} {CT CS IP IT : Addr}
/-- a tree put in at a path -/
def spPut (K : PySem.W.Frag) (CT CS IP IT : Addr) : Sp := fun vs H Q E => ∃ (a : Addr) (m : Md) (t : Tr) (x y : V), vs = [.ref a, x, y] ∧ TrAt CT CS m H a t ∧ Good m ∧ t.Ok m ∧
  (((∃ ty, TyX K H x ty ∧ PySem.W.kitOne K ty (.type "tuple") = some false) ∧ ∀ d H', Same H H' → H' d = some (.xd [("value", x)]) → E (.ref IP) (some d) H') ∨
   (∃ (L : Addr) (xs : List V), x = .ref L ∧ H L = some (.tup xs) ∧ (∀ v ∈ xs, Pv H v) ∧ (walk t xs = none → ∀ d H', Same H H' → H' d = some (.xd [("value", x)]) → E (.ref IP) (some d) H') ∧
     ∀ u, walk t xs = some u →
      (NotT K CT H y ∧ (∀ H', Same H H' → NotT K CT H' y) ∧ ∀ d H', Same H H' → H' d = some (.xd [("value", y)]) → E (.ref IT) (some d) H') ∨
      (∃ (b : Addr) (c : Tr), y = .ref b ∧ TrAt CT CS m H b c ∧ c.Ok m ∧ (c.row.2.1 ≠ u.row.2.1 → ∀ d H', Same H H' → H' d = some (.xd [("value", y)]) → E (.ref IT) (some d) H') ∧
        (c.row.2.1 = u.row.2.1 → xs.length < sizeLine ∧ (sub (putT t xs c)).length ≤ 200 ∧ ∀ r H', Same H H' → TrAt CT CS m H' r (putT t xs c) → Q (.ref r) H'))))
set_option maxHeartbeats 16000000 in
theorem ok_put {f fa fi fn : Addr} {fd fda fdi : FuncData} (F : Fun K "put" "Tree.put" (cT 8) f fd) (T : TS0 mg) (mrev : mg "reversed" = none) (mlist : mg "list" = none) (C : Tcs P w K mg base CT CS)
    (O : One P w K mg base "InvalidTree" "value" IT) (ty : PySem.W.typeIn K (.ref IT) = some (.type "type"))
    (Mt : Mk K CT fn) (FI : FnR P w K mg base CX0 5 fn (spMk CT CS))
    (GA : FnOk P w K mg base (CX P w) 4 fa fda ["tree", "path"] (spTat K CT CS IP)) (ka : PySem.W.keepIn K (.ref fa) = true) (bA : Binds K fda ["tree", "path"] []) (gA : mg "_tree_at" = some (.ref fa))
    (GI : FnOk P w K mg base CX0 3 fi fdi ["value", "schema", "kind"] (spItoV K CT CS)) (ki : PySem.W.keepIn K (.ref fi) = true) (bI : Binds K fdi ["value", "schema", "kind"] []) (gI : mg "is_tree_of" = some (.ref fi)) :
    FnOk P w K mg base (CX P w) 7 f fd ["self", "path", "other"] (spPut K CT CS IP IT) := by
  refine F.okX scPut (fun vs H Q E h => ?_) (fun cv A ou s H vs Q E hr h => ?_)
  · obtain ⟨a, m, t, x, y, rfl, _⟩ := h
    rfl
  obtain ⟨a, m, t, x, y, rfl, ht, g, ok, h⟩ := h
  obtain ⟨⟨Zc, Ic, gTr, _, _, ⟨pF, fF, dF, PF, FF, bFF⟩, _, _⟩, _, _, _, _, _, _, _⟩ := C
  have hr2 : Room 2 (A.deeper (envOfC "Tree.put" (defScope (cT 8)) s.heap.objs.size f cv)) := hr.mono (by decide)
  have hr3 : Room 3 (A.deeper (envOfC "Tree.put" (defScope (cT 8)) s.heap.objs.size f cv)) := hr.mono (by decide)
  have hr4 : Room 4 (A.deeper (envOfC "Tree.put" (defScope (cT 8)) s.heap.objs.size f cv)) := hr.mono (by decide)
  refine ⟨_, pss_cons (ps_set (i := 3) scPut.nd rfl (.inl rfl) (pe_call GA hr4 (by rfl) gA ka bA .nil (passes_call (takes_of rfl rfl rfl rfl) (fun _ _ _ _ h => h)) (pa_cons (pv 0) (pa_cons (pv 1) pa_nil))))
    (pss_cons (ps_if (pt_not (pt_val (pe_call GI hr3 (by rfl) gI ki bI .nil pass0 (pa_cons (pv 2) (pa_cons (pe_fld (pv 0) rfl) (pa_cons (pe_fld (pv 3) rfl) pa_nil)))))) (pss_one (ps_raise rfl (takes_of rfl rfl rfl rfl) (pmk_one O ty hr2 (by rfl) (pv 2)))) pss_nil)
    (pss_cons (ps_set (i := 4) scPut.nd rfl (.inl rfl) (pe_lst pa_nil))
    (pss_cons (ps_set (i := 5) scPut.nd rfl (.inl rfl) (pv 0))
    (pss_cons (ps_for PassesOwn.leaving rfl (pi_tup (pv 1)) (pg_name (i := 6) scPut.nd rfl (.inl rfl))
      (pss_cons (ps_expr (pe_bm PySem.F.plainAttrs_list PySem.F.slot_list_append PySem.F.type_list_append mt_append (pv 4) (pa_cons (pe_tup (pa_cons (pv 5) (pa_cons (pv 6) pa_nil))) pa_nil)))
      (pss_one (ps_set (i := 5) scPut.nd rfl (.inl rfl) (pe_ix ix_tup (pe_prop (pv 5) Zc.cls PF FF hr2 bFF .nil pass0 rfl) (pv 6) (fun _ _ => rfl))))))
    (pss_cons (ps_set (i := 7) scPut.nd rfl (.inl rfl) (pv 2))
    (pss_cons (ps_for PassesOwn.leaving rfl (pi_reversed (by rfl) mrev (pa_cons (pe_callTy call_list_of (by rfl) mlist boot_list (pa_cons (pv 4) pa_nil)) pa_nil)) (pg_tup rfl (pgs_cons (pg_name (i := 5) scPut.nd rfl (.inl rfl)) (pgs_cons (pg_name (i := 6) scPut.nd rfl (.inl rfl)) pgs_nil)))
      (pss_cons (ps_set (i := 8) scPut.nd rfl (.inl rfl) (pe_callTy call_list_of (by rfl) mlist boot_list (pa_cons (pe_prop (pv 5) Zc.cls PF FF hr2 bFF .nil pass0 rfl) pa_nil)))
      (pss_cons (ps_asg (pv 7) (pg_sub (pv 8) (pv 6) set_list))
      (pss_one (ps_set (i := 7) scPut.nd rfl (.inl rfl) (pe_makeVS (pe_glob (v := .ref CT) (by rfl) gTr rfl) Mt FI hr pass0 (pa_cons (pe_fld (pv 0) rfl) (pa_cons (pe_fld (pv 5) rfl) (StX.pa_star (pv 8) pa_nil)))))))))
    (pss_one (ps_ret (pv 7))))))))), ?_⟩
  rcases h with ⟨te, q⟩ | ⟨L, xs, rfl, eL, pvs, q0, q1⟩
  · exact ⟨.ref a, rfl, x, rfl, a, m, t, x, rfl, ht, .inl ⟨te, fun d H' s e => q d H' s e⟩⟩
  refine ⟨.ref a, rfl, .ref L, rfl, a, m, t, .ref L, rfl, ht, .inr ⟨L, xs, rfl, eL, pvs, fun n d H' s e => q0 n d H' s e, fun u eu b H1 s1 hb => ?_⟩⟩
  cases id ht with
  | @mk _ dx R0 sA FA _ bs e0 hs0 hR1 hF1 lb kb =>
  have e := s1 _ _ e0
  have hs1 := hs0.keep s1
  cases id hb with
  | @mk _ dxb Rb sb Fb _ bsb eb hsb _ _ _ _ =>
  rcases q1 u eu with ⟨_, nt, qe⟩ | ⟨b2, c, rfl, hc, okc, qn, qy⟩
  · exact ⟨y, rfl, .ref a, rfl, a, CT, dx, _, _, rfl, e, Zc.cls, Zc.ns, trF_s, .ref b, rfl, b, CT, dxb, _, _, rfl, eb, Zc.cls, Zc.nk, trF_k, .inr ⟨y, sA, u.row.2.1, rfl, nt _ s1, ⟨_, rfl, iteT ⟨y, rfl, fun d H' s n e2 => qe d H' (s1.trans s) e2⟩⟩⟩⟩
  refine ⟨.ref b2, rfl, .ref a, rfl, a, CT, dx, _, _, rfl, e, Zc.cls, Zc.ns, trF_s, .ref b, rfl, b, CT, dxb, _, _, rfl, eb, Zc.cls, Zc.nk, trF_k, .inl ⟨b2, sA, u.row.2.1, m, c, rfl, hc.keep s1, hs1, g, ?_⟩⟩
  by_cases hk : c.row.2.1 = u.row.2.1
  rotate_left
  · rw [decide_eq_false hk]
    exact ⟨_, rfl, iteT ⟨.ref b2, rfl, fun d H' s n e2 => qn hk d H' (s1.trans s) e2⟩⟩
  rw [decide_eq_true hk]
  obtain ⟨lx, l2, qy⟩ := qy hk
  obtain ⟨U, N, D, eu'⟩ := dwn (c := c) eu
  obtain ⟨okU, okN⟩ := D.oks eu' ok okc hk
  refine ⟨_, rfl, iteF ⟨(by show 0 ≤ sizeLine; exact Nat.zero_le _), fun M nM => ?_⟩⟩
  have sM := s1.trans (same_new (o := .lst []) nM)
  have nMH : H M = none := by
    cases z : H M with
    | none => rfl
    | some o => rw [s1 _ _ z] at nM; cases nM
  refine ⟨.ref a, rfl, .ref L, rfl, L, rfl, ⟨_, SqT.of (sM _ _ eL)⟩, for_tup (K := K) (a := L) (xs := xs) (fun i σ H' => ∃ (a' : Addr) (o6 : Option V) (bs : List Addr), σ = [some (.ref a), some (.ref L), some (.ref b2), some (.ref b), some (.ref M), some (.ref a'), o6, none, none] ∧ Same H H' ∧ H' M = some (.lst (bs.map V.ref)) ∧ bs.length = i ∧
      TrAt CT CS m H' a' (U i) ∧ ∀ (j : Nat) (p : Addr) (v : V), bs[j]? = some p → xs[j]? = some v → ∃ a'' : Addr, H' p = some (.tup [.ref a'', v]) ∧ TrAt CT CS m H' a'' (U j))
    ⟨a, none, [], rfl, sM, upd_same, rfl, D.u0.symm ▸ ht.keep sM, fun j p v ej _ => by simp at ej⟩ (fun i σ H' _ p => ?_) ?_ ?_⟩
  · obtain ⟨_, _, _, _, s2, _⟩ := p
    exact SqT.of (s2 _ _ eL)
  · rintro i v σ H2 hv ⟨a', o6, bs2, rfl, s2, eM, lbs, ht2, hp⟩
    obtain ⟨k, rfl, ek, en⟩ := D.st i v hv
    have hi := (List.getElem?_eq_some_iff.mp hv).1
    cases id ht2 with
    | @mk _ dx2 R2 sA2 FA2 _ cs2 e2 hs2 hR2 hF2 lb2 kb2 =>
    have lk := (List.getElem?_eq_some_iff.mp ek).1
    have ec : cs2[k]? = some (cs2[k]'(by omega)) := List.getElem?_eq_getElem _
    refine ⟨.ref M, rfl, .inl ⟨rfl, _, SqL.of eM⟩, .ref a', rfl, .int ((k : Nat) : Int), rfl, (by show 2 ≤ sizeLine; decide), fun T3 nT => ?_⟩
    have sT := same_new (o := .tup [.ref a', .int ((k : Nat) : Int)]) nT
    have eM3 := sT _ _ eM
    have n4 : Nl (upd H2 T3 (.tup [.ref a', .int ((k : Nat) : Int)])) (upd (upd H2 T3 (.tup [.ref a', .int ((k : Nat) : Int)])) M (.lst (bs2.map V.ref ++ [.ref T3]))) := Nl.upd eM3
    have MT : M ≠ T3 := ne_of_none eM nT
    have z4 : ∀ {x : Addr} {o : HO}, H2 x = some o → x ≠ M → (upd (upd H2 T3 (.tup [.ref a', .int ((k : Nat) : Int)])) M (.lst (bs2.map V.ref ++ [.ref T3]))) x = some o := fun h n => by
      rw [upd_ne n]
      exact sT _ _ h
    have na : ∀ {x : Addr} {ys : List V}, H2 x = some (.tup ys) → x ≠ M := fun h z => by rw [z, eM] at h; cases h
    have ni : ∀ {x C d : Addr} {fs : List (Str × V)}, H2 x = some (.ins C d fs) → x ≠ M := fun h z => by rw [z, eM] at h; cases h
    refine ⟨M, _, _, rfl, rfl, eM3, by rw [List.length_map, lbs]; omega, ?_⟩
    refine ⟨.ref a', rfl, a', dx2, _, rfl, z4 e2 (ni e2), a', dx2, _, _, rfl, z4 e2 (ni e2), trF_F, .int ((k : Nat) : Int), rfl, FA2, _, _, _, rfl, rfl, SqT.of (z4 hF2 (na hF2)), atI_nat (by rw [List.getElem?_map, ec]; rfl), _, _, bs2 ++ [T3], rfl, same_upd (s2.trans sT) nMH, by rw [upd_same, List.map_append]; rfl, by rw [List.length_append, lbs]; rfl, ((kb2 k _ _ ec ek).keep sT).nl n4, fun j p v ej ev => ?_⟩
    by_cases hj : j < i
    · rw [List.getElem?_append_left (by omega)] at ej
      obtain ⟨a'', h1, h2⟩ := hp j p v ej ev
      exact ⟨a'', z4 h1 (na h1), (h2.keep sT).nl n4⟩
    · have hj2 : j = i := by
        have := (List.getElem?_eq_some_iff.mp ej).1
        rw [List.length_append, List.length_singleton] at this
        omega
      subst hj2
      rw [List.getElem?_append_right (by omega), lbs, Nat.sub_self] at ej
      cases ej
      rw [hv] at ev
      cases ev
      exact ⟨a', by rw [upd_ne (Ne.symm MT)]; exact upd_same, (ht2.keep sT).nl n4⟩
  · rintro σ H2 ⟨a', o6, bs2, rfl, s2, eM, lbs, ht2, hp⟩
    refine ⟨.ref b2, rfl, .ref M, rfl, M, _, rfl, .inl (SqL.of eM), fun l nl => ?_⟩
    have s3 := same_new (o := .lst (bs2.map V.ref)) nl
    have lm : (bs2.map V.ref).length = xs.length := by rw [List.length_map, lbs]
    refine ⟨l, _, rfl, SqL.of upd_same, for_it (walk_rev (K := K) (a := l) (xs := bs2.map V.ref)) (fun i σ H' => ∃ (r : Addr) (o5 o6 o8 : Option V), σ = [some (.ref a), some (.ref L), some (.ref b2), some (.ref b), some (.ref M), o5, o6, some (.ref r), o8] ∧ Same (upd H2 l (.lst (bs2.map V.ref))) H' ∧ TrAt CT CS m H' r (N (xs.length - i)))
      ⟨b2, _, _, _, rfl, fun _ _ e => e, by rw [Nat.sub_zero, D.nn]; exact (hc.keep s2).keep s3⟩ (fun i σ H' _ p => ?_) ?_ ?_⟩
    · obtain ⟨_, _, _, _, _, s4, _⟩ := p
      exact SqL.of (s4 _ _ upd_same)
    · rintro i v σ H4 H4' hi ⟨r, o5, o6, o8, rfl, s4, hr4⟩ ⟨rfl, hv⟩
      rw [lm] at hv hi
      have hj : xs.length - 1 - i < xs.length := by omega
      have ej : bs2[xs.length - 1 - i]? = some (bs2[xs.length - 1 - i]'(by omega)) := List.getElem?_eq_getElem _
      rw [List.getElem?_map, ej] at hv
      cases hv
      obtain ⟨k, ev, ek, en⟩ := D.st (xs.length - 1 - i) _ (List.getElem?_eq_getElem hj)
      obtain ⟨a2, ep, ht3⟩ := hp _ _ _ ej (List.getElem?_eq_getElem hj)
      rw [ev] at ep en
      rw [show xs.length - i = xs.length - 1 - i + 1 by omega] at hr4
      have s24 := s3.trans s4
      have ht4 := ht3.keep s24
      cases id ht4 with
      | @mk _ dx2 R2 sA2 FA2 _ cs2 e2 hs2 hR2 hF2 lb2 kb2 =>
      have lk := (List.getElem?_eq_some_iff.mp ek).1
      refine ⟨_, _, rfl, SqT.of (s24 _ _ ep), rfl, _, _, rfl, _, _, rfl, rfl, ?_⟩
      refine ⟨.ref a2, rfl, a2, dx2, _, rfl, e2, a2, dx2, _, _, rfl, e2, trF_F, FA2, _, rfl, .inr (SqT.of hF2), fun l5 n5 => ?_⟩
      refine ⟨.ref r, rfl, .ref l5, rfl, .int ((k : Nat) : Int), rfl, l5, _, _, k, rfl, rfl, upd_same, ixN_k (by rw [List.length_map]; omega), ?_⟩
      have s5 : Same H4' (upd (upd H4' l5 (.lst (cs2.map V.ref))) l5 (.lst ((cs2.map V.ref).set k (.ref r)))) := same_upd (same_new n5) n5
      have s05 := (s2.trans (s3.trans s4)).trans s5
      refine ⟨rfl, .ref a, rfl, a, CT, dx, _, _, rfl, s05 _ _ e0, Zc.cls, Zc.ns, trF_s, .ref a2, rfl, a2, CT, dx2, _, _, rfl, s5 _ _ e2, Zc.cls, Zc.nn, trF_n, .ref l5, rfl, l5, _, rfl, .inr (SqL.of upd_same), fun y dy ny nd nn => ?_⟩
      have kd : Kids CT CS m (upd (upd H4' l5 (.lst (cs2.map V.ref))) l5 (.lst ((cs2.map V.ref).set k (.ref r)))) (cs2.set k r) (N (xs.length - 1 - i)).kids := by
        rw [en, setK_kids]
        refine ⟨by rw [List.length_set, List.length_set, lb2], fun j p q ep eq => ?_⟩
        rw [List.getElem?_set] at ep eq
        split at ep
        · rename_i ej2
          subst ej2
          rw [if_pos (by omega)] at ep
          rw [if_pos rfl, if_pos lk] at eq
          cases ep
          cases eq
          exact hr4.keep s5
        · rename_i ej2
          rw [if_neg ej2] at eq
          exact (kb2 j p q ep eq).keep s5
      rw [List.append_nil, ← List.map_set, show (U (xs.length - 1 - i)).row.1 = (N (xs.length - 1 - i)).row.1 by rw [en, setK_row]]
      rw [← List.map_set] at kd s5 s05 ny nd
      have sb := mk_baseT (C := CT) ny nd
      exact ⟨y, dy, sA, m, N (xs.length - 1 - i), cs2.set k r, rfl, upd_same, (hs0.keep s05).keep sb, g, (okN _ (by omega)).1, kd.keep sb, Nat.le_trans (D.len _ (by omega)) l2, fun H6 bt ht6 => ⟨rfl, y, _, _, _, rfl, s4.trans (s5.trans (mk_sameT ny nd bt)), by rw [show xs.length - (i + 1) = xs.length - 1 - i by omega]; exact ht6⟩⟩
    · rintro σ H4 ⟨r, o5, o6, o8, rfl, s4, hr4⟩
      rw [lm, Nat.sub_self, D.n0] at hr4
      exact ⟨.ref r, rfl, qy r H4 (s2.trans (s3.trans s4)) hr4⟩
end
end Ks
set_option Elab.async false
set_option linter.all false
set_option maxRecDepth 100000
set_option maxHeartbeats 4000000
namespace Ks
open PySem PySem.Spec PyProof.Rows L2 Gd Kx
abbrev sRks : Stmt := Kx.topS 63
abbrev nRks : List Str := ["_law_names", "_law_made", "_law_sizes_here", "_law_spots", "_law_ranks_here", "_law_size", "_law_group", "_law_keys", "_law_lesser", "_law_turn", "_law_pair", "_law_at", "_law_row", "_law_many", "_law_number_here"]
theorem scRks : FnScope nRks ["_law_names", "_law_made"] (defScope sRks) := ⟨rfl, rfl, rfl, by decide +kernel, rfl, by decide +kernel, by decide +kernel⟩
abbrev nmsL (m : Md) : List V := m.rs.map fun r => V.str r.1
section
variable {P : Program} {w : World} {K : PySem.W.Frag} {mg : Str → Option Value} {base : Heap}
def spRks : Sp := fun vs H Q _ => ∃ (N M : Addr) (m : Md) (D : List Tr) (xs : List V), vs = [.ref N, .ref M] ∧ H N = some (.lst (nmsL m)) ∧ H M = some (.lst xs) ∧ Paired (RowN H) xs (codes D) ∧ Good m ∧ (∀ u ∈ D, u.Ok m) ∧ Ord D ∧ D.Nodup ∧ 1 ≤ D.length ∧ D.length ≤ 60 ∧
  ∀ (R : Addr) (H' : Hp), Same H H' → H R = none → H' R = some (.lst (nsV (D.map fun t => rnk m D t))) → Q (.ref R) H'
set_option maxHeartbeats 16000000 in
theorem ok_rks {f fz : Addr} {fd dz : FuncData} (F : Fun K "_law_ranks" "_law_ranks" sRks f fd) (mr : mg "range" = none) (mt : mg "tuple" = none) (ml : mg "len" = none) (mst : mg "set" = none) (msd : mg "sorted" = none)
    (GS : FnOk P w K mg base CX0 1 fz dz ["_law_rows"] spSzs) (kS : PySem.W.keepIn K (.ref fz) = true) (bS : Binds K dz ["_law_rows"] []) (gS : mg "_law_sizes" = some (.ref fz)) : FnOk P w K mg base CX0 2 f fd ["_law_names", "_law_made"] spRks := by
  refine F.ok scRks (fun vs H Q E h => ?_) (fun cv A ou s H vs Q E hr h => ?_)
  · obtain ⟨N, M, m, D, xs, rfl, _⟩ := h
    rfl
  obtain ⟨N, M, m, D, xs, rfl, eN, eM, pM, g, okD, oD, ndD, l1, l60, q⟩ := h
  have hu : (A.deeper (envOfC "_law_ranks" (defScope sRks) s.heap.objs.size f cv)).units + 64 < cLine := by
    have := hr.un
    omega
  refine ⟨_, (pss_cons (ps_set (i := 2) scRks.nd rfl (.inr rfl) (pe_lc (own := [("_law_pair", 10)]) (g := gName 10) (tt := tYes) (by rfl) scRks.nd (pi_list (pe_call GS hr (by rfl) gS kS bS .nil pass0 (pa_cons (pv 1) pa_nil))) (blkOk_by (own := [("_law_pair", 10)]) (N := nRks) (sc := (defScope sRks)) (by decide +kernel))
        (fun _ _ _ _ _ => pg_name (i := 10) scRks.nd rfl (Or.inl rfl)) (fun _ _ _ _ _ => pts_nil) (fun _ _ _ _ _ => asTE (te := tOp (rIxT K) (tVar 10) (tC (.int 0))) (pe_ix ix_tup (pv 10) pe_int (fun _ _ => rfl)) rfl)))
    (pss_cons (ps_asg (pe_tup (pa_cons (pe_callB (cr_sortedDt hu) (by rfl) msd boot_sorted (pa_cons (pe_lc (own := [("_law_at", 11)]) (g := gName 11) (tt := tYes) (by rfl) scRks.nd (pi_range1 (by rfl) mr (pa_cons (pe_callB call_len_seq (by rfl) ml PySem.boot_len (pa_cons (pv 1) pa_nil)) pa_nil)) (blkOk_by (own := [("_law_at", 11)]) (N := nRks) (sc := (defScope sRks)) (by decide +kernel))
        (fun _ _ _ _ _ => pg_name (i := 11) scRks.nd rfl (Or.inl rfl)) (fun _ _ _ _ _ => pts_nil) (fun _ _ _ _ _ => asTE (te := tTup (tCons (tOp (rIxL K) (tVar 2) (tVar 11)) (tCons (tVar 11) tNil))) (pe_tup (pa_cons (pe_ix ix_list (pv 2) (pv 11) (fun _ _ => rfl)) (pa_cons (pv 11) pa_nil))) rfl)) pa_nil)) (pa_cons (pe_lc (own := [("_law_row", 12)]) (g := gName 12) (tt := tYes) (by rfl) scRks.nd (pi_list (pv 1)) (blkOk_by (own := [("_law_row", 12)]) (N := nRks) (sc := (defScope sRks)) (by decide +kernel))
        (fun _ _ _ _ _ => pg_name (i := 12) scRks.nd rfl (Or.inl rfl)) (fun _ _ _ _ _ => pts_nil) (fun _ _ _ _ _ => pe_int)) pa_nil))) (pg_tup (by rfl) (pgs_cons (pg_name (i := 3) scRks.nd rfl (.inl rfl)) (pgs_cons (pg_name (i := 4) scRks.nd rfl (.inr rfl)) pgs_nil))))
    (pss_cons (ps_for PassesOwn.never rfl (pi_list (pe_callB (cr_sortedSet (by rfl)) (by rfl) msd boot_sorted (pa_cons (pe_callTy (cr_setI (by rfl)) (by rfl) mst boot_set (pa_cons (pv 2) pa_nil)) pa_nil))) (pg_name (i := 5) scRks.nd rfl (.inr rfl))
    (pss_cons (ps_setLc (i := 6) (own := [("_law_many", 13), ("_law_at", 11)]) (g := (gTup K 2 (gCons (gName 13) (gCons (gName 11) gNil)))) (tt := (tTest (tOp rEq (tVar 13) (tVar 5)))) (by rfl) scRks.nd rfl rfl (sw_true rfl rfl rfl (by decide +kernel)) (pi_list (pv 3)) (blkOk_by (own := [("_law_many", 13), ("_law_at", 11)]) (N := nRks) (sc := (defScope sRks)) (by decide +kernel))
        (fun _ _ _ _ _ => pg_tup (by rfl) (pgs_cons (pg_name (i := 13) scRks.nd rfl (Or.inl rfl)) (pgs_cons (pg_name (i := 11) scRks.nd rfl (Or.inl rfl)) pgs_nil))) (fun _ _ _ _ _ => asTT (pts_one (pt_cmpR op_eq (pv 13) (pv 5) (nomark _))) rfl) (fun _ _ _ _ _ => pv 11))
    (pss_cons (ps_setLc (i := 7) (own := [("_law_at", 11)]) (g := gName 11) (tt := tYes) (by rfl) scRks.nd rfl rfl (sw_true rfl rfl rfl (by decide +kernel)) (pi_list (pv 6)) (blkOk_by (own := [("_law_at", 11)]) (N := nRks) (sc := (defScope sRks)) (by decide +kernel))
        (fun _ _ _ _ _ => pg_name (i := 11) scRks.nd rfl (Or.inl rfl)) (fun _ _ _ _ _ => pts_nil) (fun _ _ _ _ _ => asTE (te := tTup (tCons (tBM K "list" (rIndex K) (tVar 0) (tCons (tOp (rIxT K) (tOp (rIxL K) (tVar 1) (tVar 11)) (tC (.int 0))) tNil)) (tCons (tThen (tLc (iTup K (tOp (rIxT K) (tOp (rIxL K) (tVar 1) (tVar 11)) (tC (.int 1)))) (gName 14) tYes (tOp (rIxL K) (tVar 4) (tVar 14)) [14]) (kTup K)) (tCons (tVar 11) tNil)))) (pe_tup (pa_cons (pe_bm PySem.F.plainAttrs_list PySem.F.slot_list_index PySem.F.type_list_index mt_index (pv 0) (pa_cons (pe_ix ix_tup (pe_ix ix_list (pv 1) (pv 11) (fun _ _ => rfl)) pe_int (fun _ _ => rfl)) pa_nil)) (pa_cons (pe_tupleOf (by rfl) mt (pe_lc (own := [("_law_number_here", 14)]) (g := gName 14) (tt := tYes) (by rfl) scRks.nd (pi_tup (pe_ix ix_tup (pe_ix ix_list (pv 1) (pv 11) (fun _ _ => rfl)) pe_int (fun _ _ => rfl))) (blkOk_by (own := [("_law_number_here", 14)]) (N := nRks) (sc := { kind := .function, names := [(".0", .local), ("_law_at", .local), ("tuple", .globalImplicit), ("_law_made", .cell), ("_law_names", .cell), ("_law_ranks_here", .cell)], isGenerator := false, isCoroutine := false }) (by decide +kernel))
        (fun _ _ _ _ _ => pg_name (i := 14) scRks.nd rfl (Or.inl rfl)) (fun _ _ _ _ _ => pts_nil) (fun _ _ _ _ _ => asTE (te := tOp (rIxL K) (tVar 4) (tVar 14)) (pe_ix ix_list (pv 4) (pv 14) (fun _ _ => rfl)) rfl))) (pa_cons (pv 11) pa_nil)))) rfl))
    (pss_cons (ps_set (i := 8) scRks.nd rfl (.inl rfl) (pe_callB call_len_seq (by rfl) ml PySem.boot_len (pa_cons (pe_lc (own := [("_law_many", 13), ("_law_at", 11)]) (g := (gTup K 2 (gCons (gName 13) (gCons (gName 11) gNil)))) (tt := (tTest (tOp (rI0 fun i j => .bl (decide (i < j))) (tVar 13) (tVar 5)))) (by rfl) scRks.nd (pi_list (pv 3)) (blkOk_by (own := [("_law_many", 13), ("_law_at", 11)]) (N := nRks) (sc := (defScope sRks)) (by decide +kernel))
        (fun _ _ _ _ _ => pg_tup (by rfl) (pgs_cons (pg_name (i := 13) scRks.nd rfl (Or.inl rfl)) (pgs_cons (pg_name (i := 11) scRks.nd rfl (Or.inl rfl)) pgs_nil))) (fun _ _ _ _ _ => asTT (pts_one (pt_cmpR op_lt (pv 13) (pv 5) (nomark _))) rfl) (fun _ _ _ _ _ => pv 11)) pa_nil)))
    (pss_cons (ps_set (i := 7) scRks.nd rfl (.inl rfl) (pe_callB (cr_sortedDt hu) (by rfl) msd boot_sorted (pa_cons (pv 7) pa_nil)))
    (pss_one (ps_for PassesOwn.never rfl (pi_range1 (by rfl) mr (pa_cons (pe_callB call_len_seq (by rfl) ml PySem.boot_len (pa_cons (pv 7) pa_nil)) pa_nil)) (pg_name (i := 9) scRks.nd rfl (.inl rfl)) (pss_one (ps_asg (pe_op op_add (pv 8) (pv 9)) (pg_sub (pv 4) (pe_ix ix_tup (pe_ix ix_list (pv 7) (pv 9) (fun _ _ => rfl)) pe_int (fun _ _ => rfl)) set_list))))))))))
    (pss_one (ps_ret (pv 4)))))), ?_⟩
  have bd := bld_codes oD okD
  have lxs : xs.length = D.length := by rw [Paired.length pM, codes_len]
  have kid : ∀ u ∈ D, ∀ c ∈ u.kids, c ∈ D := fun u hu c hc => oD.mem hu hc
  have z0 : 0 ≤ sizeLine := Nat.zero_le _
  have rowAt : ∀ {a : Nat} {t : Tr}, D[a]? = some t → ∃ b q0 : Addr, xs[a]? = some (.ref b) ∧ H b = some (.tup [.str (code D t).1, .ref q0]) ∧ H q0 = some (.tup (nsV (code D t).2)) := fun {a t} e => by
    have hl := (List.getElem?_eq_some_iff.mp e).1
    have ex : xs[a]? = some (xs[a]'(by omega)) := List.getElem?_eq_getElem _
    obtain ⟨r, er, b, q0, e1, h1, h2⟩ := par_at pM ex
    rw [codes_at e] at er
    cases er
    exact ⟨b, q0, by rw [ex, e1], h1, h2⟩
  -- the sizes
  refine seq_join (fun σ G => ∃ S : Addr, σ = [some (.ref N), some (.ref M), some (.ref S), none, none, none, none, none, none, none, none, none, none, none, none] ∧ Same H G ∧ G S = some (.lst ((D.map fun t => ((t.size : Nat) : Int)).map V.int))) ?_ fun rest => ?_
  rotate_left
  · refine ⟨.ref M, rfl, M, m, xs, codes D, D, rfl, eM, pM, bd, by rw [codes_len]; omega, fun L ys H' s1 _ eL pL => ⟨L, rfl, ⟨_, SqL.of eL⟩, fun Dd nD => lc_funL (K := K) (a := L) (xs := ys) (ys := (D.map fun t => ((t.size : Nat) : Int)).map V.int) (fun _ => rfl) nD (SqL.of eL) (by rw [Paired.length pL]; omega) (by rw [List.length_map, List.length_map, Paired.length pL]) (fun j x y H3 hx hy s3 q3 kk => ?_) fun H3 s3 eD => rest _ _ ⟨Dd, rfl, s1.trans s3, eD⟩⟩⟩
    obtain ⟨t, et, b, rfl, hb⟩ := par_at pL hx
    rw [List.getElem?_map, List.getElem?_map, et] at hy
    cases hy
    exact ⟨.ref b, rfl, b, _, _, _, rfl, rfl, SqT.of (s3 _ _ hb), rfl, kk H3 fun _ _ e => e⟩
  rintro σ G1 ⟨S, rfl, s1, eS⟩
  -- the spots, the ranks
  refine seq_join (fun σ G => ∃ (A R : Addr) (ats : List Nat) (v : Nat → V), σ = [some (.ref N), some (.ref M), some (.ref S), some (.ref A), some (.ref R), none, none, none, none, none, none, none, none, none, none] ∧ Same H G ∧ H R = none ∧ A ≠ R ∧ G S = some (.lst ((D.map fun t => ((t.size : Nat) : Int)).map V.int)) ∧ G A = some (.lst (ats.map v)) ∧ ats.Perm (List.range D.length) ∧ (∀ j, j < D.length → PrN G (v j) (szN D j, j)) ∧ G R = some (.lst (List.replicate D.length (.int 0)))) ?_ fun rest => ?_
  rotate_left
  · refine ⟨.ref M, rfl, M, xs, rfl, .inl (SqL.of (s1 _ _ eM)), _, rfl, by omega, by omega, fun Dd nD => lc_relRN (cs := (List.range D.length).map fun j => (szN D j, j)) (G := PrN) (fun _ _ _ _ h s => h.nl s) (fun _ => rfl) nD (by omega) (by rw [List.length_map, List.length_range]; omega) (fun j c H3 hc s3 q3 kk => ?_) fun H3 zs s3 eD pz => ?_⟩
    · rw [List.getElem?_map] at hc
      cases er : (List.range D.length)[j]? with
      | none => rw [er] at hc; cases hc
      | some j' =>
      rw [er] at hc
      cases hc
      have hjl : j < D.length := by have := (List.getElem?_eq_some_iff.mp er).1; rwa [List.length_range] at this
      rw [List.getElem?_range hjl] at er
      cases er
      have et : D[j]? = some D[j] := List.getElem?_eq_getElem hjl
      refine ⟨.ref S, rfl, .int (0 + (j : Int)), rfl, S, _, _, .int ((szN D j : Nat) : Int), rfl, rfl, SqL.of (s3 _ _ eS), at_of (j := j) (by omega) ?_, .int (0 + (j : Int)), rfl, (by show 2 ≤ sizeLine; decide), fun T nT => kk _ _ (same_new nT) ⟨T, rfl, ?_⟩⟩
      · rw [List.getElem?_map, List.getElem?_map, et, szN_at et]
        rfl
      · rw [upd_same, Int.zero_add]
    have lz : zs.length = D.length := by rw [Paired.length pz, List.length_map, List.length_range]
    have pr : ∀ j, j < D.length → PrN H3 ((zs[j]?).getD .non) (szN D j, j) := fun j hj => by
      have ez : zs[j]? = some (zs[j]'(by omega)) := List.getElem?_eq_getElem _
      obtain ⟨c, ec, h⟩ := par_at pz ez
      rw [List.getElem?_map, List.getElem?_range hj] at ec
      cases ec
      rw [ez]
      exact h
    refine ⟨Dd, List.range D.length, fun j => (zs[j]?).getD .non, fun j => .tuple [.int ((szN D j : Nat) : Int), .int ((j : Nat) : Int)], rfl, by rw [← lz, range_map]; exact SqL.of eD, fun b hb => ?_, fun d hd d' hd' => ?_, .inl fun d hd => ?_, fun b hb => ?_, fun A nA => ?_⟩
    · obtain ⟨x, e1, h1⟩ := pr b (List.mem_range.mp hb)
      show Dp K H3 ((zs[b]?).getD .non) _
      rw [e1]
      exact .tup (SqT.of h1) (.cons (.int _) (.cons (.int _) .nil))
    · obtain ⟨a, _, rfl⟩ := List.mem_map.mp hd
      obtain ⟨b, _, rfl⟩ := List.mem_map.mp hd'
      rfl
    · obtain ⟨a, _, rfl⟩ := List.mem_map.mp hd
      exact ⟨_, _, rfl⟩
    · have h3 : ∀ d ∈ [PyData.int ((szN D b : Nat) : Int), .int ((b : Nat) : Int)], d.depth ≤ 1 := by
        intro d hd
        simp only [List.mem_cons, List.not_mem_nil, or_false] at hd
        rcases hd with rfl | rfl <;> (rw [PyData.depth]; omega)
      have := dep_all (n := 1) h3
      show (PyData.tuple _).depth ≤ 60
      rw [PyData.depth]
      omega
    have sA := same_new (o := .lst (((List.range D.length).mergeSort (PySem.W.dataLe false fun j => .tuple [.int ((szN D j : Nat) : Int), .int ((j : Nat) : Int)])).map fun j => (zs[j]?).getD .non)) nA
    have s13 := s1.trans (s3.trans sA)
    refine ⟨.ref M, rfl, M, rfl, ⟨_, SqL.of (s13 _ _ eM)⟩, fun R nR => lc_funL (K := K) (a := M) (xs := xs) (ys := List.replicate D.length (.int 0)) (fun _ => rfl) nR (SqL.of (s13 _ _ eM)) (by omega) (by rw [List.length_replicate, lxs]) (fun j x y H4 hx hy s4 q4 kk => ?_) fun H4 s4 eR => ?_⟩
    · have := List.eq_of_mem_replicate (List.mem_of_getElem? hy)
      subst this
      exact kk H4 fun _ _ e => e
    refine ⟨(by show 2 ≤ sizeLine; decide), fun T nT => ⟨T, _, rfl, SqT.of upd_same, rfl, _, _, rfl, _, _, rfl, rfl, rest _ _ ⟨A, R, _, _, rfl, s13.trans (s4.trans (same_new nT)), ?_, ?_, (s3.trans (sA.trans (s4.trans (same_new nT)))) _ _ eS, (s4.trans (same_new nT)) _ _ upd_same, List.mergeSort_perm _ _, fun j hj => (pr j hj).nl (.of (sA.trans (s4.trans (same_new nT)))), same_new nT _ _ eR⟩⟩⟩
    · cases e : H R with
      | none => rfl
      | some o => rw [s13 _ _ e] at nR; cases nR
    · intro e
      rw [← e, upd_same] at nR
      cases nR
  rintro σ G2 ⟨A, R, ats, v, rfl, s2, nR, AR, eS2, eA2, hp, pr2, eR2⟩
  have NR : N ≠ R := fun e => by rw [e, nR] at eN; cases eN
  have MR : M ≠ R := fun e => by rw [e, nR] at eM; cases eM
  have lats : ats.length = D.length := by rw [hp.length_eq, List.length_range]
  -- the loop over the sizes
  refine ⟨.ref S, rfl, S, D.map fun t => ((t.size : Nat) : Int), rfl, SqL.of eS2, by rw [List.length_map]; omega, fun a c na hc => ⟨a, _, c, rfl, upd_same, by rw [List.length_map] at hc; omega, fun ns p hpw hmem hlen np => ⟨p, rfl, ⟨_, SqL.of upd_same⟩, ?_⟩⟩⟩
  obtain ⟨Gb, hGb⟩ : ∃ Gb, Gb = upd (upd G2 a (SetO w a (fun j => decide (j ∈ D.map fun t => ((t.size : Nat) : Int))) c)) p (.lst (ns.map V.int)) := ⟨_, rfl⟩
  have sb : Same G2 Gb := by rw [hGb]; exact (same_new na).trans (same_new np)
  have ePb : Gb p = some (.lst (ns.map V.int)) := by rw [hGb]; exact upd_same
  have pR : p ≠ R := fun e => by
    have np2 := np
    rw [e, upd_ne (fun z => by rw [← z, eR2] at na; cases na), eR2] at np2
    cases np2
  have eNb := (s2.trans sb) _ _ eN
  have eMb := (s2.trans sb) _ _ eM
  have eAb := sb _ _ eA2
  have eRb := sb _ _ eR2
  have prb : ∀ j, j < D.length → PrN Gb (v j) (szN D j, j) := fun j hj => (pr2 j hj).nl (.of sb)
  have sHb := s2.trans sb
  refine for_list (K := K) (a := p) (xs := ns.map V.int) (fun i σ G => ∃ (o5 o6 o7 o8 o9 : Option V) (zs : List V), σ = [some (.ref N), some (.ref M), some (.ref S), some (.ref A), some (.ref R), o5, o6, o7, o8, o9, none, none, none, none, none] ∧ Sb R Gb G ∧ G R = some (.lst zs) ∧ zs.length = D.length ∧ ∀ (a : Nat) (t : Tr), D[a]? = some t → ((t.size : Nat) : Int) ∈ ns.take i → zs[a]? = some (.int ((rnk m D t : Nat) : Int))) ⟨none, none, none, none, none, List.replicate D.length (.int 0), rfl, (by rw [hGb]; exact Sb.refl), (by have e := eRb; rw [hGb] at e; exact e), List.length_replicate, fun a t _ h => by cases h⟩ (fun j σ H' _ pp => ?_) ?_ ?_
  · obtain ⟨_, _, _, _, _, _, _, b2, _⟩ := pp
    exact SqL.of (b2 _ _ pR ePb)
  · rintro i y σ G hy ⟨o5, o6, o7, o8, o9, zs, rfl, b2, eR, lzs, rk⟩
    rw [List.getElem?_map] at hy
    cases en : ns[i]? with
    | none => rw [en] at hy; cases hy
    | some s' =>
    rw [en] at hy
    cases hy
    have hs' : s' ∈ D.map fun t => ((t.size : Nat) : Int) := by
      have := (hmem s').mp (List.mem_of_getElem? en)
      exact of_decide_eq_true this
    obtain ⟨t0, ht0, rfl⟩ := List.mem_map.mp hs'
    generalize hs0 : t0.size = s at *
    have eNG := b2 _ _ NR eNb
    have eMG := b2 _ _ MR eMb
    have eAG := b2 _ _ AR eAb
    have nlb : Nl Gb G := fun b o n e => b2 b o (fun z => by rw [z, eRb] at e; cases e; exact n _ rfl) e
    have prG : ∀ j, j < D.length → PrN G (v j) (szN D j, j) := fun j hj => (prb j hj).nl nlb
    have rowG : ∀ {a : Nat} {t : Tr}, D[a]? = some t → ∃ b q0 : Addr, xs[a]? = some (.ref b) ∧ G b = some (.tup [.str (code D t).1, .ref q0]) ∧ G q0 = some (.tup (nsV (code D t).2)) := fun {a t} e => by
      obtain ⟨b, q0, h0, h1, h2⟩ := rowAt e
      exact ⟨b, q0, h0, nlb _ _ (fun zs z => by cases z) (sHb _ _ h1), nlb _ _ (fun zs z => by cases z) (sHb _ _ h2)⟩
    have atI : ∀ {i : Nat} {x : V}, (ats.map v)[i]? = some x → ∃ j, ats[i]? = some j ∧ x = v j ∧ j < D.length := fun {i x} e => by
      rw [List.getElem?_map] at e
      cases ea : ats[i]? with
      | none => rw [ea] at e; cases e
      | some j =>
      rw [ea] at e
      cases e
      exact ⟨j, rfl, rfl, mem_lt hp (List.mem_of_getElem? ea)⟩
    have lgrp : (grpN D ats s).length ≤ 60 := Nat.le_trans (List.length_filter_le ..) (by omega)
    show tSeq _ _ _ _ _
    -- the trees of that size
    refine seq_join (fun σ G' => ∃ Gr : Addr, σ = [some (.ref N), some (.ref M), some (.ref S), some (.ref A), some (.ref R), some (.int ((s : Nat) : Int)), some (.ref Gr), o7, o8, o9, none, none, none, none, none] ∧ Same G G' ∧ G' Gr = some (.lst (nsV (grpN D ats s)))) ?_ fun rest => ?_
    rotate_left
    · refine ⟨.ref A, rfl, A, rfl, ⟨_, SqL.of eAG⟩, fun Dd nD => lc_selGL (K := K) (a := A) (xs := ats.map v) (zs := ats.map fun j => (decide (szN D j = s), V.int ((j : Nat) : Int))) (τ := fun i => [some (.ref N), some (.ref M), some (.ref S), some (.ref A), some (.ref R), some (.int ((s : Nat) : Int)), o6, o7, o8, o9, none, some (.int (((ats[i]?).getD 0 : Nat) : Int)), none, some (.int ((szN D ((ats[i]?).getD 0) : Nat) : Int)), none]) (fun j x H3 hx s3 k hk => ?_) (fun j _ => rfl) nD (SqL.of eAG) (by rw [List.length_map]; omega) (by rw [List.length_map, List.length_map]) (fun j x z H3 hx hz s3 q3 kk => ?_) (fun j x z H3 hx hz hb s3 q3 kk => ?_) fun H3 s3 eD => rest _ _ ⟨Dd, rfl, s3, by rw [eD, picked_map]; rfl⟩⟩
      · obtain ⟨j', ej, rfl, hj⟩ := atI hx
        obtain ⟨b, e1, h1⟩ := prG j' hj
        rw [e1]
        refine pair_tg (SqT.of (s3 _ _ h1)) ?_
        rw [ej] at hk
        exact hk
      · obtain ⟨j', ej, rfl, hj⟩ := atI hx
        rw [List.getElem?_map, ej] at hz
        cases hz
        rw [ej]
        refine ⟨_, rfl, _, rfl, rfl, _, rfl, ?_⟩
        have e : decide (V.int ((szN D j' : Nat) : Int) = V.int ((s : Nat) : Int)) = decide (szN D j' = s) := decide_eq_decide.mpr ⟨fun h => by injection h with h; omega, fun h => by rw [h]⟩
        show q3 (decide (V.int ((szN D j' : Nat) : Int) = V.int ((s : Nat) : Int))) H3
        rw [e]
        exact kk H3 fun _ _ e => e
      · obtain ⟨j', ej, rfl, hj⟩ := atI hx
        rw [List.getElem?_map, ej] at hz
        cases hz
        rw [ej]
        exact ⟨_, rfl, kk H3 fun _ _ e => e⟩
    rintro σ G3 ⟨Gr, rfl, s3, eG3⟩
    -- their keys
    refine seq_join (fun σ G' => ∃ (Kl : Addr) (ks : List V), σ = [some (.ref N), some (.ref M), some (.ref S), some (.ref A), some (.ref R), some (.int ((s : Nat) : Int)), some (.ref Gr), some (.ref Kl), o8, o9, none, none, none, none, none] ∧ Same G G' ∧ G' Kl = some (.lst ks) ∧ Paired (KyI m D G') ks (grpN D ats s)) ?_ fun rest => ?_
    rotate_left
    · refine ⟨.ref Gr, rfl, Gr, rfl, ⟨_, SqL.of eG3⟩, fun Dd nD => lc_relLN (K := K) (a := Gr) (xs := nsV (grpN D ats s)) (cs := grpN D ats s) (G := KyI m D) (fun _ _ _ _ h s => h.nl s) (fun _ => rfl) nD (SqL.of eG3) (by rw [nsV_len]; omega) (by rw [nsV_len]) (fun j x a H3 hx ha s4 q4 kk => ?_) fun H3 ks s4 eD pk => rest _ _ ⟨Dd, ks, rfl, s3.trans s4, eD, pk⟩⟩
      unfold nsV at hx
      rw [List.getElem?_map, ha] at hx
      cases hx
      obtain ⟨t, et, hts⟩ := grp_at hp ha
      obtain ⟨b, q0, ex, hb, hq⟩ := rowG et
      have s34 := s3.trans s4
      have hrow := (Tr.ok_iff.mp (okD t (List.mem_of_getElem? et))).1
      have hrp : m.rs[rpl m t.row]? = some t.row := by
        unfold rpl
        rw [List.getElem?_eq_getElem (List.idxOf_lt_length_iff.mpr hrow), List.getElem_idxOf]
      have erp : (nmsL m)[rpl m t.row]? = some (.str t.row.1) := by
        unfold nmsL
        rw [List.getElem?_map, hrp]
        rfl
      refine ⟨.ref N, rfl, .inl ⟨rfl, _, SqL.of (s34 _ _ eNG)⟩, .ref M, rfl, .int ((a : Nat) : Int), rfl, M, xs, _, .ref b, rfl, rfl, SqL.of (s34 _ _ eMG), atI_nat ex, b, _, _, .str (code D t).1, rfl, rfl, SqT.of (s34 _ _ hb), rfl, N, nmsL m, .str (code D t).1, rpl m t.row, .str t.row.1, rfl, rfl, SqL.of (s34 _ _ eNG), rfl, ?_, erp, ?_, fun j' z' hj' hz' => ?_, ?_⟩
      · rw [List.all_eq_true]
        intro x hx
        obtain ⟨r, _, rfl⟩ := List.mem_map.mp hx
        rfl
      · show eqV (.str t.row.1) (.str t.row.1) = true
        unfold eqV
        simp
      · unfold nmsL at hz'
        rw [List.getElem?_map] at hz'
        cases er : m.rs[j']? with
        | none => rw [er] at hz'; cases hz'
        | some r =>
        rw [er] at hz'
        cases hz'
        show eqV (.str r.1) (.str t.row.1) = false
        have ne : r.1 ≠ t.row.1 := fun e => by
          have h1 : (m.rs.map (·.1))[j']? = some t.row.1 := by rw [List.getElem?_map, er, ← e]; rfl
          have h2 : (m.rs.map (·.1))[rpl m t.row]? = some t.row.1 := by rw [List.getElem?_map, hrp]; rfl
          have := (List.getElem?_inj (List.getElem?_eq_some_iff.mp h1).1 g.rd).mp (h1.trans h2.symm)
          omega
        unfold eqV
        simpa using ne
      refine ⟨.ref M, rfl, .int ((a : Nat) : Int), rfl, M, xs, _, .ref b, rfl, rfl, SqL.of (s34 _ _ eMG), atI_nat ex, b, _, _, .ref q0, rfl, rfl, SqT.of (s34 _ _ hb), rfl, q0, rfl, ⟨_, SqT.of (s34 _ _ hq)⟩, fun Dd2 nD2 => lc_funT (K := K) (a := q0) (xs := nsV (code D t).2) (ys := t.kids.map fun c => V.int ((rnk m D c : Nat) : Int)) (fun _ => rfl) nD2 (SqT.of (s34 _ _ hq)) ?_ ?_ (fun j2 x2 y2 H5 hx2 hy2 s5 q5 kk5 => ?_) fun H5 s5 eD2 => .inl ⟨Dd2, _, rfl, SqL.of eD2, fun T1 nT1 => ⟨.int ((a : Nat) : Int), rfl, (by show 3 ≤ sizeLine; decide), fun T nT => kk _ _ (s5.trans ((same_new nT1).trans (same_new nT))) ⟨t, T, T1, et, rfl, upd_same, (same_new nT) _ _ upd_same⟩⟩⟩⟩
      · rw [nsV_len]
        show (t.kids.map _).length ≤ 1000
        rw [List.length_map]
        have := t.kids3
        omega
      · rw [nsV_len]
        show _ = (t.kids.map _).length
        rw [List.length_map, List.length_map]
      · unfold nsV at hx2
        rw [List.getElem?_map] at hx2 hy2
        have e2 : (code D t).2 = t.kids.map fun c => D.idxOf c := rfl
        rw [e2, List.getElem?_map] at hx2
        cases ec : t.kids[j2]? with
        | none => rw [ec] at hx2; cases hx2
        | some c =>
        rw [ec] at hx2 hy2
        cases hx2
        cases hy2
        have hc := List.mem_of_getElem? ec
        have hcD := kid t (List.mem_of_getElem? et) c hc
        have hsz := Tr.size_kid hc
        have hin : ((c.size : Nat) : Int) ∈ ns := (hmem _).mpr (decide_eq_true (List.mem_map.mpr ⟨c, hcD, rfl⟩))
        have := rk (D.idxOf c) c (idx_at hcD) (srt_take hpw en hin (by omega))
        exact ⟨.ref R, rfl, .int ((D.idxOf c : Nat) : Int), rfl, R, zs, _, _, rfl, rfl, SqL.of ((s34.trans s5) _ _ eR), atI_nat this, kk5 H5 fun _ _ e => e⟩
    rintro σ G4 ⟨Kl, ks, rfl, s4, eK, pk⟩
    -- how many are smaller
    refine seq_join (fun σ G' => σ = [some (.ref N), some (.ref M), some (.ref S), some (.ref A), some (.ref R), some (.int ((s : Nat) : Int)), some (.ref Gr), some (.ref Kl), some (.int (((ats.filter fun j => decide (szN D j < s)).length : Nat) : Int)), o9, none, none, none, none, none] ∧ Same G4 G') ?_ fun rest => ?_
    rotate_left
    · refine ⟨.ref A, rfl, A, rfl, ⟨_, SqL.of (s4 _ _ eAG)⟩, fun Dd nD => lc_selGL (K := K) (a := A) (xs := ats.map v) (zs := ats.map fun j => (decide (szN D j < s), V.int ((j : Nat) : Int))) (τ := fun i => [some (.ref N), some (.ref M), some (.ref S), some (.ref A), some (.ref R), some (.int ((s : Nat) : Int)), some (.ref Gr), some (.ref Kl), o8, o9, none, some (.int (((ats[i]?).getD 0 : Nat) : Int)), none, some (.int ((szN D ((ats[i]?).getD 0) : Nat) : Int)), none]) (fun j x H3 hx s3 k hk => ?_) (fun j _ => rfl) nD (SqL.of (s4 _ _ eAG)) (by rw [List.length_map]; omega) (by rw [List.length_map, List.length_map]) (fun j x z H3 hx hz s3 q3 kk => ?_) (fun j x z H3 hx hz hb s3 q3 kk => ?_) fun H3 s3 eD => ⟨Dd, _, rfl, .inl (SqL.of eD), rest _ _ ⟨?_, s3⟩⟩⟩
      · obtain ⟨j', ej, rfl, hj⟩ := atI hx
        obtain ⟨b, e1, h1⟩ := prG j' hj
        rw [e1]
        refine pair_tg (SqT.of ((s4.trans s3) _ _ h1)) ?_
        rw [ej] at hk
        exact hk
      · obtain ⟨j', ej, rfl, hj⟩ := atI hx
        rw [List.getElem?_map, ej] at hz
        cases hz
        rw [ej]
        refine ⟨_, rfl, _, rfl, _, _, rfl, rfl, _, rfl, ?_⟩
        have e : decide (((szN D j' : Nat) : Int) < ((s : Nat) : Int)) = decide (szN D j' < s) := decide_eq_decide.mpr ⟨fun h => by omega, fun h => by omega⟩
        show q3 (decide (((szN D j' : Nat) : Int) < ((s : Nat) : Int))) H3
        rw [e]
        exact kk H3 fun _ _ e => e
      · obtain ⟨j', ej, rfl, hj⟩ := atI hx
        rw [List.getElem?_map, ej] at hz
        cases hz
        rw [ej]
        exact ⟨_, rfl, kk H3 fun _ _ e => e⟩
      · rw [picked_map, List.length_map]
        rfl
    rintro σ G5 ⟨rfl, s5⟩
    have s45 := s4.trans s5
    have pk5 : Paired (KyI m D G5) ks (grpN D ats s) := Paired.mapP pk fun _ _ h => h.nl (.of s5)
    have lks : ks.length = (grpN D ats s).length := Paired.length pk
    have kyAt : ∀ {j : Nat}, j < (grpN D ats s).length → ∃ (a : Nat) (t : Tr), (grpN D ats s)[j]? = some a ∧ D[a]? = some t ∧ KyI m D G5 ((ks[j]?).getD .non) a := fun {j} hj => by
      have ek : ks[j]? = some (ks[j]'(by omega)) := List.getElem?_eq_getElem _
      obtain ⟨a, ea, h⟩ := par_at pk5 ek
      obtain ⟨t, et, _⟩ := grp_at hp ea
      exact ⟨a, t, ea, et, by rw [ek]; exact h⟩
    -- the keys, sorted
    refine seq_join (fun σ G' => ∃ K2 : Addr, σ = [some (.ref N), some (.ref M), some (.ref S), some (.ref A), some (.ref R), some (.int ((s : Nat) : Int)), some (.ref Gr), some (.ref K2), some (.int (((ats.filter fun j => decide (szN D j < s)).length : Nat) : Int)), o9, none, none, none, none, none] ∧ Same G5 G' ∧ K2 ≠ R ∧ G' K2 = some (.lst ((sortJ m D (grpN D ats s)).map fun j => (ks[j]?).getD .non))) ?_ fun rest => ?_
    rotate_left
    · refine ⟨.ref Kl, rfl, Kl, List.range (grpN D ats s).length, fun j => (ks[j]?).getD .non, keyE m D (grpN D ats s), rfl, by rw [← lks, range_map]; exact SqL.of (s5 _ _ eK), fun b hb => ?_, fun d hd d' hd' => ?_, .inl fun d hd => ?_, fun b hb => ?_, fun p2 np2 => rest _ _ ⟨p2, rfl, same_new np2, fun e => ?_, upd_same⟩⟩
      · obtain ⟨a, t, h1, h2, h3⟩ := kyAt (List.mem_range.mp hb)
        rw [keyE_at h1 h2]
        exact h3.dp h2
      · obtain ⟨b1, hb1, rfl⟩ := List.mem_map.mp hd
        obtain ⟨b2, hb2, rfl⟩ := List.mem_map.mp hd'
        obtain ⟨a, t, h1, h2, _⟩ := kyAt (List.mem_range.mp hb1)
        obtain ⟨a', t', h1', h2', _⟩ := kyAt (List.mem_range.mp hb2)
        rw [keyE_at h1 h2, keyE_at h1' h2']
        exact kd_alike _ _ _ _
      · obtain ⟨b1, hb1, rfl⟩ := List.mem_map.mp hd
        obtain ⟨a, t, h1, h2, _⟩ := kyAt (List.mem_range.mp hb1)
        rw [keyE_at h1 h2]
        exact ⟨_, _, rfl⟩
      · obtain ⟨a, t, h1, h2, _⟩ := kyAt (List.mem_range.mp hb)
        rw [keyE_at h1 h2]
        exact kd_depth _ _ _ _
      · rw [e, s45 _ _ eR] at np2
        cases np2
    rintro σ G6 ⟨K2, rfl, s6, KR, eK2⟩
    have s46 := s45.trans s6
    have lsj : (sortJ m D (grpN D ats s)).length = (grpN D ats s).length := by rw [(sortJ_perm _).length_eq, List.length_range]
    -- each its rank
    refine ⟨.ref K2, rfl, K2, _, rfl, .inl (SqL.of eK2), _, rfl, by rw [List.length_map]; omega, by rw [List.length_map]; omega, for_range (n := (((List.map (fun j => (ks[j]?).getD V.non) (sortJ m D (grpN D ats s))).length : Nat) : Int).toNat) (fun n σ G' => ∃ (o9 : Option V) (zs' : List V), σ = [some (.ref N), some (.ref M), some (.ref S), some (.ref A), some (.ref R), some (.int ((s : Nat) : Int)), some (.ref Gr), some (.ref K2), some (.int (((ats.filter fun j => decide (szN D j < s)).length : Nat) : Int)), o9, none, none, none, none, none] ∧ Sb R G6 G' ∧ G' R = some (.lst zs') ∧ zs'.length = D.length ∧ (∀ (a : Nat) (t : Tr), D[a]? = some t → ((t.size : Nat) : Int) ∈ ns.take i → zs'[a]? = some (.int ((rnk m D t : Nat) : Int))) ∧ ∀ (x j a : Nat) (t : Tr), x < n → (sortJ m D (grpN D ats s))[x]? = some j → (grpN D ats s)[j]? = some a → D[a]? = some t → zs'[a]? = some (.int ((rnk m D t : Nat) : Int)))
      ⟨o9, zs, rfl, Sb.refl, s46 _ _ eR, lzs, rk, fun _ _ _ _ h => by omega⟩ ?_ ?_⟩
    · rintro n σ G' hn ⟨o9', zs', rfl, b6, eR', lz', rk1, rk2⟩
      rw [List.length_map, lsj] at hn
      have hn' : n < (sortJ m D (grpN D ats s)).length := by omega
      have ej : (sortJ m D (grpN D ats s))[n]? = some ((sortJ m D (grpN D ats s))[n]'hn') := List.getElem?_eq_getElem _
      generalize (sortJ m D (grpN D ats s))[n]'hn' = j at ej
      have hj : j < (grpN D ats s).length := List.mem_range.mp ((sortJ_perm _).mem_iff.mp (List.mem_of_getElem? ej))
      obtain ⟨a, t, ea, et, t', b, q0, et', ev, hb, _⟩ := kyAt hj
      rw [et] at et'
      cases et'
      have hbR : b ≠ R := fun z => by rw [z, s45 _ _ eR] at hb; cases hb
      have hr := rank_at ndD okD kid hp ej ea et
      have eK' := b6 _ _ KR eK2
      have hal := (List.getElem?_eq_some_iff.mp et).1
      refine ⟨_, rfl, .int (0 + (n : Int)), rfl, _, _, rfl, rfl, .ref R, rfl, .ref K2, rfl, .int (0 + (n : Int)), rfl, K2, _, _, .ref b, rfl, rfl, SqL.of eK', at_of (j := n) (by omega) ?_, b, _, _, .int ((a : Nat) : Int), rfl, rfl, SqT.of (b6 _ _ hbR (s6 _ _ hb)), rfl, R, zs', ((a : Nat) : Int), a, rfl, rfl, eR', ?_, _, zs'.set a (.int ((rnk m D t : Nat) : Int)), rfl, ?_, ?_, ?_, ?_, ?_⟩
      · rw [List.getElem?_map, ej, ← ev]
        rfl
      · exact ixN_k (by omega)
      · exact b6.trans Sb.set
      · have e : (((ats.filter fun j => decide (szN D j < s)).length : Nat) : Int) + (0 + (n : Int)) = ((rnk m D t : Nat) : Int) := by rw [hr]; omega
        rw [upd_same, ← e]
      · rw [List.length_set, lz']
      · intro a' u eu hu
        by_cases z : a' = a
        · subst z
          rw [et] at eu
          cases eu
          rw [List.getElem?_set_self (by omega)]
        · rw [List.getElem?_set_ne (Ne.symm z)]
          exact rk1 a' u eu hu
      · intro x j' a' u hx ej' ea' eu
        by_cases z : a' = a
        · subst z
          rw [et] at eu
          cases eu
          rw [List.getElem?_set_self (by omega)]
        · rw [List.getElem?_set_ne (Ne.symm z)]
          refine rk2 x j' a' u ?_ ej' ea' eu
          rcases Nat.lt_or_ge x n with h | h
          · exact h
          · have : x = n := by omega
            subst this
            rw [ej] at ej'
            cases ej'
            rw [ea] at ea'
            cases ea'
            exact absurd rfl z
    · rintro σ G' ⟨o9', zs', rfl, b6, eR', lz', rk1, rk2⟩
      refine ⟨_, _, _, _, _, zs', rfl, b2.trans ((Sb.of s46).trans b6), eR', lz', fun a t et ht => ?_⟩
      rw [List.take_add_one, en, List.mem_append] at ht
      rcases ht with ht | ht
      · exact rk1 a t et ht
      · have hsz : t.size = s := by
          have : ((t.size : Nat) : Int) = ((s : Nat) : Int) := by simpa using ht
          omega
        have hag : a ∈ grpN D ats s := List.mem_filter.mpr ⟨hp.mem_iff.mpr (List.mem_range.mpr (List.getElem?_eq_some_iff.mp et).1), decide_eq_true (by rw [szN_at et, hsz])⟩
        obtain ⟨x, j, h1, h2⟩ := all_hit (m := m) hag
        refine rk2 x j a t ?_ h1 h2 et
        have := (List.getElem?_eq_some_iff.mp h1).1
        rw [List.length_map]
        omega
  · rintro σ G ⟨o5, o6, o7, o8, o9, zs, rfl, b2, eR, lzs, rk⟩
    refine ⟨.ref R, rfl, q R G (fun b o e => b2 _ _ (fun z => by rw [z, nR] at e; cases e) (sHb _ _ e)) nR ?_⟩
    rw [eR]
    congr 2
    refine List.ext_getElem? fun a => ?_
    unfold nsV
    rw [List.getElem?_map, List.getElem?_map]
    cases et : D[a]? with
    | none =>
      have := List.getElem?_eq_none_iff.mp et
      exact List.getElem?_eq_none (by omega)
    | some t =>
      refine rk a t et ?_
      rw [List.length_map, List.take_length]
      exact (hmem _).mpr (decide_eq_true (List.mem_map.mpr ⟨t, List.mem_of_getElem? et, rfl⟩))
end
end Ks
set_option Elab.async false
set_option linter.all false
set_option maxRecDepth 100000
set_option maxHeartbeats 4000000
namespace Ks
open PySem PySem.Spec PyProof.Rows L2 Gd Kx
/-! ### the text of a tree, cut -/
theorem nm_all {z : Str} (h : nmS z = true) : ∀ c ∈ TL.tl z, inN c = true := by
  have h' : nmL (TL.tl z) = true := h
  cases e : TL.tl z with
  | nil => rw [e] at h'; cases h'
  | cons c r =>
    rw [e, nmL_cons, Bool.and_eq_true] at h'
    exact List.all_eq_true.mp h'.2
theorem nm_free {z : Str} (h : nmS z = true) {s : Nat} (hs : inN s = false) : s ∉ TL.tl z := fun hm => by
  have := nm_all h s hm
  rw [hs] at this
  cases this
theorem tl_nsS (n : Nat) : TL.tl (nsS n) = TL.numL n := TL.tl_num n
theorem ns_free {n s : Nat} (h : s < 48 ∨ 57 < s) : s ∉ TL.tl (nsS n) := by
  rw [tl_nsS]
  exact TL.numL_free h
theorem row_words {r : Rn} (h : nmS r.1 = true) {s : Nat} (hs : inN s = false) (h2 : s < 48 ∨ 57 < s) : ∀ p ∈ r.1 :: r.2.map nsS, s ∉ TL.tl p := fun p hp => by
  rcases List.mem_cons.mp hp with rfl | hp
  · exact nm_free h hs
  · obtain ⟨n, _, rfl⟩ := List.mem_map.mp hp
    exact ns_free h2
theorem cut_row {r : Rn} (h : nmS r.1 = true) : cutS (rowS r) " " = r.1 :: r.2.map nsS :=
  TL.split_join (s := 32) (S := []) (by decide +kernel) (by decide +kernel) (by simp) (row_words h (by decide +kernel) (by decide))
theorem mem_joinL {S : List Nat} {c : Nat} : ∀ {ps : List (List Nat)}, c ∈ TL.joinL S ps → c ∈ S ∨ ∃ p ∈ ps, c ∈ p
  | [], h => by cases h
  | [p], h => .inr ⟨p, List.mem_cons_self .., h⟩
  | p :: q :: r, h => by
    have h' : c ∈ p ++ (S ++ TL.joinL S (q :: r)) := by
      first
      | exact h
      | simpa [TL.joinL] using h
    rcases List.mem_append.mp h' with h' | h'
    · exact .inr ⟨p, List.mem_cons_self .., h'⟩
    rcases List.mem_append.mp h' with h' | h'
    · exact .inl h'
    rcases mem_joinL h' with h' | ⟨u, hu, hc⟩
    · exact .inl h'
    · exact .inr ⟨u, List.mem_cons_of_mem _ hu, hc⟩
theorem tl_rowS (r : Rn) : TL.tl (rowS r) = TL.joinL [32] ((r.1 :: r.2.map nsS).map TL.tl) := by
  unfold rowS
  rw [TL.join_eq, TL.tl_join]
  rfl
theorem row_free {r : Rn} (h : nmS r.1 = true) : 59 ∉ TL.tl (rowS r) := fun hm => by
  rw [tl_rowS] at hm
  rcases mem_joinL hm with h1 | ⟨p, hp, hc⟩
  · simp at h1
  · obtain ⟨q, hq, rfl⟩ := List.mem_map.mp hp
    exact row_words h (by decide +kernel) (by decide) q hq hc
theorem cut_rows {rs : List Rn} (hne : rs ≠ []) (h : ∀ r ∈ rs, nmS r.1 = true) : cutS (Txt.join (Str.ofString "; ") (rs.map rowS)) "; " = rs.map rowS :=
  TL.split_join (s := 59) (S := [32]) (by decide +kernel) (by decide +kernel) (by simpa using hne) fun p hp => by
    obtain ⟨r, hr, rfl⟩ := List.mem_map.mp hp
    exact row_free (h r hr)
theorem codes_ne (t : Tr) : codes (sub t) ≠ [] := fun e => by
  have h := sub_pos t
  rw [← codes_len, e] at h
  simp at h
theorem cut_stT {m : Md} (g : Good m) {t : Tr} (ok : t.Ok m) : cutS (stT t) "; " = (codes (sub t)).map rowS :=
  cut_rows (codes_ne t) (codes_nm g (sub_ok ok))
theorem numW_ns {n : Nat} (h : n < 1000) : numW (nsS n) = some n := by
  have e := tl_nsS n
  have l3 : (nsS n).length ≤ 3 := nsS_len (by decide) h
  have l0 : (nsS n).length ≠ 0 := fun z => TL.numL_ne n (by rw [← e]; exact List.eq_nil_of_length_eq_zero (by rw [← TL.len_tl]; exact z))
  have dg := TL.numL_digits n
  have ha : (nsS n).cps.toList.all dgt = true := by
    rw [List.all_eq_true]
    intro c hc
    have hc' : c ∈ TL.numL n := by rw [← e]; exact hc
    obtain ⟨h1, h2⟩ := dg c hc'
    have : c = 48 ∨ c = 49 ∨ c = 50 ∨ c = 51 ∨ c = 52 ∨ c = 53 ∨ c = 54 ∨ c = 55 ∨ c = 56 ∨ c = 57 := by omega
    rcases this with rfl | rfl | rfl | rfl | rfl | rfl | rfl | rfl | rfl | rfl <;> decide +kernel
  unfold numW
  rw [if_pos ⟨l3, l0, ha⟩]
  have f1 := TL.fold_digits (TL.numL n) 0 dg
  have f2 := TL.fold_num n
  have e2 : (nsS n).cps.toList = TL.numL n := e
  rw [e2]
  congr 1
  have f3 : ((((TL.numL n).foldl (fun acc c => acc * 10 + (c - 48)) 0 : Nat)) : Int) = (n : Int) := f1.symm.trans f2
  exact Int.ofNat.inj f3
theorem rowO_rowS {r : Rn} (h : nmS r.1 = true) (hk : ∀ k ∈ r.2, k < 1000) : rowO (rowS r) = liftR r := by
  unfold rowO
  rw [cut_row h]
  show (r.1, (r.2.map nsS).map numW) = (r.1, r.2.map some)
  rw [List.map_map]
  congr 1
  exact List.map_congr_left fun k hk' => numW_ns (hk k hk')
theorem codes_lt (t : Tr) : ∀ r ∈ codes (sub t), ∀ k ∈ r.2, k < (sub t).length := fun r hr k hk => by
  obtain ⟨u, hu, rfl⟩ := List.mem_map.mp hr
  obtain ⟨c, hc, rfl⟩ := List.mem_map.mp hk
  exact List.idxOf_lt_length_of_mem ((sub_ord t).mem hu hc)
theorem rowsO_stT {m : Md} (g : Good m) {t : Tr} (ok : t.Ok m) (l : (sub t).length ≤ 200) : rowsO (stT t) = (codes (sub t)).map liftR := by
  unfold rowsO
  rw [cut_stT g ok, List.map_map]
  refine List.map_congr_left fun r hr => rowO_rowS (codes_nm g (sub_ok ok) r hr) fun k hk => ?_
  have := codes_lt t r hr k hk
  omega
theorem liftR_inj {r s : Rn} (h : liftR r = liftR s) : r = s := by
  have h1 : r.1 = s.1 := congrArg (fun x : Ro => x.1) h
  have h2 : r.2.map some = s.2.map some := congrArg (fun x : Ro => x.2) h
  have h3 : r.2 = s.2 := List.map_inj_right (fun _ _ e => Option.some.inj e) |>.mp h2
  exact Prod.ext h1 h3
theorem liftRs_inj {rs ss : List Rn} (h : rs.map liftR = ss.map liftR) : rs = ss := (List.map_inj_right fun _ _ e => liftR_inj e).mp h
theorem bld_inj {m : Md} (g : Good m) {rs : List Rn} {ts us : List Tr} (b : Bld m rs ts) (c : Bld m rs us) : ts = us := by
  have h : ∀ i : Nat, ∀ j : Nat, j ≤ i → ts[j]? = us[j]? := by
    intro i
    induction i with
    | zero =>
      intro j hj
      have hj0 : j = 0 := by omega
      subst hj0
      cases er : rs[0]? with
      | none =>
        have : rs.length = 0 := by simpa using er
        rw [List.getElem?_eq_none (by rw [← b.len]; omega), List.getElem?_eq_none (by rw [← c.len]; omega)]
      | some r =>
        have l0 := (List.getElem?_eq_some_iff.mp er).1
        obtain ⟨t, et⟩ : ∃ t, ts[0]? = some t := ⟨_, List.getElem?_eq_getElem (by rw [← b.len]; exact l0)⟩
        obtain ⟨u, eu⟩ : ∃ u, us[0]? = some u := ⟨_, List.getElem?_eq_getElem (by rw [← c.len]; exact l0)⟩
        obtain ⟨n1, k1, q1⟩ := b.at_ 0 r t er et
        obtain ⟨n2, k2, q2⟩ := c.at_ 0 r u er eu
        have z1 : t.kids = [] := by
          cases ek : t.kids with
          | nil => rfl
          | cons x xs =>
            rw [ek, List.length_cons] at k1
            obtain ⟨n, en⟩ : ∃ n, r.2[0]? = some n := ⟨_, List.getElem?_eq_getElem (by omega)⟩
            exact absurd (q1 0 n x en (by rw [ek]; rfl)).1 (Nat.not_lt_zero _)
        have z2 : u.kids = [] := by
          rw [z1] at k1
          exact List.eq_nil_of_length_eq_zero (by rw [← k2, k1]; rfl)
        rw [et, eu]
        congr 1
        refine Tr.ext (names_inj g.rd (Tr.ok_iff.mp (b.ok t (List.mem_of_getElem? et))).1 (Tr.ok_iff.mp (c.ok u (List.mem_of_getElem? eu))).1 (n1.trans n2.symm)) (z1.trans z2.symm)
    | succ i ih =>
      intro j hj
      by_cases hji : j ≤ i
      · exact ih j hji
      have ej : j = i + 1 := by omega
      subst ej
      cases er : rs[i + 1]? with
      | none =>
        have : rs.length ≤ i + 1 := by simpa using er
        rw [List.getElem?_eq_none (by rw [← b.len]; omega), List.getElem?_eq_none (by rw [← c.len]; omega)]
      | some r =>
        have l0 := (List.getElem?_eq_some_iff.mp er).1
        obtain ⟨t, et⟩ : ∃ t, ts[i + 1]? = some t := ⟨_, List.getElem?_eq_getElem (by rw [← b.len]; exact l0)⟩
        obtain ⟨u, eu⟩ : ∃ u, us[i + 1]? = some u := ⟨_, List.getElem?_eq_getElem (by rw [← c.len]; exact l0)⟩
        obtain ⟨n1, k1, q1⟩ := b.at_ _ r t er et
        obtain ⟨n2, k2, q2⟩ := c.at_ _ r u er eu
        rw [et, eu]
        congr 1
        refine Tr.ext (names_inj g.rd (Tr.ok_iff.mp (b.ok t (List.mem_of_getElem? et))).1 (Tr.ok_iff.mp (c.ok u (List.mem_of_getElem? eu))).1 (n1.trans n2.symm)) ?_
        refine List.ext_getElem? fun q => ?_
        by_cases hq : q < r.2.length
        · obtain ⟨n, en⟩ : ∃ n, r.2[q]? = some n := ⟨_, List.getElem?_eq_getElem hq⟩
          obtain ⟨x, ex⟩ : ∃ x, t.kids[q]? = some x := ⟨_, List.getElem?_eq_getElem (by omega)⟩
          obtain ⟨y, ey⟩ : ∃ y, u.kids[q]? = some y := ⟨_, List.getElem?_eq_getElem (by omega)⟩
          obtain ⟨a1, a2⟩ := q1 q n x en ex
          obtain ⟨b1, b2⟩ := q2 q n y en ey
          rw [ex, ey, ← a2, ← b2]
          exact ih n (by omega)
        · rw [List.getElem?_eq_none (by omega), List.getElem?_eq_none (by omega)]
  exact List.ext_getElem? fun i => h i i (Nat.le_refl _)
/-- a tree's own text is read to it -/
theorem text_inj {m : Md} (g : Good m) {t u : Tr} (ok : t.Ok m) (ok' : u.Ok m) (l : (sub t).length ≤ 200) (l' : (sub u).length ≤ 200) (e : stT t = stT u) : t = u := by
  have h := rowsO_stT g ok l
  rw [e, rowsO_stT g ok' l'] at h
  exact ((tree_eq g.rd ok' ok).mp (liftRs_inj h)).symm
theorem read_bld {m : Md} (g : Good m) {t : Tr} (ok : t.Ok m) (l : (sub t).length ≤ 200) {rs : List Rn} {ts : List Tr} (e : rowsO (stT t) = rs.map liftR) (b : Bld m rs ts) : ts[rs.length - 1]? = some t := by
  rw [rowsO_stT g ok l] at e
  have e' := liftRs_inj e
  subst e'
  rw [bld_inj g b (bld_codes (sub_ord t) (sub_ok ok)), codes_len]
  exact sub_last t
theorem read_ok {m : Md} (g : Good m) {t : Tr} (ok : t.Ok m) (l : (sub t).length ≤ 200) : 1 ≤ (rowsO (stT t)).length ∧ (rowsO (stT t)).length ≤ 200 ∧ okTo m (rowsO (stT t)) (rowsO (stT t)).length := by
  rw [rowsO_stT g ok l, List.length_map, codes_len]
  refine ⟨sub_pos t, l, ?_⟩
  have := bld_okTo g (bld_codes (sub_ord t) (sub_ok ok))
  rwa [codes_len] at this
end Ks
set_option Elab.async false
set_option linter.all false
set_option maxRecDepth 100000
set_option maxHeartbeats 4000000
/-! how long data is shown -/
namespace Ks
open PySem PySem.Spec PyProof.Rows L2 Gd Kx
mutual
theorem dp_keep {K : PySem.W.Frag} {H H' : Hp} (s : Same H H') : ∀ (d : PyData) (v : V), Dp K H v d → Dp K H' v d
  | .none, _, h => by cases h; exact .non
  | .bool b, _, h => by cases h; exact .bl b
  | .int i, _, h => by cases h; exact .int i
  | .str x, _, h => by cases h; exact .str x
  | .list ds, _, h => by
    cases h with
    | lst h1 h2 => exact .lst (s.seq h1) (dp_keepAll s ds _ h2)
  | .tuple ds, _, h => by
    cases h with
    | tup h1 h2 => exact .tup (SqT.ext h1 s) (dp_keepAll s ds _ h2)
  | .dict _, _, h => by cases h
theorem dp_keepAll {K : PySem.W.Frag} {H H' : Hp} (s : Same H H') : ∀ (ds : List PyData) (vs : List V), DpAll K H vs ds → DpAll K H' vs ds
  | [], _, h => by cases h; exact .nil
  | d :: ds, _, h => by
    cases h with
    | cons h1 h2 => exact .cons (dp_keep s d _ h1) (dp_keepAll s ds _ h2)
end
structure SB (n b : Nat) (d : PyData) : Prop where
  sh : d.showable = true
  nd : d.hasDict = false
  dp : d.depth ≤ n
  ln : d.shown.length ≤ b
theorem SB.mono {n b n' b' : Nat} {d : PyData} (h : SB n b d) (hn : n ≤ n') (hb : b ≤ b') : SB n' b' d := ⟨h.sh, h.nd, Nat.le_trans h.dp hn, Nat.le_trans h.ln hb⟩
theorem sb_sh {n b : Nat} : ∀ {ds : List PyData}, (∀ d ∈ ds, SB n b d) → PyData.showableAll ds = true
  | [], _ => rfl
  | d :: r, h => by rw [PyData.showableAll, (h d (List.mem_cons_self ..)).sh, sb_sh fun x hx => h x (List.mem_cons_of_mem _ hx)]; rfl
theorem sb_nd {n b : Nat} : ∀ {ds : List PyData}, (∀ d ∈ ds, SB n b d) → PyData.hasDictAll ds = false
  | [], _ => rfl
  | d :: r, h => by rw [PyData.hasDictAll, (h d (List.mem_cons_self ..)).nd, sb_nd fun x hx => h x (List.mem_cons_of_mem _ hx)]; rfl
theorem sb_dp {n b : Nat} : ∀ {ds : List PyData}, (∀ d ∈ ds, SB n b d) → PyData.depthAll ds ≤ n + 1
  | [], _ => by show 0 ≤ _; omega
  | d :: r, h => by
    have a := (h d (List.mem_cons_self ..)).dp
    have c := sb_dp fun x hx => h x (List.mem_cons_of_mem _ hx)
    rw [PyData.depthAll]
    omega
theorem sb_list {n b c : Nat} {ds : List PyData} (h : ∀ d ∈ ds, SB n b d) (hl : ds.length ≤ c) : SB (n + 2) (2 + c * (b + 2)) (.list ds) := by
  refine ⟨?_, ?_, ?_, ?_⟩
  · rw [PyData.showable]
    exact sb_sh h
  · rw [PyData.hasDict]
    exact sb_nd h
  · have := sb_dp h
    rw [PyData.depth]
    omega
  · rw [PyData.shown]
    have := listText_le (ts := PyData.shownAll ds) (b := b) (by
      rw [shownAll_map]
      intro t ht
      obtain ⟨d, hd, rfl⟩ := List.mem_map.mp ht
      exact (h d hd).ln)
    rw [shownAll_map, List.length_map] at this
    have z : ds.length * (b + 2) ≤ c * (b + 2) := Nat.mul_le_mul_right _ hl
    rw [shownAll_map]
    omega
theorem join_le (sep : Str) (b : Nat) : ∀ ts : List Str, (∀ t ∈ ts, t.length ≤ b) → (Str.join sep ts).length ≤ ts.length * (b + sep.length)
  | [], _ => by show 0 ≤ _; omega
  | [x], h => by
    have := h x (List.mem_cons_self ..)
    show x.length ≤ 1 * (b + sep.length)
    omega
  | x :: y :: r, h => by
    have a := h x (List.mem_cons_self ..)
    have ih := join_le sep b (y :: r) fun t ht => h t (List.mem_cons_of_mem _ ht)
    show (x ++ sep ++ Str.join sep (y :: r)).length ≤ _
    rw [Str.length_append, Str.length_append, List.length_cons, Nat.add_mul, Nat.one_mul]
    omega
theorem sb_tup {n b c : Nat} {ds : List PyData} (h : ∀ d ∈ ds, SB n b d) (hl : ds.length ≤ c) : SB (n + 2) (3 + c * (b + 2)) (.tuple ds) := by
  refine ⟨?_, ?_, ?_, ?_⟩
  · rw [PyData.showable]
    exact sb_sh h
  · rw [PyData.hasDict]
    exact sb_nd h
  · have := sb_dp h
    rw [PyData.depth]
    omega
  · rw [PyData.shown]
    have := join_le (Str.ofString ", ") b (PyData.shownAll ds) (by
      rw [shownAll_map]
      intro t ht
      obtain ⟨d, hd, rfl⟩ := List.mem_map.mp ht
      exact (h d hd).ln)
    have l2 : (Str.ofString ", ").length = 2 := by decide +kernel
    have l1 : (Str.ofString "(").length = 1 := by decide +kernel
    have l3 : ((if (PyData.shownAll ds).length == 1 then ",)" else ")" : String) : Str).length ≤ 2 := by split <;> decide +kernel
    rw [l2] at this
    have e : (PyData.shownAll ds).length = ds.length := by rw [shownAll_map, List.length_map]
    rw [e] at this
    have z : ds.length * (b + 2) ≤ c * (b + 2) := Nat.mul_le_mul_right _ hl
    show (Str.ofString "(" ++ Str.join (Str.ofString ", ") (PyData.shownAll ds) ++ ((if (PyData.shownAll ds).length == 1 then ",)" else ")" : String) : Str)).length ≤ _
    rw [Str.length_append, Str.length_append]
    omega
theorem sb_str {z : Str} {l : Nat} (h : nmS z = true) (hl : z.length ≤ l) : SB 1 (10 * l + 2) (.str z) := by
  refine ⟨rfl, rfl, by rw [PyData.depth]; omega, ?_⟩
  have ok : ∀ c ∈ z.cps.toList, c < 16 ^ 8 := by
    have := nm_ok h
    unfold PyData.strOk at this
    rw [← Array.all_toList] at this
    intro c hc
    have := of_decide_eq_true (List.all_eq_true.mp this c hc)
    omega
  have := StrLaws.reprText_len z ok
  rw [PyData.shown]
  omega
theorem sb_nm {z : Str} (h : nmS z = true) : SB 1 82 (.str z) := sb_str h (nm_len h).2
theorem sb_ss {ss : List Str} {c : Nat} (h : ∀ s ∈ ss, nmS s = true) (hl : ss.length ≤ c) : SB 3 (3 + c * 84) (dSs ss) :=
  sb_tup (n := 1) (b := 82) (fun d hd => by obtain ⟨s, hs, rfl⟩ := List.mem_map.mp hd; exact sb_nm (h s hs)) (by rw [List.length_map]; exact hl)
theorem Good.sbK {m : Md} (g : Good m) : SB 3 339 (dSs m.ks) := sb_ss g.kn g.k4
theorem Good.sbR1 {m : Md} (g : Good m) {r : Rw} (hr : r ∈ m.rs) : SB 5 774 (dRw r) := by
  have rk := g.row hr
  refine (sb_tup (n := 3) (b := 255) (c := 3) (ds := [.str r.1, .str r.2.1, dSs r.2.2]) ?_ (Nat.le_refl 3)).mono (by decide) (by decide)
  intro d hd
  simp only [List.mem_cons, List.not_mem_nil, or_false] at hd
  rcases hd with rfl | rfl | rfl
  · exact (sb_nm (g.rn r hr)).mono (by decide) (by decide)
  · exact (sb_nm (g.kn _ (g.rk r hr))).mono (by decide) (by decide)
  · exact sb_ss (c := 3) (fun s hs => g.kn s (g.fk r hr s hs)) (g.f3 r hr)
theorem Good.sbR {m : Md} (g : Good m) : SB 7 4659 (dRs m.rs) :=
  sb_tup (n := 5) (b := 774) (c := 6) (fun d hd => by obtain ⟨r, hr, rfl⟩ := List.mem_map.mp hd; exact g.sbR1 hr) (by rw [List.length_map]; exact g.r6)
theorem Good.sbN {m : Md} (g : Good m) {rs : List Rw} (h : ∀ r ∈ rs, r ∈ m.rs) (hl : rs.length ≤ 6) : SB 3 507 (dSs (rs.map (·.1))) :=
  sb_ss (c := 6) (fun s hs => by obtain ⟨r, hr, rfl⟩ := List.mem_map.mp hs; exact g.rn r (h r hr)) (by rw [List.length_map]; exact hl)
/-! any text of plain signs -/
def okS (z : Str) : Prop := ∀ c ∈ z.cps.toList, c < 0x110000
theorem okS_app {a b : Str} (ha : okS a) (hb : okS b) : okS (a ++ b) := fun c hc => by
  have e : (a ++ b).cps.toList = a.cps.toList ++ b.cps.toList := TL.tl_append a b
  rw [e] at hc
  rcases List.mem_append.mp hc with z | z
  · exact ha c z
  · exact hb c z
theorem okS_nm {z : Str} (h : nmS z = true) : okS z := fun c hc => by
  have := nm_ok h
  unfold PyData.strOk at this
  rw [← Array.all_toList] at this
  exact of_decide_eq_true (List.all_eq_true.mp this c hc)
theorem strOk_of {z : Str} (h : okS z) : PyData.strOk z = true := by
  unfold PyData.strOk
  rw [← Array.all_toList]
  exact List.all_eq_true.mpr fun c hc => decide_eq_true (h c hc)
theorem sb_any {z : Str} {l : Nat} (h : okS z) (hl : z.length ≤ l) : SB 1 (10 * l + 2) (.str z) := by
  refine ⟨rfl, rfl, by rw [PyData.depth]; omega, ?_⟩
  have := StrLaws.reprText_len z fun c hc => Nat.lt_of_lt_of_le (h c hc) (by decide)
  rw [PyData.shown]
  omega
theorem okS_lit {s : String} (h : ((Str.ofString s).cps.toList.all fun c => decide (c < 0x110000)) = true) : okS (Str.ofString s) := fun c hc => of_decide_eq_true (List.all_eq_true.mp h c hc)
end Ks
set_option Elab.async false
set_option linter.all false
set_option maxRecDepth 100000
set_option maxHeartbeats 4000000
namespace Ks
open PySem PySem.Spec PyProof.Rows L2 Gd Kx
theorem okS_ns (n : Nat) : okS (nsS n) := fun c hc => by
  rw [PySem.W.KIN.signs_num] at hc
  obtain ⟨d, hd, rfl⟩ := List.mem_map.mp hc
  have := d.valid
  unfold Nat.isValidChar at this
  show d.toNat < 0x110000
  rcases this with h | h
  · exact Nat.lt_trans h (by decide)
  · exact h.2
theorem sb_nat {n : Nat} (h : n < 10 ^ 31) : SB 1 31 (.int ((n : Nat) : Int)) := by
  refine ⟨?_, rfl, by rw [PyData.depth]; omega, ?_⟩
  · rw [PyData.showable]
    exact decide_eq_true (log_ok h)
  · rw [PyData.shown]
    exact nsS_len (by decide) h
theorem sb_ns {l : List Nat} (h : ∀ k ∈ l, k < 10 ^ 31) (hl : l.length ≤ 3) : SB 3 102 (dNs l) :=
  sb_tup (n := 1) (b := 31) (c := 3) (fun d hd => by obtain ⟨k, hk, rfl⟩ := List.mem_map.mp hd; exact sb_nat (h k hk)) (by rw [List.length_map]; exact hl)
theorem sb_rn {r : Rn} (h : nmS r.1 = true) (hl : r.2.length ≤ 3) (hk : ∀ k ∈ r.2, k < 10 ^ 31) : SB 5 211 (dRn r) := by
  refine (sb_tup (n := 3) (b := 102) (c := 2) (ds := [.str r.1, dNs r.2]) ?_ (Nat.le_refl 2)).mono (by decide) (by decide)
  intro d hd
  simp only [List.mem_cons, List.not_mem_nil, or_false] at hd
  rcases hd with rfl | rfl
  · exact (sb_nm h).mono (by decide) (by decide)
  · exact sb_ns hk hl
theorem codes_sb {m : Md} (g : Good m) {D : List Tr} (o : Ord D) (ok : ∀ u ∈ D, u.Ok m) (l : D.length ≤ 200) : SB 7 42603 (dRns (codes D)) := by
  refine sb_tup (n := 5) (b := 211) (c := 200) (fun d hd => ?_) (by rw [List.length_map, codes_len]; exact l)
  obtain ⟨r, hr, rfl⟩ := List.mem_map.mp hd
  obtain ⟨u, hu, rfl⟩ := List.mem_map.mp hr
  refine sb_rn (g.rn _ (Tr.ok_iff.mp (ok u hu)).1) ?_ fun k hk => ?_
  · show (u.kids.map _).length ≤ 3
    rw [List.length_map]
    exact u.kids3
  · obtain ⟨c, hc, rfl⟩ := List.mem_map.mp hk
    exact Nat.lt_of_lt_of_le (List.idxOf_lt_length_of_mem (o.mem hu hc)) (Nat.le_trans l (by decide))
theorem okS_rpT {m : Md} (g : Good m) {t : Tr} (ok : t.Ok m) : okS (rpT t) :=
  okS_app (okS_app (okS_app (okS_app (okS_app (fun c hc => by cases hc) (okS_lit (by decide +kernel))) (okS_nm (g.rn _ (Tr.ok_iff.mp ok).1))) (okS_lit (by decide +kernel))) (okS_ns _)) (okS_lit (by decide +kernel))
theorem sb_rpT {m : Md} (g : Good m) {t : Tr} (ok : t.Ok m) (hz : t.size < 10 ^ 31) : SB 1 522 (.str (rpT t)) := by
  refine sb_any (l := 52) (okS_rpT g ok) ?_
  have l1 : (Str.ofString "Tree(").length = 5 := by decide +kernel
  have l2 : (Str.ofString ", size ").length = 7 := by decide +kernel
  have l3 : (Str.ofString ")").length = 1 := by decide +kernel
  have l0 : Str.empty.length = 0 := rfl
  have ln := (nm_len (g.rn _ (Tr.ok_iff.mp ok).1)).2
  have lz : (nsS t.size).length ≤ 31 := nsS_len (by decide) hz
  have lz' : (Str.ofString (toString ((t.size : Nat) : Int))).length ≤ 31 := lz
  have ap := fun x y : Str => Str.length_append x y
  unfold rpT
  rw [ap, ap, ap, ap, ap, l0, l1, l2, l3]
  omega
end Ks
set_option Elab.async false
set_option linter.all false
set_option maxRecDepth 100000
set_option maxHeartbeats 4000000
namespace Ks
open PySem PySem.Spec PyProof.Rows L2 Gd Kx
/-! ### a tree put in: its size, how many trees it has, the way to it -/
theorem mem_subS {t d : Tr} : d ∈ sub t ↔ d ∈ t.post := by
  unfold sub
  rw [mem_addAll]
  simp
theorem mem_postK {t d : Tr} : d ∈ t.post ↔ d = t ∨ ∃ c ∈ t.kids, d ∈ c.post := by
  cases t <;> simp [Tr.post, Tr.kids] <;> grind
theorem putT_sub {c : Tr} : ∀ {xs : List V} {t u : Tr}, walk t xs = some u → ∃ L : List Tr, L.length ≤ xs.length ∧ ∀ d ∈ (putT t xs c).post, d ∈ t.post ∨ d ∈ c.post ∨ d ∈ L
  | [], t, u, _ => ⟨[], Nat.le_refl _, fun d hd => .inr (.inl hd)⟩
  | v :: r, t, u, h => by
    obtain ⟨s, e, h'⟩ := walk_cons h
    obtain ⟨L, hl, hL⟩ := putT_sub (c := c) h'
    have ep : putT t (v :: r) c = setK t v (putT s r c) := by
      show (match stepT t v with | some s => setK t v (putT s r c) | none => t) = _
      rw [e]
    rw [ep]
    have hs : s ∈ t.kids := by
      cases v with
      | int n =>
        have e' : (if 0 ≤ n then t.kids[n.toNat]? else none) = some s := e
        by_cases h0 : 0 ≤ n
        · rw [if_pos h0] at e'
          exact List.mem_of_getElem? e'
        · rw [if_neg h0] at e'
          cases e'
      | _ => cases e
    refine ⟨setK t v (putT s r c) :: L, by simpa using hl, fun d hd => ?_⟩
    rcases mem_postK.mp hd with rfl | ⟨k, hk, hd⟩
    · exact .inr (.inr (List.mem_cons_self ..))
    have kk : k ∈ t.kids ∨ k = putT s r c := by
      cases v with
      | int n =>
        have e1 : (setK t (.int n) (putT s r c)).kids = t.kids.set n.toNat (putT s r c) := by
          show (Tr.mk t.row (t.kids.set n.toNat _)).kids = _
          exact Tr.mk_kids _ (by rw [List.length_set]; exact t.kids3)
        rw [e1] at hk
        exact List.mem_or_eq_of_mem_set hk
      | _ => cases e
    rcases kk with hk | rfl
    · exact .inl (mem_postK.mpr (.inr ⟨k, hk, hd⟩))
    · rcases hL d hd with z | z | z
      · exact .inl (mem_postK.mpr (.inr ⟨s, hs, z⟩))
      · exact .inr (.inl z)
      · exact .inr (.inr (List.mem_cons_of_mem _ z))
theorem putT_len {t u c : Tr} {xs : List V} (h : walk t xs = some u) : (sub (putT t xs c)).length ≤ (sub t).length + (sub c).length + xs.length := by
  obtain ⟨L, hl, hL⟩ := putT_sub (c := c) h
  have := (sub_nd (putT t xs c)).length_le_of_subset (l₂ := sub t ++ (sub c ++ L)) fun d hd => by
    rcases hL d (mem_subS.mp hd) with z | z | z
    · exact List.mem_append_left _ (mem_subS.mpr z)
    · exact List.mem_append_right _ (List.mem_append_left _ (mem_subS.mpr z))
    · exact List.mem_append_right _ (List.mem_append_right _ z)
  rw [List.length_append, List.length_append] at this
  omega
theorem sum_set {l : List Nat} {i a b : Nat} (h : l[i]? = some a) : (l.set i b).sum + a = l.sum + b := by
  induction l generalizing i with
  | nil => simp at h
  | cons x l ih =>
    cases i with
    | zero =>
      cases h
      simp
      omega
    | succ i =>
      have := ih (i := i) (by simpa using h)
      simp
      omega
theorem putT_size {c : Tr} : ∀ {xs : List V} {t u : Tr}, walk t xs = some u → (putT t xs c).size + u.size = t.size + c.size
  | [], t, u, h => by
    cases h
    show c.size + t.size = _
    omega
  | v :: r, t, u, h => by
    obtain ⟨s, e, h'⟩ := walk_cons h
    have ih := putT_size (c := c) h'
    have ep : putT t (v :: r) c = setK t v (putT s r c) := by
      show (match stepT t v with | some s => setK t v (putT s r c) | none => t) = _
      rw [e]
    rw [ep]
    cases v with
    | int n =>
      have e' : (if 0 ≤ n then t.kids[n.toNat]? else none) = some s := e
      by_cases h0 : 0 ≤ n
      · rw [if_pos h0] at e'
        have e1 : (setK t (.int n) (putT s r c)).kids = t.kids.set n.toNat (putT s r c) := by
          show (Tr.mk t.row (t.kids.set n.toNat _)).kids = _
          exact Tr.mk_kids _ (by rw [List.length_set]; exact t.kids3)
        have e2 := sum_set (l := t.kids.map Tr.size) (i := n.toNat) (a := s.size) (b := (putT s r c).size) (by rw [List.getElem?_map, e']; rfl)
        rw [← List.map_set, ← e1] at e2
        have e3 := Tr.size_eq (setK t (.int n) (putT s r c))
        have e4 := Tr.size_eq t
        omega
      · rw [if_neg h0] at e'
        cases e'
    | _ => cases e
theorem walk_put {c : Tr} : ∀ {xs : List V} {t u : Tr}, walk t xs = some u → walk (putT t xs c) xs = some c
  | [], t, u, _ => rfl
  | v :: r, t, u, h => by
    obtain ⟨s, e, h'⟩ := walk_cons h
    have ih := walk_put (c := c) h'
    have ep : putT t (v :: r) c = setK t v (putT s r c) := by
      show (match stepT t v with | some s => setK t v (putT s r c) | none => t) = _
      rw [e]
    rw [ep]
    have es : stepT (setK t v (putT s r c)) v = some (putT s r c) := by
      cases v with
      | int n =>
        have e' : (if 0 ≤ n then t.kids[n.toNat]? else none) = some s := e
        show (if 0 ≤ n then (setK t (.int n) (putT s r c)).kids[n.toNat]? else none) = _
        by_cases h0 : 0 ≤ n
        · rw [if_pos h0] at e' ⊢
          have e1 : (setK t (.int n) (putT s r c)).kids = t.kids.set n.toNat (putT s r c) := by
            show (Tr.mk t.row (t.kids.set n.toNat _)).kids = _
            exact Tr.mk_kids _ (by rw [List.length_set]; exact t.kids3)
          rw [e1, List.getElem?_set_self (List.getElem?_eq_some_iff.mp e').1]
        · rw [if_neg h0] at e'
          cases e'
      | _ => cases e
    show (stepT _ v).bind (fun d => walk d r) = _
    rw [es]
    exact ih
/-! ### the trees of rows: how many, how great -/
theorem bld_post {m : Md} {rs : List Rn} {ts : List Tr} (b : Bld m rs ts) : ∀ (i : Nat) (t : Tr), ts[i]? = some t → ∀ d ∈ t.post, d ∈ ts.take (i + 1) := fun i => by
  induction i using Nat.strongRecOn with
  | ind i ih =>
    intro t h d hd
    rcases mem_postK.mp hd with rfl | ⟨c, hc, hd⟩
    · exact List.mem_of_getElem? (i := i) (by rw [List.getElem?_take, if_pos (by omega), h])
    · obtain ⟨j, hj, e⟩ := List.getElem_of_mem (bld_kids b h c hc)
      rw [List.length_take] at hj
      rw [List.getElem_take] at e
      have ej : ts[j]? = some c := by rw [List.getElem?_eq_getElem (by omega), e]
      have := ih j (by omega) c ej d hd
      obtain ⟨k, hk, ek⟩ := List.getElem_of_mem this
      rw [List.length_take] at hk
      rw [List.getElem_take] at ek
      exact List.mem_of_getElem? (i := k) (by rw [List.getElem?_take, if_pos (by omega), List.getElem?_eq_getElem (by omega), ek])
theorem bld_sub {m : Md} {rs : List Rn} {ts : List Tr} (b : Bld m rs ts) {i : Nat} {t : Tr} (h : ts[i]? = some t) : (sub t).length ≤ ts.length :=
  (sub_nd t).length_le_of_subset fun d hd => List.mem_of_mem_take (bld_post b i t h d (mem_subS.mp hd))
theorem bld_size {m : Md} {rs : List Rn} {ts : List Tr} (b : Bld m rs ts) : ∀ (i : Nat) (t : Tr), ts[i]? = some t → 2 * t.size + 1 ≤ 3 ^ (i + 1) := fun i => by
  induction i using Nat.strongRecOn with
  | ind i ih =>
    intro t h
    have key : ∀ c ∈ t.kids, 2 * c.size + 1 ≤ 3 ^ i := fun c hc => by
      obtain ⟨j, hj, e⟩ := List.getElem_of_mem (bld_kids b h c hc)
      rw [List.length_take] at hj
      rw [List.getElem_take] at e
      have ej : ts[j]? = some c := by rw [List.getElem?_eq_getElem (by omega), e]
      exact Nat.le_trans (ih j (by omega) c ej) (Nat.pow_le_pow_right (by decide) (by omega))
    have p1 : 1 ≤ 3 ^ i := Nat.one_le_pow _ _ (by decide)
    have hsum : ∀ l : List Tr, (∀ c ∈ l, 2 * c.size + 1 ≤ 3 ^ i) → 2 * (l.map Tr.size).sum + l.length ≤ l.length * 3 ^ i := by
      intro l
      induction l with
      | nil => intro _; simp
      | cons x l ih =>
        intro hl
        have h1 := ih fun c hc => hl c (List.mem_cons_of_mem _ hc)
        have h2 := hl x (List.mem_cons_self ..)
        have e : (l.length + 1) * 3 ^ i = l.length * 3 ^ i + 3 ^ i := Nat.succ_mul _ _
        rw [List.map_cons, List.sum_cons, List.length_cons, e]
        omega
    have h3 := hsum t.kids key
    have h4 := t.kids3
    have h5 : t.kids.length * 3 ^ i + (3 - t.kids.length) * 3 ^ i = 3 * 3 ^ i := by rw [← Nat.add_mul]; congr 1; omega
    have h6 : (3 - t.kids.length) * 1 ≤ (3 - t.kids.length) * 3 ^ i := Nat.mul_le_mul_left _ p1
    have h7 := Tr.size_eq t
    rw [Nat.pow_succ]
    omega
theorem dep_size (t : Tr) : t.dep ≤ t.size := by
  induction t using Tr.ind with
  | h t ih => cases t <;> simp [Tr.dep, Tr.size, Tr.kids] at ih ⊢ <;> omega
theorem bld_small {m : Md} {rs : List Rn} {ts : List Tr} (b : Bld m rs ts) (l60 : rs.length ≤ 60) {i : Nat} {t : Tr} (h : ts[i]? = some t) : t.size < 10 ^ 31 ∧ t.dep < 10 ^ 31 := by
  have h1 := bld_size b i t h
  have hi := (List.getElem?_eq_some_iff.mp h).1
  have h2 : 3 ^ (i + 1) ≤ 3 ^ 60 := Nat.pow_le_pow_right (by decide) (by rw [← b.len] at hi; omega)
  have h3 : (3 : Nat) ^ 60 < 10 ^ 31 := by decide
  have := dep_size t
  omega
theorem sd_sb {t : Tr} (h1 : t.size < 10 ^ 31) (h2 : t.dep < 10 ^ 31) : (PyData.list [.int ((t.size : Nat) : Int), .int ((t.dep : Nat) : Int)]).showable = true ∧ (PyData.list [.int ((t.size : Nat) : Int), .int ((t.dep : Nat) : Int)]).hasDict = false ∧ (PyData.list [.int ((t.size : Nat) : Int), .int ((t.dep : Nat) : Int)]).depth ≤ 60 ∧ (PyData.list [.int ((t.size : Nat) : Int), .int ((t.dep : Nat) : Int)]).shown.length ≤ sizeLine := by
  have hs := sb_list (n := 1) (b := 31) (c := 2) (ds := [.int ((t.size : Nat) : Int), .int ((t.dep : Nat) : Int)]) (fun d hd => by
    simp only [List.mem_cons, List.not_mem_nil, or_false] at hd
    rcases hd with rfl | rfl
    · exact sb_nat h1
    · exact sb_nat h2) (Nat.le_refl 2)
  exact ⟨hs.sh, hs.nd, Nat.le_trans hs.dp (by decide), Nat.le_trans hs.ln (by rw [sizeLine_eq]; decide)⟩
/-- a tree of rows up to one of them -/
theorem bld_take {m : Md} {rs : List Rn} {ts : List Tr} (b : Bld m rs ts) (n : Nat) : Bld m (rs.take n) (ts.take n) where
  len := by rw [List.length_take, List.length_take, b.len]
  ok := fun t h => b.ok t (List.mem_of_mem_take h)
  at_ := fun i r t hr ht => by
    rw [List.getElem?_take] at hr ht
    by_cases hi : i < n
    · rw [if_pos hi] at hr ht
      obtain ⟨h1, h2, h3⟩ := b.at_ i r t hr ht
      refine ⟨h1, h2, fun j k c hj hc => ?_⟩
      obtain ⟨h4, h5⟩ := h3 j k c hj hc
      exact ⟨h4, by rw [List.getElem?_take, if_pos (by omega), h5]⟩
    · rw [if_neg hi] at hr
      cases hr
/-! ### how long a tree's text is -/
theorem rowS_len3 {r : Rn} (h : r.1.length ≤ 8) (l : r.2.length ≤ 3) (k : ∀ n ∈ r.2, n < 1000) : (rowS r).length ≤ 30 := by
  have l1 : (Str.ofString " ").length = 1 := by decide +kernel
  have a := StrLaws.join_length_le (Str.ofString " ") (r.1 :: r.2.map nsS)
  have b : ∀ l : List Nat, (∀ n ∈ l, n < 1000) → ((l.map nsS).map (·.length)).sum ≤ l.length * 3 := by
    intro l
    induction l with
    | nil => intro _; exact Nat.le_refl _
    | cons n r ih =>
      intro h
      have x := nsS_len (n := n) (k := 3) (by decide) (h n (List.mem_cons_self ..))
      have y := ih fun z hz => h z (List.mem_cons_of_mem _ hz)
      rw [List.map_cons, List.map_cons, List.sum_cons, List.length_cons, Nat.add_mul, Nat.one_mul]
      omega
  have c := b r.2 k
  unfold rowS
  rw [TL.join_eq]
  rw [l1, List.map_cons, List.sum_cons, List.length_cons, List.length_map] at a
  omega
theorem rowS_all {m : Md} (g : Good m) {t : Tr} (ok : t.Ok m) (l : (sub t).length ≤ 200) : ∀ q ∈ (codes (sub t)).map rowS, q.length ≤ 30 := fun q hq => by
  obtain ⟨r, hr, rfl⟩ := List.mem_map.mp hq
  have nm := codes_nm g (sub_ok ok) r hr
  refine rowS_len3 (nm_len nm).2 ?_ fun n hn => by have := codes_lt t r hr n hn; omega
  obtain ⟨u, hu, rfl⟩ := List.mem_map.mp hr
  show (u.kids.map _).length ≤ 3
  rw [List.length_map]
  exact u.kids3
theorem stT_len {m : Md} (g : Good m) {t : Tr} (ok : t.Ok m) (l : (sub t).length ≤ 200) : (stT t).length ≤ 100000 := by
  have l2 : (Str.ofString "; ").length = 2 := by decide +kernel
  have a := StrLaws.join_length_le (Str.ofString "; ") ((codes (sub t)).map rowS)
  have b : ∀ ps : List Str, (∀ q ∈ ps, q.length ≤ 30) → (ps.map (·.length)).sum ≤ ps.length * 30 := by
    intro ps
    induction ps with
    | nil => intro _; exact Nat.le_refl _
    | cons q r ih =>
      intro h
      have x := h q (List.mem_cons_self ..)
      have y := ih fun z hz => h z (List.mem_cons_of_mem _ hz)
      rw [List.map_cons, List.sum_cons, List.length_cons, Nat.add_mul, Nat.one_mul]
      omega
  have c := b _ (rowS_all g ok l)
  unfold stT
  rw [TL.join_eq]
  rw [l2] at a
  rw [List.length_map, codes_len] at a c
  omega
theorem stT_cut {m : Md} (g : Good m) {t : Tr} (ok : t.Ok m) (l : (sub t).length ≤ 200) : ∀ q ∈ cutS (stT t) "; ", q.length ≤ 900 := fun q hq => by
  rw [cut_stT g ok] at hq
  have := rowS_all g ok l q hq
  omega
theorem text_of {m : Md} (g : Good m) {t u : Tr} (ok : t.Ok m) (ok' : u.Ok m) (l : (sub t).length ≤ 200) (l' : (sub u).length ≤ 200) (e : stT u = stT t) : u = t := text_inj g ok' ok l' l e
end Ks
set_option Elab.async false
set_option linter.all false
set_option maxRecDepth 100000
set_option maxHeartbeats 4000000
/-! a tuple once, not at all; a tuple against an empty one -/
namespace L2
open PySem PySem.Spec PyProof.Rows
theorem tuple_mul1 (l : Addr) (items : Array Value) (n : Nat) (dd : Option Addr) (sl : Array (Option Value)) (u : Tok) :
    Meets (Builtin.«tuple.__mul__» ⟨[.ref l, .int 1 u], []⟩) (fun _ R s => s.heap.get? l = some { cls := .type "tuple", dict := dd, data := .seq items n, slots := sl } ∧ R (.ok (.ret (Value.ref l))) s) :=
  .of_wp fun prog w A R s h => by
    obtain ⟨hp, g, d, tk, os⟩ := s
    obtain ⟨hl, h⟩ := h
    have f1 := AutoSeq1.idx_int
    have c1 : (items.isEmpty || (1 : Int) == 1) = true := by simp
    wp_walk using wpAny_loadPart' hl
    repeat (first
      | (refine wpAny_ite_true (by simp) ?_; wp_walk using wpAny_loadPart' hl)
      | (refine wpAny_ite_false (by decide) ?_; wp_walk using wpAny_loadPart' hl))
    exact ⟨_, rfl, h⟩
theorem tuple_mul0 (l : Addr) (items : Array Value) (n : Nat) (dd : Option Addr) (sl : Array (Option Value)) (u : Tok) (c1 : items.isEmpty = false) :
    Meets (Builtin.«tuple.__mul__» ⟨[.ref l, .int 0 u], []⟩) (fun _ R s => s.heap.get? l = some { cls := .type "tuple", dict := dd, data := .seq items n, slots := sl } ∧
      R (.ok (.ret (Value.ref s.heap.objs.size))) { s with heap := s.heap.push { cls := Value.type "tuple", data := Data.seq #[] }, toks := s.toks }) :=
  .of_wp fun prog w A R s h => by
    obtain ⟨hp, g, d, tk, os⟩ := s
    obtain ⟨hl, h⟩ := h
    have f1 := AutoSeq1.idx_int
    wp_walk using wpAny_loadPart' hl
    repeat (first
      | (refine wpAny_ite_false (by rw [c1]; decide) ?_; wp_walk using wpAny_loadPart' hl)
      | (refine wpAny_ite_true (by simp) ?_; wp_walk using wpAny_loadPart' hl)
      | (refine wpAny_ite_false (by decide) ?_; wp_walk using wpAny_loadPart' hl))
    exact ⟨_, rfl, h⟩
def rRepA (K : PySem.W.Frag) : R2 := fun x y H Q => ∃ (l : Addr) (k : Nat) (xs : List V), x = .ref l ∧ y = .int ((k : Nat) : Int) ∧ SqT K H l xs ∧ xs ≠ [] ∧ k ≤ 1000 ∧ xs.length ≤ 1000 ∧ (k = 1 → Q (.ref l) H) ∧ (k ≠ 1 → ∀ p, H p = none → Q (.ref p) (upd H p (.tup (List.replicate k xs).flatten)))
section
variable {X : Cx}
theorem op_repA : OpR X (binaryOp .Mult) (rRepA X.K) := by
  intro pins s σ H x y v u Q I rx ry h
  obtain ⟨l, k, xs, rfl, rfl, hT, hne, h1, hz, q1, q⟩ := h
  match k, h1, q1, q, ry with
  | 0, _, _, q, ry =>
    cases rx
    obtain ⟨t, rfl⟩ := ry
    obtain ⟨its, r, ⟨⟨cls, dd, data, sl⟩, ho, hc, n, hd⟩, hs⟩ := I.tuple hT
    simp only at hc hd
    subst hc hd
    have hle : its.length = xs.length := r.length.symm
    have hi : its.toArray.isEmpty = false := by
      cases its with
      | nil => exact absurd (List.eq_nil_of_length_eq_zero hle.symm) hne
      | cons a b => rfl
    refine wpAny_binaryOp_repeat_ref (T := "tuple") (U := "int") (by decide) ⟨_, ho, rfl⟩ (fun s' => typeIs_int s' ((0 : Nat) : Int) t) noFill_tuple_mul F.fills_int_mul F.slot_int_rmul repeat_tuple F.slot_int_index.lookup
      (call_meets F.slot_int_rmul (typeIs_int s ((0 : Nat) : Int) t) F.entry_int_rmul (F.args_int_rmul_2 _ _) (int_rmul_tuple ((0 : Nat) : Int) t l its.toArray n dd sl)
        ⟨ho, rfl, ⟨_, ho, rfl⟩, call_meets F.slot_tuple_mul ⟨_, ho, rfl⟩ F.entry_tuple_mul (F.args_tuple_mul_2 _ _) (tuple_mul0 l its.toArray n dd sl t hi) ⟨ho, ?_⟩⟩)
    refine ⟨.ref s.heap.objs.size, _, I.laid (t' := s.toks) (o := .tup []) (fun b ob q => Heap.get?_push_of_some _ q) (Nat.le_refl _) ?_, rfl, q (by decide) _ (I.hok.fresh (Nat.le_refl _))⟩
    exact ⟨Nat.zero_le _, _, .nil, IsTup.new _ _⟩
  | 1, _, q1, _, ry =>
    cases rx
    obtain ⟨t, rfl⟩ := ry
    obtain ⟨its, r, ⟨⟨cls, dd, data, sl⟩, ho, hc, n, hd⟩, hs⟩ := I.tuple hT
    simp only at hc hd
    subst hc hd
    refine wpAny_binaryOp_repeat_ref (T := "tuple") (U := "int") (by decide) ⟨_, ho, rfl⟩ (fun s' => typeIs_int s' ((1 : Nat) : Int) t) noFill_tuple_mul F.fills_int_mul F.slot_int_rmul repeat_tuple F.slot_int_index.lookup
      (call_meets F.slot_int_rmul (typeIs_int s ((1 : Nat) : Int) t) F.entry_int_rmul (F.args_int_rmul_2 _ _) (int_rmul_tuple ((1 : Nat) : Int) t l its.toArray n dd sl)
        ⟨ho, rfl, ⟨_, ho, rfl⟩, call_meets F.slot_tuple_mul ⟨_, ho, rfl⟩ F.entry_tuple_mul (F.args_tuple_mul_2 _ _) (tuple_mul1 l its.toArray n dd sl t) ⟨ho, ?_⟩⟩)
    exact ⟨.ref l, H, I, rfl, q1 rfl⟩
  | k + 2, h1, _, q, ry =>
    refine op_repT pins s σ H (.ref l) _ v u Q I rx ry ⟨l, ((k + 2 : Nat) : Int), xs, rfl, rfl, hT, hne, by omega, by omega, hz, fun p np => ?_⟩
    have := q (by omega) p np
    rwa [Int.toNat_natCast]
/-- a tuple against an empty one -/
def rNeU : R2 := fun x y H Q => ∃ (a b : Addr) (xs : List V), x = .ref a ∧ y = .ref b ∧ H a = some (.tup xs) ∧ H b = some (.tup []) ∧ Q (.bl (!xs.isEmpty)) H
theorem op_neU (hu : X.A.units + 64 < cLine) : OpR X (compareOp .NotEq) rNeU := by
  intro pins s σ H x y v u Q I rx ry h
  obtain ⟨a, b, xs, rfl, rfl, ha, hb, q⟩ := h
  obtain rfl : v = Value.ref a := rx
  obtain rfl : u = Value.ref b := ry
  obtain ⟨i, r1, p1, _⟩ := I.tuple (SqT.of (K := X.K) ha)
  obtain ⟨j, r2, p2, _⟩ := I.tuple (SqT.of (K := X.K) hb)
  cases r2
  have h := PySem.SeqAt.RcNeAt.tuples (A := X.A) (s := s) (e := fun _ => true) (show s.heap.IsTuple a i.toArray from p1) (show s.heap.IsTuple b (#[] : Array Value) from p2) (by omega) (fun k h1 h2 => absurd h2 (by simp))
  refine h X.prog X.w X.xe _ ?_
  have e : (!((List.range (min i.toArray.size (#[] : Array Value).size)).all (fun _ => true) && i.toArray.size == (#[] : Array Value).size)) = !xs.isEmpty := by
    have := r1.length
    cases xs with
    | nil =>
      have : i = [] := List.eq_nil_of_length_eq_zero (by simpa using this.symm)
      subst this
      rfl
    | cons x xs =>
      have e0 : i.toArray.size = xs.length + 1 := by rw [List.size_toArray, ← this]; rfl
      rw [e0]
      simp
  exact ⟨.bl (!xs.isEmpty), H, I, by rw [e]; rfl, q⟩
end
end L2
set_option Elab.async false
set_option linter.all false
set_option maxRecDepth 100000
set_option maxHeartbeats 4000000
/-! x[i], x an instance of a class of one's own -/
namespace Gd
open PySem PySem.Spec PyProof.Rows L2
section
variable {X : Cx} {CX : CXT} {k : Nat} {C f : Addr} {fd : FuncData} {ps : List Str} {sp : Sp} {E : XK} {a b : Expr} {ta tb : TE} {pos : Pos}
def rIxO (C : Addr) (sp : Sp) (E : XK) : R2 := fun x y H Q => ∃ a dx fs, x = .ref a ∧ H a = some (.ins C dx fs) ∧ sp [.ref a, y] H Q E
theorem pe_ixO (ha : PE X a ta) (hb : PE X b tb) (D : Dm X.K C "__getitem__" f) (hfn : PySem.W.fnIn X.K f = true) (F : FnOk X.prog X.w X.K X.mg X.base CX k f fd ps sp) (hr : Room (k + 1) X.A) (hbd : Binds X.K fd ps []) (hx : Passes CX X E)
    (hs : ∀ v u, subscripted b true v u = runValue (.builtin "lifetime.subscript" ⟨[v, u], []⟩) := by intro _ _; with_unfolding_all rfl) : PE X (.Subscript a b pos) (tOp (rIxO C sp E) ta tb) := by
  refine ⟨fun pins s σ H Q I h => ?_⟩
  refine Subscript_ (binT ha hb I h fun v u s2 x y H2 I2 rx ry q => ?_)
  obtain ⟨o, dx, fs, rfl, eo, q⟩ := q
  obtain rfl : v = Value.ref o := rx
  obtain ⟨mA, J, _⟩ := ins_get I2.hok eo
  obtain ⟨od, J, _⟩ := J.look
  obtain ⟨m, hF⟩ := I2.fr
  have rv : Vals [V.ref o, y] [Value.ref o, u] := .cons (show RelV (V.ref o) (Value.ref o) from rfl) (.cons ry .nil)
  have hl : ([Value.ref o, u] ++ ([] : List Value)).length = ps.length := by rw [List.append_nil, ← rv.length]; exact F.len _ _ _ _ q
  have hB := hbd s2 [.ref o, u] I2.kIn hl
  rw [List.append_nil] at hB
  refine PySem.W.sub_K hF I2.ok.mod.kin J D.at_ hfn D.fn (wpAny_call (codeAny_mono (F.run X.A.in1 X.stack s2 H2 ⟨[.ref o, u], []⟩ [.ref o, u] [.ref o, y] Q E hr.in1 I2.env0.in1 hB rv q) fun r s' hq => ?_)) (hs _ _)
  cases r with
  | error er => exact hx pins σ H2 s2 er s' I2 hq
  | ok fl =>
    cases fl with
    | ret u => exact I2.after hq
    | next => exact False.elim hq
    | brk => exact False.elim hq
    | cont => exact False.elim hq
end
theorem fnIn_of {K : PySem.W.Frag} {x q : Str} {st : Stmt} {f : Addr} {fd : FuncData} (lk : ∃ (oc od osl : _) (F : FuncData), K.lookup f = some ⟨oc, od, .func F, osl⟩) : PySem.W.fnIn K f = true := by
  obtain ⟨oc, od, osl, F, lk⟩ := lk
  unfold PySem.W.fnIn
  rw [lk]
end Gd
set_option Elab.async false
set_option linter.all false
set_option maxRecDepth 100000
set_option maxHeartbeats 4000000
namespace Ks
open PySem PySem.Spec PyProof.Rows L2 Gd Kx
section
variable {P : Program} {w : World} {K : PySem.W.Frag} {mg : Str → Option Value} {base : Heap} {CT CS IR : Addr}
/-- the trees of a bundle of rows, right or not -/
def spOfrX (CT CS IR : Addr) : Sp := fun vs H Q E => ∃ (s R : Addr) (m : Md) (rs : List Ro), vs = [.ref CT, .ref s, .ref R] ∧ ScAt CS H s m ∧ Good m ∧ RwsO H R rs ∧ rs.length < sizeLine ∧ (∀ r ∈ rs, r.2.length ≤ 1000) ∧
  (¬ (1 ≤ rs.length ∧ rs.length ≤ 200 ∧ okTo m rs rs.length) → ∀ v d H', Same H H' → H' d = some (.xd [("index", v)]) → E (.ref IR) (some d) H') ∧
  ∀ (rs' : List Rn) (ts : List Tr) (t : Tr), rs = rs'.map liftR → 1 ≤ rs'.length → rs'.length ≤ 200 → Bld m rs' ts → ts[rs'.length - 1]? = some t → ∀ a H', Same H H' → TrAt CT CS m H' a t → Q (.ref a) H'
theorem rwsT_of {H : Hp} {R : Addr} {rs : List Rn} (h : RwsO H R (rs.map liftR)) : RwsT H R rs := by
  obtain ⟨xs, e, p⟩ := h
  refine ⟨xs, e, ?_⟩
  clear e
  induction rs generalizing xs with
  | nil =>
    cases p
    exact .nil
  | cons r rs ih =>
    cases p with
    | cons h t =>
      obtain ⟨b, q, e1, e2, e3⟩ := h
      refine .cons ⟨b, q, e1, e2, ?_⟩ (ih _ t)
      rw [e3]
      show some (HO.tup ((r.2.map some).map oN)) = some (HO.tup (r.2.map _))
      rw [List.map_map]
      rfl
set_option maxHeartbeats 8000000 in
theorem ok_ofrX {f fi fk fr : Addr} {fd fdk fdr : FuncData} (F : Fun K "of_rows" "Tree.of_rows" (cT 1) f fd) (T : TS0 mg)
    (Mt : Mk K CT fi) (FI : FnR P w K mg base CX0 5 fi (spMk CT CS))
    (GK : FnOk P w K mg base CX0 1 fk fdk ["schema"] (spChk CS)) (kk : PySem.W.keepIn K (.ref fk) = true) (bK : Binds K fdk ["schema"] []) (gK : mg "check_schema" = some (.ref fk))
    (GR : FnOk P w K mg base (L2N.CX P w) 5 fr fdr ["schema", "rows"] (spCrwO CS IR)) (kr : PySem.W.keepIn K (.ref fr) = true) (bR : Binds K fdr ["schema", "rows"] []) (gR : mg "check_rows" = some (.ref fr)) :
    FnOk P w K mg base (L2N.CX P w) 7 f fd ["cls", "schema", "rows"] (spOfrX CT CS IR) := by
  refine okXN F scOfr (fun vs H Q E h => ?_) (fun cv A ou s H vs Q E hr h => ?_)
  · obtain ⟨s, R, m, rs, rfl, _⟩ := h
    rfl
  obtain ⟨sa, R, m, ro, rfl, hs, g, hRO, lz, l1000, qE, qQ⟩ := h
  have hr1 : Room 1 (A.deeper (envOfC "Tree.of_rows" (defScope (cT 1)) s.heap.objs.size f cv)) := hr.mono (by decide)
  have hr5 : Room 5 (A.deeper (envOfC "Tree.of_rows" (defScope (cT 1)) s.heap.objs.size f cv)) := hr.mono (by decide)
  refine ⟨_, pss_cons (ps_expr (pe_call GK hr1 (by rfl) gK kk bK .nil pass0 (pa_cons (pv 1) pa_nil)))
    (pss_cons (ps_expr (pe_call GR hr5 (by rfl) gR kr bR .nil (L2N.passes_call (L2N.takes_of rfl rfl rfl rfl) (fun _ _ _ _ h => h)) (pa_cons (pv 1) (pa_cons (pv 2) pa_nil))))
    (pss_cons (ps_set (i := 3) scOfr.nd rfl (.inr rfl) (pe_lst pa_nil))
    (pss_cons (ps_for PassesOwn.leaving rfl (pi_tup (pv 2)) (pg_tup rfl (pgs_cons (pg_name (i := 4) scOfr.nd rfl (.inl rfl)) (pgs_cons (pg_name (i := 5) scOfr.nd rfl (.inl rfl)) pgs_nil)))
      (pss_cons (ps_setLc (i := 6) (own := [("number", 7)]) (g := gName 7) (tt := tYes) (by rfl) scOfr.nd rfl rfl (sw_true rfl rfl rfl (by decide +kernel)) (pi_tup (pv 5)) (blkOk_by (own := [("number", 7)]) (N := nOfr) (sc := defScope (cT 1)) (by decide +kernel))
          (fun _ _ _ _ _ => pg_name (i := 7) scOfr.nd rfl (Or.inl rfl)) (fun _ _ _ _ _ => pts_nil) (fun _ _ _ _ _ => asTE (te := tOp (rIxL K) (tVar 3) (tVar 7)) (pe_ix ix_list (pv 3) (pv 7) (fun _ _ => rfl)) rfl))
      (pss_one (ps_expr (pe_bm PySem.F.plainAttrs_list PySem.F.slot_list_append PySem.F.type_list_append mt_append (pv 3) (pa_cons (pe_makeVS (pv 0) Mt FI hr pass0 (pa_cons (pv 1) (pa_cons (pv 4) (StX.pa_star (pv 6) pa_nil)))) pa_nil))))))
    (pss_one (ps_ret (pe_ix ix_list (pv 3) (pe_un un_neg pe_int) (fun _ _ => rfl))))))), ?_⟩
  refine ⟨.ref sa, rfl, sa, m, rfl, hs, .ref sa, rfl, .ref R, rfl, sa, R, m, ro, rfl, hs, g, hRO, lz, l1000, fun hb d H' s e => qE (fun h => hb ⟨h.1, h.2.1⟩) _ d H' s e, fun r1 r200 => ⟨fun i r er gd hb d H' s e => qE (fun h => by
    have := h.2.2 i r (List.getElem?_eq_some_iff.mp er).1 er
    rw [hb] at this
    cases this) _ d H' s e, fun hok H1 s1 => ?_⟩⟩
  obtain ⟨rs, ts, e0, bd⟩ := ok_bld g hok ro.length (Nat.le_refl _)
  rw [List.take_length] at e0
  subst e0
  rw [List.length_map] at r1 r200
  have hR : RwsT H R rs := rwsT_of hRO
  obtain ⟨t, hlast⟩ : ∃ t, ts[rs.length - 1]? = some t := ⟨_, List.getElem?_eq_getElem (by rw [← bd.len]; omega)⟩
  have q := qQ rs ts t rfl r1 r200 bd hlast
  obtain ⟨xs, eR, pR⟩ := id hR
  have lx : xs.length = rs.length := Paired.length pR
  refine ⟨(by show 0 ≤ sizeLine; exact Nat.zero_le _), fun M nM => ?_⟩
  have sM := s1.trans (same_new (o := .lst []) nM)
  have nMH : H M = none := by
    cases z : H M with
    | none => rfl
    | some o => rw [s1 _ _ z] at nM; cases nM
  refine ⟨.ref R, rfl, R, rfl, ⟨_, SqT.of (sM _ _ eR)⟩, for_tup (K := K) (a := R) (xs := xs) (fun i σ H' => ∃ (o4 o5 o6 : Option V) (as : List Addr), σ = [some (.ref CT), some (.ref sa), some (.ref R), some (.ref M), o4, o5, o6, none] ∧ Same H H' ∧ H' M = some (.lst (as.map V.ref)) ∧ as.length = i ∧
      ∀ (j : Nat) (a : Addr) (u : Tr), as[j]? = some a → ts[j]? = some u → TrAt CT CS m H' a u) ⟨none, none, none, [], rfl, sM, upd_same, rfl, fun j a u e _ => by simp at e⟩ (fun i σ H' _ p => ?_) ?_ ?_⟩
  · obtain ⟨_, _, _, _, _, s2, _⟩ := p
    exact SqT.of (s2 _ _ eR)
  · rintro i x σ H2 hx ⟨o4, o5, o6, as, rfl, s2, eM, la, tt⟩
    obtain ⟨r, hr2, hrow⟩ := par_at pR hx
    have hi : i < rs.length := (List.getElem?_eq_some_iff.mp hr2).1
    have hit : i < ts.length := by rw [← bd.len]; exact hi
    obtain ⟨u, ht⟩ : ∃ u, ts[i]? = some u := ⟨_, List.getElem?_eq_getElem hit⟩
    obtain ⟨en, ln, kk⟩ := bd.at_ i r u hr2 ht
    have oku := bd.ok u (List.mem_of_getElem? ht)
    have k3 := u.kids3
    obtain ⟨b, q0, rfl, eb, eq0⟩ := RowN.keep hrow s2
    have lbs : (r.2.map fun n => as.getD n 0).length = r.2.length := List.length_map ..
    refine ⟨b, _, rfl, SqT.of eb, rfl, _, _, rfl, _, _, rfl, rfl, ?_⟩
    have get : ∀ (j n : Nat), r.2[j]? = some n → as[n]? = some (as.getD n 0) := fun j n e => by
      have hj : j < u.kids.length := by
        have := (List.getElem?_eq_some_iff.mp e).1
        omega
      obtain ⟨hn, _⟩ := kk j n _ e (List.getElem?_eq_getElem hj)
      have hl : n < as.length := by omega
      rw [List.getD_eq_getElem?_getD, List.getElem?_eq_getElem hl]
      rfl
    refine ⟨.ref q0, rfl, q0, rfl, ⟨_, SqT.of eq0⟩, fun D nD => lc_funT (K := K) (a := q0) (xs := nsV r.2) (ys := (r.2.map fun n => as.getD n 0).map V.ref) (fun _ => rfl) nD (SqT.of eq0) (by rw [nsV_len]; omega) (by rw [List.length_map, lbs, nsV_len]) (fun j y z H3 hy hz s3 pq => ?_) fun H3 s3 eD => ?_⟩
    · intro k
      unfold nsV at hy
      rw [List.getElem?_map] at hy hz
      rw [List.getElem?_map] at hz
      cases hn : r.2[j]? with
      | none => rw [hn] at hy; cases hy
      | some n =>
        rw [hn] at hy hz
        cases hy
        cases hz
        exact ⟨.ref M, rfl, .int ((n : Nat) : Int), rfl, M, _, _, _, rfl, rfl, SqL.of (s3 _ _ eM), atI_nat (by rw [List.getElem?_map, get j n hn]; rfl), k H3 fun _ _ e => e⟩
    have eM3 := s3 _ _ eM
    have s23 := s2.trans s3
    refine ⟨.ref M, rfl, .inl ⟨rfl, _, SqL.of eM3⟩, .ref CT, rfl, rfl, .ref sa, rfl, .str r.1, rfl, .ref D, rfl, D, _, rfl, .inr (SqL.of eD), fun y dy ny nd _ => ?_⟩
    have sb := mk_baseT (C := CT) ny nd
    have kid : Kids CT CS m H3 (r.2.map fun n => as.getD n 0) u.kids := ⟨by rw [lbs, ln], fun j a c ea ec => by
      rw [List.getElem?_map] at ea
      cases hn : r.2[j]? with
      | none => rw [hn] at ea; cases ea
      | some n =>
        rw [hn] at ea
        cases ea
        exact (tt n _ c (get j n hn) (kk j n c hn ec).2).keep s3⟩
    refine ⟨y, dy, sa, m, u, r.2.map fun n => as.getD n 0, by rw [List.append_nil, en], upd_same, (hs.keep s23).keep sb, g, oku, kid.keep sb, Nat.le_trans (bd.sub_len ht) (by omega), fun H4 bt ht4 => ⟨rfl, ?_⟩⟩
    have s4 := mk_sameT ny nd bt
    have eM4 := s4 _ _ eM3
    have n5 : Nl H4 (upd H4 M (.lst (as.map V.ref ++ [.ref y]))) := Nl.upd eM4
    refine ⟨M, _, _, rfl, rfl, eM4, by rw [List.length_map, la]; exact small1000 (by omega), _, _, _, as ++ [y], rfl, same_upd (s23.trans s4) nMH, by rw [upd_same, List.map_append]; rfl, by rw [List.length_append, la]; rfl, fun j a v ea ev => ?_⟩
    by_cases hj : j < i
    · rw [List.getElem?_append_left (by omega)] at ea
      exact ((tt j a v ea ev).keep (s3.trans s4)).nl n5
    · have hj2 : j = i := by
        have := (List.getElem?_eq_some_iff.mp ea).1
        rw [List.length_append, List.length_singleton] at this
        omega
      subst hj2
      rw [List.getElem?_append_right (by omega), la, Nat.sub_self] at ea
      cases ea
      rw [ht] at ev
      cases ev
      exact ht4.nl n5
  · rintro σ H2 ⟨o4, o5, o6, as, rfl, s2, eM, la, tt⟩
    have hl : rs.length - 1 < as.length := by omega
    have ea : as[rs.length - 1]? = some as[rs.length - 1] := List.getElem?_eq_getElem hl
    exact ⟨.ref M, rfl, _, rfl, M, _, _, .ref as[rs.length - 1], rfl, rfl, SqL.of eM, last_at (n := rs.length) (by rw [List.length_map, la, lx]) (by rw [List.getElem?_map, ea]; rfl), q _ H2 s2 (tt _ _ t ea hlast)⟩
end
end Ks
set_option Elab.async false
set_option linter.all false
set_option maxRecDepth 100000
set_option maxHeartbeats 4000000
/-! C.m(..), m a classmethod, what it lets out told at the slots where it is called -/
namespace Gd
open PySem PySem.Spec PyProof.Rows L2
abbrev WEN (W : WX) : L2.St → XK := fun σ cls d H => W cls d σ H
theorem passNAt {X : Cx} {W : WX} (tk : L2N.Takes X W) (σ : L2.St) : PassesAt (L2N.CX X.prog X.w) X σ (WEN W σ) := fun _ _ _ e s' I c => tk e s' (L2N.XE.of_call I (fun _ _ _ h => h) c)
def tCMethS (C : Addr) (sp : Sp) (E : L2.St → XK) (ta : TE) (t : TA) : TE := fun σ H Q => ta σ H fun x H1 => x = .ref C ∧ t σ H1 fun vs H2 => sp (.ref C :: vs) H2 Q (E σ)
section
variable {X : Cx} {CX : CXT} {k : Nat} {C p g : Addr} {mc : Value} {fd : FuncData} {ps : List Str} {sp : Sp} {E : L2.St → XK} {o e : Expr} {es : List Expr} {m : Str} {pos apos : Pos} {ta : TE} {t : TA} {pl : Sem Bool}
theorem pe_cmethS (he : PE X o ta) (r : ClX.CRead X.K C mc) (c : ClX.CMet X.K C mc m p g) (F : FnOk X.prog X.w X.K X.mg X.base CX k g fd ps sp) (hr : Room k X.A) (hb : Binds X.K fd ps []) (hx : ∀ σ, PassesAt CX X σ (E σ)) (ha : PA X (e :: es) t)
    (hst : starEach (e :: es) X.env = (false, eval e X.env) :: starEach es X.env := by rfl) (hpl : (backTo pos (starEach es X.env)).any (·.1) = false := by rfl)
    (ht : eval (.Call (.Attribute o m apos) (e :: es) [] pos) X.env = (do
      let ov ← eval o X.env
      standAt apos.atName
      let (f, first) ← holding [ov] (getMethod ov m pl)
      callWith pos f first (backTo pos (starEach (e :: es) X.env)) (backToKw pos (keywordEach [] X.env))) := by rfl) :
    PE X (.Call (.Attribute o m apos) (e :: es) [] pos) (tCMethS C sp E ta t) := by
  refine ⟨fun pins s σ H Q I h => ?_⟩
  refine PySem.W.methodCall_KW (pl := pl) (thn (he.run pins s σ H _ I h) fun u s1 ⟨x, H1, I1, rx, ex, q⟩ => ?_) ht
  subst ex
  obtain rfl : u = Value.ref C := rx
  refine ClX.getmethcm_ok I1 r c fun s2 I2 => ?_
  refine ClX.callwith_cm I2 (ClX.base_none I1 (Nat.le_refl _)) c.fi (thn (ha.run pos _ s2 σ H1 _ I2 q) fun us s3 ⟨vs, H2, I3, rv, q2⟩ => ⟨⟨ClX.pin_at I3, I3.kIn⟩, ?_⟩) hst hpl
  have r2 : Vals (V.ref C :: vs) (Value.ref C :: us) := .cons rfl rv
  have hl : (Value.ref C :: us).length = ps.length := by rw [← r2.length]; exact F.len _ _ _ _ q2
  have b := hb s3 (Value.ref C :: us) I3.kIn (by rw [List.append_nil]; exact hl)
  rw [List.append_nil] at b
  have z : wpAny (model X.prog X.w) X.A (call (.ref s1.heap.objs.size) us) (EP X ((s1.heap.objs.size, PySem.W.methodObj (.ref g) (.ref C)) :: pins) σ Q) X.xe s3 :=
    wpAny_call (PySem.W.method_call (ClX.pin_at I3) (codeAny_mono (F.run X.A X.stack s3 H2 ⟨Value.ref C :: us, []⟩ _ _ Q (E σ) hr I3.env0 b r2 q2) fun r s' hq => by
      cases r with
      | error e => exact hx σ _ H2 s3 e s' I3 hq
      | ok fl =>
        cases fl with
        | ret u => exact I3.after hq
        | next => exact False.elim hq
        | brk => exact False.elim hq
        | cont => exact False.elim hq))
  exact thn z fun _ _ y => ClX.unpinE y
end
end Gd
set_option Elab.async false
set_option linter.all false
set_option maxRecDepth 100000
set_option maxHeartbeats 4000000
namespace Ks
open PySem PySem.Spec PyProof.Rows L2 Gd Kx
/-! ### Tree.read -/
abbrev nRd : List Str := ["cls", "schema", "text", "rows", "tree"]
theorem scRd : FnScope nRd ["cls", "schema", "text"] (defScope (cT 2)) := ⟨rfl, rfl, rfl, by decide +kernel, rfl, by decide +kernel, by decide +kernel⟩
section
variable {P : Program} {w : World} {K : PySem.W.Frag} {mg : Str → Option Value} {base : Heap} {CT CS NS IR IT : Addr}
def spChkX (K : PySem.W.Frag) (CS NS : Addr) : Sp := fun vs H Q E => ∃ x, vs = [x] ∧ ((∃ (a : Addr) (m : Md), x = .ref a ∧ ScAt CS H a m ∧ Q .non H) ∨ (NotT K CS H x ∧ ∀ d H', Same H H' → H' d = some (.xd [("value", x)]) → E (.ref NS) (some d) H'))
theorem ok_chkX {f : Addr} {fd : FuncData} (F : Fun K "check_schema" "check_schema" sChk f fd) (mi : mg "isinstance" = none) (S : Sch P w K mg base CS) (O : One P w K mg base "NotASchema" "value" NS) (ty : PySem.W.typeIn K (.ref NS) = some (.type "type")) :
    FnOk P w K mg base (CX P w) 3 f fd ["schema"] (spChkX K CS NS) := by
  refine F.okX scChk (fun vs H Q E h => ?_) (fun cv A ou s H vs Q E hr h => ?_)
  · obtain ⟨x, rfl, _⟩ := h
    rfl
  obtain ⟨x, rfl, h⟩ := h
  refine ⟨_, pss_one (ps_if (pt_not (pt_val (pe_callB call_isi (by rfl) mi boot_isinstance (pa_cons (pv 0) (pa_cons (pe_glob (v := .ref CS) (by rfl) S.gl rfl) pa_nil))))) (pss_one (ps_raise rfl (takes_of rfl rfl rfl rfl) (pmk_one O ty hr (by rfl) (pv 0)))) pss_nil), ?_⟩
  rcases h with ⟨a, m, rfl, hs, q⟩ | ⟨⟨ty', tx, ek⟩, q⟩
  · refine ⟨.ref a, rfl, .ref a, .ref CS, _, .ref CS, true, rfl, .own CS, .base (hs.ty S.cl S.ci), ?_, _, rfl, iteF q⟩
    unfold PySem.W.kitOne
    rw [if_pos (beq_self_eq_true _)]
  · exact ⟨x, rfl, x, .ref CS, ty', .ref CS, false, rfl, .own CS, tx, ek, _, rfl, iteT ⟨x, rfl, fun d H' s n e => q d H' s e⟩⟩
/-- no text -/
def NoS (K : PySem.W.Frag) (H : Hp) (x : V) : Prop := ∃ ty, TyX K H x ty ∧ PySem.W.kitOne K ty (.type "str") = some false
def spRd (K : PySem.W.Frag) (CT CS NS IT : Addr) : Sp := fun vs H Q E => ∃ x y, vs = [.ref CT, x, y] ∧ ((NotT K CS H x ∧ ∀ d H', Same H H' → H' d = some (.xd [("value", x)]) → E (.ref NS) (some d) H') ∨
  (∃ (s : Addr) (m : Md), x = .ref s ∧ ScAt CS H s m ∧ Good m ∧ ((NoS K H y ∧ ∀ d H', Same H H' → H' d = some (.xd [("value", y)]) → E (.ref IT) (some d) H') ∨
    ∃ z : Str, y = .str z ∧ z.length ≤ 100000 ∧ (∀ p ∈ cutS z "; ", p.length ≤ 900) ∧ ((∀ t : Tr, t.Ok m → (sub t).length ≤ 200 → stT t ≠ z) → ∀ d H', Same H H' → H' d = some (.xd [("value", y)]) → E (.ref IT) (some d) H') ∧
      ∀ t : Tr, t.Ok m → (sub t).length ≤ 200 → stT t = z → ∀ a H', Same H H' → TrAt CT CS m H' a t → Q (.ref a) H')))
set_option maxHeartbeats 8000000 in
theorem ok_rd {f fk fr fo pO fst : Addr} {mc : Value} {fd fdk fdr fdo dst : FuncData} (F : Fun K "read" "Tree.read" (cT 2) f fd) (T : TS0 mg)
    (O : One P w K mg base "InvalidText" "value" IT) (OH : OneH P w K mg base "InvalidText" "value" IT) (ty : PySem.W.typeIn K (.ref IT) = some (.type "type")) (gI : mg "InvalidRows" = some (.ref IR)) (xI : PySem.W.exmOne K (.ref IR) (.ref IR) = some true)
    (GK : FnOk P w K mg base (CX P w) 3 fk fdk ["schema"] (spChkX K CS NS)) (kk : PySem.W.keepIn K (.ref fk) = true) (bK : Binds K fdk ["schema"] []) (gK : mg "check_schema" = some (.ref fk))
    (GR : FnOk P w K mg base CX0 2 fr fdr ["text"] spRot) (kr : PySem.W.keepIn K (.ref fr) = true) (bR : Binds K fdr ["text"] []) (gR : mg "_rows_of_text" = some (.ref fr))
    (rd : ClX.CRead K CT mc) (cm : ClX.CMet K CT mc "of_rows" pO fo) (GO : FnOk P w K mg base (L2N.CX P w) 7 fo fdo ["cls", "schema", "rows"] (spOfrX CT CS IR)) (bO : Binds K fdo ["cls", "schema", "rows"] [])
    (Dst : Dm K CT "__str__" fst) (Gst : FnOk P w K mg base CX0 1 fst dst ["self"] (spStT CT CS)) (bst : Binds K dst ["self"] []) :
    FnOk P w K mg base (CX P w) 9 f fd ["cls", "schema", "text"] (spRd K CT CS NS IT) := by
  refine F.okX scRd (fun vs H Q E h => ?_) (fun cv A ou s H vs Q E hr h => ?_)
  · obtain ⟨x, y, rfl, _⟩ := h
    rfl
  obtain ⟨x, y, rfl, h⟩ := h
  have hrr : ∀ n, n ≤ 8 → Room n (A.deeper (envOfC "Tree.read" (defScope (cT 2)) s.heap.objs.size f cv)) := fun n h => hr.mono h
  have hr2 := hrr 2 (by decide)
  have hr3 := hrr 3 (by decide)
  have hr7 := hrr 7 (by decide)
  have hr1 := hrr 1 (by decide)
  refine ⟨_, pss_cons (ps_expr (pe_call GK hr3 (by rfl) gK kk bK .nil (passes_call (takes_of rfl rfl rfl rfl) (fun _ _ _ _ h => h)) (pa_cons (pv 1) pa_nil)))
    (pss_cons (ps_if (pt_not (pt_val (pe_callB call_isi (by rfl) T.isi boot_isinstance (pa_cons (pv 2) (pa_cons (pe_bltn (v := .ty "str") (by rfl) T.str boot_str rfl) pa_nil))))) (pss_one (ps_raise rfl (takes_of rfl rfl rfl rfl) (pmk_one O ty hr2 (by rfl) (pv 2)))) pss_nil)
    (pss_cons (ps_set (i := 3) scRd.nd rfl (.inl rfl) (pe_call GR hr2 (by rfl) gR kr bR .nil pass0 (pa_cons (pv 2) pa_nil)))
    (pss_cons (L2H.ps_try_onlyX (c := .ref IR) (Wout := fun cls d _ H => E cls d H) rfl rfl ⟨by rfl, by decide, .inl gI⟩ (fun hd => L2H.passesAt_of rfl hd) (takes_of rfl rfl rfl rfl)
      (fun W pn xe tkN tkP pas => pss_one (ps_set (i := 4) scRd.nd rfl (.inl rfl) (pe_cmethS (pv 0) rd cm GO hr7 bO (passNAt tkN) (pa_cons (pv 1) (pa_cons (pv 3) pa_nil)))))
      (fun a oe cls d pn hz hf tk hot => pss_one (L2H.ps_raiseHN hot tk (pmk5_one OH ty (L2H.roomH_mark hr2 _) ⟨_, List.mem_cons_self ..⟩ (by rfl) (pv 2)))))
    (pss_cons (ps_if (pt_cmpR op_ne (pe_callTy (call_strO Dst Gst hr3 bst pass0) (by rfl) T.str boot_str (pa_cons (pv 4) pa_nil)) (pv 2) (nomark _)) (pss_one (ps_raise rfl (takes_of rfl rfl rfl rfl) (pmk_one O ty hr2 (by rfl) (pv 2)))) pss_nil)
    (pss_one (ps_ret (pv 4))))))), ?_⟩
  rcases h with ⟨nS, qE⟩ | ⟨sa, m, rfl, hs, g, h⟩
  · exact ⟨x, rfl, x, rfl, .inr ⟨nS, fun d H' s e => qE d H' s e⟩⟩
  refine ⟨.ref sa, rfl, .ref sa, rfl, .inl ⟨sa, m, rfl, hs, ?_⟩⟩
  rcases h with ⟨⟨ty', tx, ek⟩, qE⟩ | ⟨z, rfl, hz, hp9, qE, qQ⟩
  · exact ⟨y, rfl, y, .ty "str", ty', _, false, rfl, .ty "str", tx, ek, _, rfl, iteT ⟨y, rfl, fun d H' s n e => qE d H' s e⟩⟩
  refine ⟨.str z, rfl, .str z, .ty "str", _, _, true, rfl, .ty "str", .base (.str z), kit_ty (by decide +kernel), _, rfl, iteF ?_⟩
  refine ⟨.str z, rfl, z, rfl, hz, hp9, fun R H1 s1 hR => ?_⟩
  have lnR : (rowsO z).length = (cutS z "; ").length := List.length_map ..
  have ln2 := PyProof.Rows.split_le z "; "
  have ln : (rowsO z).length ≤ 100002 := by
    rw [lnR]
    show (Txt.split z "; ").length ≤ _
    omega
  have l1000 : ∀ r ∈ rowsO z, r.2.length ≤ 1000 := fun r hr => by
    obtain ⟨p, hp, rfl⟩ := List.mem_map.mp hr
    have h9 := hp9 p hp
    have lw := PyProof.Rows.split_le p " "
    show (((cutS p " ").drop 1).map numW).length ≤ 1000
    rw [List.length_map, List.length_drop]
    have : (cutS p " ").length ≤ p.length + 2 := lw
    omega
  refine ⟨.ref CT, rfl, rfl, .ref sa, rfl, .ref R, rfl, sa, R, m, rowsO z, rfl, hs.keep s1, g, hR, by rw [sizeLine_eq]; omega, l1000, fun hno v d H2 s2 ed => ?_, fun rs ts t er r1 r200 b et a H2 s2 ha => ?_⟩
  · refine ⟨true, xI, fun _ a0 na0 => ⟨.str z, rfl, fun d' H3 s3 n3 e3 => ?_⟩, fun e => by cases e⟩
    refine qE (fun t ok lt et => ?_) d' H3 (s1.trans (s2.trans s3)) e3
    rw [← et] at hno
    exact hno (read_ok g ok lt)
  · have lt : (sub t).length ≤ 200 := by
      have := b.sub_len et
      omega
    have okt := b.ok t (List.mem_of_getElem? et)
    obtain ⟨dx, fs, e0⟩ := ha.ins
    refine ⟨.ref a, rfl, a, dx, fs, rfl, e0, a, m, t, rfl, ha, g, okt, lt, fun H3 s3 => ⟨_, rfl, .str z, rfl, rfl, _, rfl, ?_⟩⟩
    have s13 := s1.trans (s2.trans s3)
    by_cases ez : stT t = z
    · rw [show (!decide (V.str (stT t) = V.str z)) = false by rw [ez]; simp]
      exact iteF ⟨.ref a, rfl, qQ t okt lt ez a H3 s13 (ha.keep s3)⟩
    · rw [show (!decide (V.str (stT t) = V.str z)) = true by simp [ez]]
      refine iteT ⟨.str z, rfl, fun d H4 s4 n4 e4 => qE (fun u oku lu eu => ez ?_) d H4 (s13.trans s4) e4⟩
      rw [← eu] at er
      have := read_bld g oku lu er b
      rw [et] at this
      cases this
      exact eu
end
end Ks
set_option Elab.async false
set_option linter.all false
set_option maxRecDepth 100000
set_option maxHeartbeats 4000000
namespace Ks
open PySem PySem.Spec PyProof.Rows L2 Gd Kx
/-! ### compare -/
abbrev sCtr : Stmt := Kx.topS 42
abbrev sFdf : Stmt := Kx.topS 52
abbrev sCmp : Stmt := Kx.topS 53
theorem scCtr : FnScope ["tree"] ["tree"] (defScope sCtr) := ⟨rfl, rfl, rfl, by decide +kernel, rfl, by decide +kernel, by decide +kernel⟩
theorem scFdf : FnScope ["fields", "others", "field", "other"] ["fields", "others"] (defScope sFdf) := ⟨rfl, rfl, rfl, by decide +kernel, rfl, by decide +kernel, by decide +kernel⟩
theorem scCmp : FnScope ["one", "other", "schema"] ["one", "other"] (defScope sCmp) := ⟨rfl, rfl, rfl, by decide +kernel, rfl, by decide +kernel, by decide +kernel⟩
section
variable {P : Program} {w : World} {K : PySem.W.Frag} {mg : Str → Option Value} {base : Heap} {CT CS NT OS : Addr}
def spCtr (K : PySem.W.Frag) (CT CS NT : Addr) : Sp := fun vs H Q E => ∃ x, vs = [x] ∧ ((∃ (a : Addr) (m : Md) (t : Tr), x = .ref a ∧ TrAt CT CS m H a t ∧ Q .non H) ∨ (NotT K CT H x ∧ ∀ d H', Same H H' → H' d = some (.xd [("value", x)]) → E (.ref NT) (some d) H'))
theorem ok_ctr {f : Addr} {fd : FuncData} (F : Fun K "check_tree" "check_tree" sCtr f fd) (T : TS0 mg) (Tc : Tch P w K mg base CT) (O : One P w K mg base "NotATree" "value" NT) (ty : PySem.W.typeIn K (.ref NT) = some (.type "type")) :
    FnOk P w K mg base (CX P w) 3 f fd ["tree"] (spCtr K CT CS NT) := by
  refine F.okX scCtr (fun vs H Q E h => ?_) (fun cv A ou s H vs Q E hr h => ?_)
  · obtain ⟨x, rfl, _⟩ := h
    rfl
  obtain ⟨x, rfl, h⟩ := h
  refine ⟨_, pss_one (ps_if (pt_not (pt_val (pe_callB call_isi (by rfl) T.isi boot_isinstance (pa_cons (pv 0) (pa_cons (pe_glob (v := .ref CT) (by rfl) Tc.gl rfl) pa_nil))))) (pss_one (ps_raise rfl (takes_of rfl rfl rfl rfl) (pmk_one O ty hr (by rfl) (pv 0)))) pss_nil), ?_⟩
  rcases h with ⟨a, m, t, rfl, ht, q⟩ | ⟨⟨ty', tx, ek⟩, q⟩
  · exact ⟨.ref a, rfl, .ref a, .ref CT, _, .ref CT, true, rfl, .own CT, .base (ht.ty Tc.cl Tc.ci), kit_self CT, _, rfl, iteF q⟩
  · exact ⟨x, rfl, x, .ref CT, ty', .ref CT, false, rfl, .own CT, tx, ek, _, rfl, iteT ⟨x, rfl, fun d H' s n e => q d H' s e⟩⟩
def spFdf (CT CS : Addr) : Sp := fun vs H Q _ => ∃ (Fa Fb : Addr) (bs ds : List Addr) (cs es : List Tr) (m : Md) (j : Nat) (b e : Addr) (c d : Tr), vs = [.ref Fa, .ref Fb] ∧ H Fa = some (.tup (bs.map V.ref)) ∧ H Fb = some (.tup (ds.map V.ref)) ∧ Kids CT CS m H bs cs ∧ Kids CT CS m H ds es ∧ Good m ∧
  (∀ x ∈ cs, x.Ok m) ∧ (∀ x ∈ es, x.Ok m) ∧ cs.length = es.length ∧ cs[j]? = some c ∧ es[j]? = some d ∧ c ≠ d ∧ (∀ i < j, cs[i]? = es[i]?) ∧ bs[j]? = some b ∧ ds[j]? = some e ∧ ∀ T H', H' T = some (.tup [.ref b, .ref e]) → Same H H' → Q (.ref T) H'
set_option maxHeartbeats 8000000 in
theorem ok_fdf {f : Addr} {fd : FuncData} (F : Fun K "_first_different" "_first_different" sFdf f fd) (nz : mg "zip" = none) (C : Tcs P w K mg base CT CS) : FnOk P w K mg base CX0 4 f fd ["fields", "others"] (spFdf CT CS) := by
  refine F.ok scFdf (fun vs H Q E h => ?_) (fun cv A ou s H vs Q E hr h => ?_)
  · obtain ⟨Fa, Fb, bs, ds, cs, es, m, j, b, e, c, d, rfl, _⟩ := h
    rfl
  obtain ⟨Fa, Fb, bs, ds, cs, es, m, j, b, e, c, d, rfl, hA, hB, kA, kB, g, oA, oB, ln, hc, hd, n, pre, hb, he, q⟩ := h
  obtain ⟨_, nb, _, _, _, ⟨feq, deq, Deq, Feq, beq⟩, nn, mo⟩ := C
  refine ⟨_, pss_cons (ps_for PassesOwn.never rfl (RZ.pi_zipA (by rfl) nz (pa_cons (pv 0) (pa_cons (pv 1) pa_nil))) (pg_tup rfl (pgs_cons (pg_name (i := 2) scFdf.nd rfl (.inl rfl)) (pgs_cons (pg_name (i := 3) scFdf.nd rfl (.inl rfl)) pgs_nil)))
      (pss_one (ps_if (pt_cmpR (op_neO Deq nn mo Feq hr beq pass0) (pv 2) (pv 3) (nomark _)) (pss_one (ps_ret (pe_tup (pa_cons (pv 2) (pa_cons (pv 3) pa_nil))))) pss_nil)))
    (pss_one (ps_ret pe_non)), ?_⟩
  have lb : bs.length = ds.length := by rw [kA.len, kB.len, ln]
  refine ⟨.ref Fa, rfl, .ref Fb, rfl, Fa, Fb, bs.map V.ref, ds.map V.ref, rfl, .inr ⟨SqT.of hA, SqT.of hB, RZ.for_zipT (K := K) (a := Fa) (b := Fb) (xs := bs.map V.ref) (ys := ds.map V.ref) (by rw [List.length_map, List.length_map, lb]) (fun i σ H' => ∃ o2 o3 : Option V, σ = [some (.ref Fa), some (.ref Fb), o2, o3] ∧ Same H H' ∧ i ≤ j) ⟨none, none, rfl, fun _ _ e => e, Nat.zero_le _⟩ (fun i σ H' p => ?_) (fun i x y U σ H' hx hy p nU => ?_) (fun σ H' p => ?_)⟩⟩
  · obtain ⟨_, _, _, s1, _⟩ := p
    exact ⟨SqT.of (s1 _ _ hA), SqT.of (s1 _ _ hB)⟩
  · obtain ⟨o2, o3, rfl, s1, ij⟩ := p
    obtain ⟨b1, c1, rfl, eb1, ec1, t1⟩ := kA.get hx
    obtain ⟨b2, c2, rfl, eb2, ec2, t2⟩ := kB.get hy
    have sU := s1.trans (same_new (o := .tup [.ref b1, .ref b2]) nU)
    have u1 := t1.keep sU
    have u2 := t2.keep sU
    obtain ⟨d1, f1, e1⟩ := u1.ins
    obtain ⟨d2, f2, e2⟩ := u2.ins
    refine ⟨U, _, rfl, SqT.of upd_same, rfl, _, _, rfl, _, _, rfl, rfl, ?_⟩
    refine ⟨.ref b1, rfl, .ref b2, rfl, b1, d1, _, b2, d2, _, rfl, rfl, e1, e2, b1, .ref b2, m, c1, rfl, u1, g, oA c1 (List.mem_of_getElem? ec1), .inl ⟨b2, c2, rfl, u2, oB c2 (List.mem_of_getElem? ec2), _, rfl, _, rfl, ?_⟩⟩
    by_cases hij : i < j
    · have : c1 = c2 := by
        have := pre i hij
        rw [ec1, ec2] at this
        exact Option.some.inj this
      rw [decide_eq_true this]
      exact iteF ⟨_, _, rfl, sU, hij⟩
    · have ei : i = j := by omega
      subst ei
      rw [hc] at ec1
      rw [hd] at ec2
      rw [hb] at eb1
      rw [he] at eb2
      cases ec1
      cases ec2
      cases eb1
      cases eb2
      rw [decide_eq_false n]
      exact iteT ⟨.ref b, rfl, .ref e, rfl, (by show 2 ≤ sizeLine; decide), fun V nV => q V _ upd_same (sU.trans (same_new nV))⟩
  · obtain ⟨o2, o3, rfl, s1, ij⟩ := p
    have := (List.getElem?_eq_some_iff.mp hb).1
    rw [List.length_map] at ij
    omega
/-- the size that stands in the first name's tree -/
def szO : Option HO → Nat
  | some (.ins _ _ fs) => match fs.lookup ("_size" : Str) with
    | some (.int i) => i.toNat
    | _ => 0
  | _ => 0
def szOf (σ : L2.St) (H : Hp) : Nat := match σ with
  | some (.ref a) :: _ => szO (H a)
  | _ => 0
theorem szOf_of {m : Md} {H : Hp} {a : Addr} {t : Tr} {r : L2.St} (h : TrAt CT CS m H a t) : szOf (some (.ref a) :: r) H = t.size := by
  cases h with
  | mk e _ _ _ _ _ =>
    show szO (H a) = _
    rw [e]
    show (((t.size : Nat) : Int)).toNat = _
    omega
def spCmp (K : PySem.W.Frag) (CT CS NT OS : Addr) : Sp := fun vs H Q E => ∃ x y, vs = [x, y] ∧ ((NotT K CT H x ∧ ∀ d H', Same H H' → H' d = some (.xd [("value", x)]) → E (.ref NT) (some d) H') ∨
  ∃ (a : Addr) (m : Md) (t : Tr), x = .ref a ∧ TrAt CT CS m H a t ∧ Good m ∧ t.Ok m ∧ ((NotT K CT H y ∧ ∀ d H', Same H H' → H' d = some (.xd [("value", y)]) → E (.ref NT) (some d) H') ∨
    ∃ (b : Addr) (m' : Md) (u : Tr), y = .ref b ∧ TrAt CT CS m' H b u ∧ Good m' ∧ u.Ok m' ∧ (((decide (m.ks = m'.ks) && decide (m.rs = m'.rs)) = false ∧ ∀ H', Same H H' → E (.ref OS) none H') ∨ (m = m' ∧ ∀ H', Same H H' → Q (.int (cmpT m t u)) H'))))
set_option maxHeartbeats 16000000 in
theorem ok_cmp {f fc ff fp : Addr} {fd fdc fdf fdp : FuncData} (F : Fun K "compare" "compare" sCmp f fd) (C : Tcs P w K mg base CT CS) (S : Sch P w K mg base CS) (neS : PySem.W.findIn K (.ref CS) "__ne__" = some (some (.builtin "object.__ne__")))
    (GC : FnOk P w K mg base (CX P w) 3 fc fdc ["tree"] (spCtr K CT CS NT)) (kC : PySem.W.keepIn K (.ref fc) = true) (bC : Binds K fdc ["tree"] []) (gC : mg "check_tree" = some (.ref fc))
    (GF : FnOk P w K mg base CX0 4 ff fdf ["fields", "others"] (spFdf CT CS)) (kF : PySem.W.keepIn K (.ref ff) = true) (bF : Binds K fdf ["fields", "others"] []) (gF : mg "_first_different" = some (.ref ff))
    (GP : FnOk P w K mg base CX0 2 fp fdp ["self", "name"] (spPl CS)) (mP : Meth K CS "place" fp) (bP : Binds K fdp ["self", "name"] []) (O : Zro K mg "OtherSchema" OS) : FnOk P w K mg base (CX P w) 5 f fd ["one", "other"] (spCmp K CT CS NT OS) := by
  refine F.okX scCmp (fun vs H Q E h => ?_) (fun cv A ou s H vs Q E hr h => ?_)
  · obtain ⟨x, y, rfl, _⟩ := h
    rfl
  obtain ⟨x, y, rfl, h⟩ := h
  obtain ⟨⟨Zc, Ic, gTr, ⟨ps, fs, ds, Ps, Fs, bs⟩, _, ⟨pF, fF, dF, PF, FF, bFF⟩, ⟨pz, fzz, dz, Pz, Fz, bz⟩, _⟩, nb, _, _, _, ⟨feq, deq, Deq, Feq, beq⟩, nn, mo⟩ := C
  obtain ⟨Zs, Is, gSc, ⟨fes, des, Des, Fes, bes⟩, _⟩ := S
  have hr1 : Room 1 (A.deeper (envOfC "compare" (defScope sCmp) s.heap.objs.size f cv)) := hr.mono (by decide)
  have hr2 : Room 2 (A.deeper (envOfC "compare" (defScope sCmp) s.heap.objs.size f cv)) := hr.mono (by decide)
  have hr3 : Room 3 (A.deeper (envOfC "compare" (defScope sCmp) s.heap.objs.size f cv)) := hr.mono (by decide)
  refine ⟨_, pss_cons (ps_expr (pe_call GC hr3 (by rfl) gC kC bC .nil (passes_call (takes_of rfl rfl rfl rfl) (fun _ _ _ _ h => h)) (pa_cons (pv 0) pa_nil)))
    (pss_cons (ps_expr (pe_call GC hr3 (by rfl) gC kC bC .nil (passes_call (takes_of rfl rfl rfl rfl) (fun _ _ _ _ h => h)) (pa_cons (pv 1) pa_nil)))
    (pss_cons (ps_set (i := 2) scCmp.nd rfl (.inl rfl) (pe_prop (pv 0) Zc.cls Ps Fs hr2 bs .nil pass0 rfl))
    (pss_cons (ps_if (pt_cmpR (op_neO Des neS Is.mo Fes hr2 bes pass0) (pv 2) (pe_prop (pv 1) Zc.cls Ps Fs hr2 bs .nil pass0 rfl) (nomark _)) (pss_one (ps_raise rfl (takes_of rfl rfl rfl rfl) (pmk_zro O (by rfl)))) pss_nil)
    (pss_cons (ps_while PassesOwn.leaving (pt_cmpR (op_neO Deq nn mo Feq hr3 beq pass0) (pv 0) (pv 1) (nomark _))
      (pss_cons (ps_if (pt_cmpR op_ne (pe_prop (pv 0) Zc.cls Pz Fz hr2 bz .nil pass0 rfl) (pe_prop (pv 1) Zc.cls Pz Fz hr2 bz .nil pass0 rfl) (nomark _))
          (pss_one (ps_ret (pe_ifExp (pt_cmpR op_lt (pe_prop (pv 0) Zc.cls Pz Fz hr2 bz .nil pass0 rfl) (pe_prop (pv 1) Zc.cls Pz Fz hr2 bz .nil pass0 rfl) (nomark _)) (pe_un un_neg pe_int) pe_int))) pss_nil)
      (pss_cons (ps_if (pt_cmpR op_ne (pe_fld (pv 0) rfl) (pe_fld (pv 1) rfl) (nomark _))
          (pss_one (ps_ret (pe_ifExp (pt_cmpR op_lt (pe_meth (pv 2) Zs.cls mP GP hr2 bP .nil pass0 (pa_cons (pe_fld (pv 0) rfl) pa_nil)) (pe_meth (pv 2) Zs.cls mP GP hr2 bP .nil pass0 (pa_cons (pe_fld (pv 1) rfl) pa_nil)) (nomark _)) (pe_un un_neg pe_int) pe_int))) pss_nil)
      (pss_one (ps_asg (pe_call GF hr (by rfl) gF kF bF .nil pass0 (pa_cons (pe_prop (pv 0) Zc.cls PF FF hr2 bFF .nil pass0 rfl) (pa_cons (pe_prop (pv 1) Zc.cls PF FF hr2 bFF .nil pass0 rfl) pa_nil))) (pg_tup (by rfl) (pgs_cons (pg_name (i := 0) scCmp.nd rfl (.inl rfl)) (pgs_cons (pg_name (i := 1) scCmp.nd rfl (.inl rfl)) pgs_nil))))))))
    (pss_one (ps_ret pe_int)))))), ?_⟩
  rcases h with ⟨⟨ty1, tx1, ek1⟩, q⟩ | ⟨a, m, t, rfl, ht, g, okt, h⟩
  · exact ⟨x, rfl, x, rfl, .inr ⟨⟨ty1, tx1, ek1⟩, fun d H' s e => q d H' s e⟩⟩
  refine ⟨.ref a, rfl, .ref a, rfl, .inl ⟨a, m, t, rfl, ht, ?_⟩⟩
  rcases h with ⟨nt, q⟩ | ⟨b, m', u, rfl, hu, g', oku, h⟩
  · exact ⟨y, rfl, y, rfl, .inr ⟨nt, fun d H' s e => q d H' s e⟩⟩
  refine ⟨.ref b, rfl, .ref b, rfl, .inl ⟨b, m', u, rfl, hu, ?_⟩⟩
  cases id ht with
  | @mk _ dx R0 sA FA _ bs0 e hs1 hR1 hF1 lb kb =>
  cases id hu with
  | @mk _ dx2 R2 sA2 FA2 _ bs2 e2 hs2 hR2 hF2 lb2 kb2 =>
  obtain ⟨d1, f1, i1⟩ := hs1.ins
  obtain ⟨d2, f2, i2⟩ := hs2.ins
  refine ⟨.ref a, rfl, a, dx, _, rfl, e, a, dx, _, _, rfl, e, trF_s, ?_⟩
  refine ⟨.ref sA, rfl, .ref b, rfl, b, dx2, _, rfl, e2, b, dx2, _, _, rfl, e2, trF_s, sA, d1, f1, sA2, d2, f2, rfl, rfl, i1, i2, sA, .ref sA2, m, rfl, hs1, g, .inl ⟨sA2, m', rfl, hs2, g', _, rfl, ?_⟩⟩
  rcases h with ⟨ne, q⟩ | ⟨rfl, q⟩
  · rw [ne]
    exact ⟨_, rfl, iteT (q H fun _ _ e => e)⟩
  rw [decide_eq_true rfl, decide_eq_true rfl]
  refine ⟨_, rfl, iteF ?_⟩
  show tSeq (tWhile _ _) _ _ _ _
  refine seq_join (fun σ G => Same H G ∧ cmpT m t u = 0) ?_ fun rest => ?_
  · rintro σ G ⟨s1, e0⟩
    have := q G s1
    rw [e0] at this
    exact this
  refine while_by (fun σ G => ∃ (a b : Addr) (t' u' : Tr), σ = [some (.ref a), some (.ref b), some (.ref sA)] ∧ Same H G ∧ TrAt CT CS m G a t' ∧ TrAt CT CS m G b u' ∧ t'.Ok m ∧ u'.Ok m ∧ cmpT m t' u' = cmpT m t u) szOf ⟨a, b, t, u, rfl, fun _ _ e => e, ht, hu, okt, oku, rfl⟩ ?_ ?_
  · clear e e2 hs2 hR1 hR2 hF1 hF2 kb kb2 lb lb2
    rintro σ G ⟨a', b', t', u', rfl, s1, h1, h2, o1, o2, ec⟩
    obtain ⟨j1, g1, x1⟩ := h1.ins
    obtain ⟨j2, g2, x2⟩ := h2.ins
    refine ⟨.ref a', rfl, .ref b', rfl, a', j1, _, b', j2, _, rfl, rfl, x1, x2, a', .ref b', m, t', rfl, h1, g, o1, .inl ⟨b', u', rfl, h2, o2, _, rfl, _, rfl, ?_⟩⟩
    by_cases hne : t' = u'
    · rw [decide_eq_true hne]
      exact iteF (rest [] _ ⟨s1, by rw [← ec, hne, cmp_self]⟩)
    rw [decide_eq_false hne]
    refine iteT ?_
    show tSeq _ _ _ _ _
    cases id h1 with
    | @mk _ dx R0 sA1 FA _ bs0 e _ hR1 hF1 lb kb =>
    cases id h2 with
    | @mk _ dx2 R2 sA2 FA2 _ bs2 e2 _ hR2 hF2 lb2 kb2 =>
    refine ⟨.ref a', rfl, a', dx, _, rfl, e, a', dx, _, _, rfl, e, trF_z, .ref b', rfl, b', dx2, _, rfl, e2, b', dx2, _, _, rfl, e2, trF_z, rfl, _, rfl, ?_⟩
    by_cases hs : t'.size = u'.size
    rotate_left
    · rw [show (!decide (V.int ((t'.size : Nat) : Int) = V.int ((u'.size : Nat) : Int))) = true by rw [decide_eq_false (fun z => hs (by injection z with z; omega))]; rfl]
      refine iteT ⟨.ref a', rfl, a', dx, _, rfl, e, a', dx, _, _, rfl, e, trF_z, .ref b', rfl, b', dx2, _, rfl, e2, b', dx2, _, _, rfl, e2, trF_z, _, _, rfl, rfl, _, rfl, ?_⟩
      have qq := q G s1
      rw [← ec, cmp_size hs] at qq
      by_cases hl : t'.size < u'.size
      · rw [decide_eq_true (show ((t'.size : Nat) : Int) < ((u'.size : Nat) : Int) by omega)]
        rw [if_pos hl] at qq
        exact iteT ⟨_, rfl, qq⟩
      · rw [decide_eq_false (show ¬ ((t'.size : Nat) : Int) < ((u'.size : Nat) : Int) by omega)]
        rw [if_neg hl] at qq
        exact iteF qq
    rw [show (!decide (V.int ((t'.size : Nat) : Int) = V.int ((u'.size : Nat) : Int))) = false by rw [hs, decide_eq_true rfl]; rfl]
    refine iteF ⟨.ref a', rfl, a', CT, dx, _, _, rfl, e, Zc.cls, Zc.nn, trF_n, .ref b', rfl, b', CT, dx2, _, _, rfl, e2, Zc.cls, Zc.nn, trF_n, rfl, _, rfl, ?_⟩
    have r1 := (Tr.ok_iff.mp o1).1
    have r2 := (Tr.ok_iff.mp o2).1
    by_cases hn : t'.row.1 = u'.row.1
    rotate_left
    · rw [show (!decide (V.str t'.row.1 = V.str u'.row.1)) = true by rw [decide_eq_false (fun z => hn (by injection z))]; rfl]
      have hp : rpl m t'.row ≠ rpl m u'.row := fun z => hn (by rw [rpl_inj r1 r2 z])
      obtain ⟨dS, kA, cA, nA, ⟨dp, ea, edp⟩, ak, ac, an⟩ := hs1.keep s1
      refine iteT ⟨.ref sA, rfl, sA, dS, _, rfl, ea, rfl, .ref a', rfl, a', CT, dx, _, _, rfl, e, Zc.cls, Zc.nn, trF_n, sA, kA, cA, nA, m.rs.map (·.1), t'.row.1, rpl m t'.row, rfl, ⟨dS, _, ⟨dp, ea, edp⟩, an⟩, an, g.rd, rpl_name g r1,
        .ref sA, rfl, sA, dS, _, rfl, ea, rfl, .ref b', rfl, b', CT, dx2, _, _, rfl, e2, Zc.cls, Zc.nn, trF_n, sA, kA, cA, nA, m.rs.map (·.1), u'.row.1, rpl m u'.row, rfl, ⟨dS, _, ⟨dp, ea, edp⟩, an⟩, an, g.rd, rpl_name g r2, _, _, rfl, rfl, _, rfl, ?_⟩
      have qq := q G s1
      rw [← ec, cmp_rpl hs hp] at qq
      by_cases hl : rpl m t'.row < rpl m u'.row
      · rw [decide_eq_true (show ((rpl m t'.row : Nat) : Int) < ((rpl m u'.row : Nat) : Int) by omega)]
        rw [if_pos hl] at qq
        exact iteT ⟨_, rfl, qq⟩
      · rw [decide_eq_false (show ¬ ((rpl m t'.row : Nat) : Int) < ((rpl m u'.row : Nat) : Int) by omega)]
        rw [if_neg hl] at qq
        exact iteF qq
    rw [show (!decide (V.str t'.row.1 = V.str u'.row.1)) = false by rw [hn, decide_eq_true rfl]; rfl]
    have hr0 : t'.row = u'.row := names_inj g.rd r1 r2 hn
    have kl := kids_len o1 o2 hr0
    obtain ⟨j, c, d, hc, hd, n, pre⟩ := first_diff kl fun z => hne (Tr.ext hr0 z)
    have lj := (List.getElem?_eq_some_iff.mp hc).1
    have eb1 : bs0[j]? = some (bs0[j]'(by omega)) := List.getElem?_eq_getElem _
    have eb2 : bs2[j]? = some (bs2[j]'(by omega)) := List.getElem?_eq_getElem _
    have oc := (Tr.ok_iff.mp o1).2.2 c (List.mem_of_getElem? hc)
    have od := (Tr.ok_iff.mp o2).2.2 d (List.mem_of_getElem? hd)
    have tc := kb j _ c eb1 hc
    have td := kb2 j _ d eb2 hd
    have szc := Tr.size_kid (List.mem_of_getElem? hc)
    refine iteF ⟨.ref a', rfl, a', dx, _, rfl, e, a', dx, _, _, rfl, e, trF_F, .ref b', rfl, b', dx2, _, rfl, e2, b', dx2, _, _, rfl, e2, trF_F, FA, FA2, bs0, bs2, t'.kids, u'.kids, m, j, _, _, c, d, rfl, hF1, hF2, ⟨lb, kb⟩, ⟨lb2, kb2⟩, g, (Tr.ok_iff.mp o1).2.2, (Tr.ok_iff.mp o2).2.2, kl, hc, hd, n, pre, eb1, eb2, fun U H2 eU s2 => ⟨U, _, rfl, SqT.of eU, rfl, _, _, rfl, _, _, rfl, rfl, ⟨_, _, c, d, rfl, s1.trans s2, tc.keep s2, td.keep s2, oc, od, by rw [← ec, cmp_kid o1 o2 hs hr0 hc hd n pre]⟩, ?_⟩⟩
    rw [szOf_of h1]
    exact Nat.lt_of_le_of_lt (Nat.le_of_eq (szOf_of (tc.keep s2))) szc
  · intro σ G Q1 Q2 hq hh
    obtain ⟨x, ex, y, ey, a0, j1, g1, b0, j2, g2, q1, q2, q3, q4, a1, y1, m1, t1, q5, q6, q7, q8, q9⟩ := hh
    refine ⟨x, ex, y, ey, a0, j1, g1, b0, j2, g2, q1, q2, q3, q4, a1, y1, m1, t1, q5, q6, q7, q8, ?_⟩
    rcases q9 with ⟨b3, u3, z1, z2, z3, z4, z5, z6, z7, z8⟩ | ⟨ty3, z1, z2, z4, z5, z6, z7, z8⟩
    · exact .inl ⟨b3, u3, z1, z2, z3, z4, z5, z6, z7, hq _ _ z8⟩
    · exact .inr ⟨ty3, z1, z2, z4, z5, z6, z7, hq _ _ z8⟩
end
end Ks
set_option Elab.async false
set_option linter.all false
set_option maxRecDepth 100000
set_option maxHeartbeats 4000000
namespace Ks
open PySem PySem.Spec PyProof.Rows L2 Gd Kx
abbrev sRgt : Stmt := Kx.topS 64
abbrev nRgt : List Str := ["_law_deal_here", "_law_words_here", "_law_kind", "_law_names", "_law_model", "_law_schema", "_law_rows", "_law_made", "_law_places", "_law_ranks_here", "_law_sizes_here", "_law_spots", "_law_at", "_law_woods", "_law_one", "_law_two", "_law_spot", "_law_due", "_law_path", "_law_here", "_law_turn", "_law_far", "_law_many"]
theorem scRgt : FnScope nRgt ["_law_deal_here"] (defScope sRgt) := ⟨rfl, rfl, rfl, by decide +kernel, rfl, by decide +kernel, by decide +kernel⟩
def zf (a b c d : Str) : Nat → Str
  | 0 => a
  | 1 => b
  | 2 => c
  | _ => d
theorem due_tif {d : Int} {i : Nat} {σ : L2.St} {H : Hp} {Q : VK} (h : σ[i]? = some (some (.int d))) (q : Q (.int (if d = 0 then 0 else if 0 < d then 1 else -1)) H) :
    tIf (tTest (tOp rEq (tVar i) (tC (.int 0)))) (tC (.int 0)) (tIf (tTest (tOp (rI0 fun i j => .bl (decide (j < i))) (tVar i) (tC (.int 0)))) (tC (.int 1)) (tUn (rU fun i => .int (-i)) (tC (.int 1)))) σ H Q := by
  refine ⟨_, h, rfl, _, rfl, ?_⟩
  by_cases e : d = 0
  · subst e
    rw [decide_eq_true rfl]
    exact iteT q
  · rw [decide_eq_false (fun z => e (by injection z))]
    rw [if_neg e] at q
    refine iteF ⟨_, h, _, _, rfl, rfl, _, rfl, ?_⟩
    by_cases l : 0 < d
    · rw [decide_eq_true l]
      rw [if_pos l] at q
      exact iteT q
    · rw [decide_eq_false l]
      rw [if_neg l] at q
      exact iteF ⟨1, rfl, q⟩
section
variable {P : Program} {w : World} {K : PySem.W.Frag} {mg : Str → Option Value} {base : Heap} {CT CS NT OS IP IT NS IX : Addr}
set_option maxHeartbeats 32000000 in
theorem ok_rgt {f fp fw fg fs fz fk fin fgi fpu fc frd prd : Addr} {mcR : Value} {fd dp dw dg ds dz dk din dgi dpu dcm drd : FuncData} (F : Fun K "_law_right" "_law_right" sRgt f fd) (T : TS0 mg) (TN : TsN mg) (mrp : mg "repr" = none) (mlist : mg "list" = none) (C : Tcs P w K mg base CT CS) (S : Sch P w K mg base CS) (OF : Ofr P w K mg base CT CS)
    (Min : Mk K CS fin) (Gin : FnOk P w K mg base CX0 4 fin din ["self", "kinds", "constructors"] (spIni CS)) (Bin : Binds K din ["self", "kinds", "constructors"] [])
    (Dgi : Dm K CT "__getitem__" fgi) (hgi : PySem.W.fnIn K fgi = true) (Ggi : FnOk P w K mg base (CX P w) 5 fgi dgi ["self", "at"] (spTat K CT CS IP)) (bgi : Binds K dgi ["self", "at"] [])
    (Mpu : Meth K CT "put" fpu) (Gpu : FnOk P w K mg base (CX P w) 7 fpu dpu ["self", "path", "other"] (spPut K CT CS IP IT)) (bpu : Binds K dpu ["self", "path", "other"] [])
    (rdT : ClX.CRead K CT mcR) (cmR : ClX.CMet K CT mcR "read" prd frd) (FRd : FnOk P w K mg base (CX P w) 9 frd drd ["cls", "schema", "text"] (spRd K CT CS NS IX)) (bRd : Binds K drd ["cls", "schema", "text"] [])
    (GP : FnOk P w K mg base CX0 1 fp dp ["_law_deal_here", "_law_many"] spPick) (kp : PySem.W.keepIn K (.ref fp) = true) (bP : Binds K dp ["_law_deal_here", "_law_many"] []) (gP : mg "_law_pick" = some (.ref fp))
    (GW : FnOk P w K mg base CX0 3 fw dw ["_law_deal_here", "_law_many"] spWds) (kw : PySem.W.keepIn K (.ref fw) = true) (bW : Binds K dw ["_law_deal_here", "_law_many"] []) (gW : mg "_law_words" = some (.ref fw))
    (GG : FnOk P w K mg base CX0 2 fg dg ["_law_deal_here", "_law_names"] spGrn) (kG : PySem.W.keepIn K (.ref fg) = true) (bG : Binds K dg ["_law_deal_here", "_law_names"] []) (gG : mg "_law_grown" = some (.ref fg))
    (GS : FnOk P w K mg base CX0 1 fs ds ["_law_rows"] spShd) (kS : PySem.W.keepIn K (.ref fs) = true) (bS : Binds K ds ["_law_rows"] []) (gS : mg "_law_shared" = some (.ref fs))
    (GZ : FnOk P w K mg base CX0 1 fz dz ["_law_rows"] spSzs) (kZ : PySem.W.keepIn K (.ref fz) = true) (bZ : Binds K dz ["_law_rows"] []) (gZ : mg "_law_sizes" = some (.ref fz))
    (GK : FnOk P w K mg base CX0 2 fk dk ["_law_names", "_law_made"] spRks) (kK : PySem.W.keepIn K (.ref fk) = true) (bK : Binds K dk ["_law_names", "_law_made"] []) (gK : mg "_law_ranks" = some (.ref fk))
    (GC : FnOk P w K mg base (CX P w) 5 fc dcm ["one", "other"] (spCmp K CT CS NT OS)) (kC : PySem.W.keepIn K (.ref fc) = true) (bC : Binds K dcm ["one", "other"] []) (gC : mg "compare" = some (.ref fc)) :
    Pr P w K mg base CX0 12 f fd ["_law_deal_here"] spRgt := by
  refine okG F scRgt (fun vs H Q E h => ?_) (fun cv A ou s H vs Q E hG hr h => ?_)
  · obtain ⟨p, rfl, _⟩ := h
    rfl
  obtain ⟨p, rfl, hD, q⟩ := h
  obtain ⟨⟨Zc, Ic, gTr, _, ⟨pR, fR, dR, PR, FR, bRR⟩, ⟨pF, fF, dF, PF, FF, bFF⟩, ⟨pz, fzz, dzz, Pz, Fz, bz⟩, ⟨pd, fdd, ddd, Pd, Fd, bd⟩⟩, nb, _, _, ⟨fst, dst, Dst, Fst, bst⟩, ⟨feq, deq, Deq, Feq, beq⟩, nn, mo⟩ := C
  obtain ⟨Zs, Is, gSc, _, _⟩ := S
  obtain ⟨mc, pO, fO, dO, rd, cm, FO, bO, kO⟩ := OF
  have FOr := FO.raw bO .nil
  have FRr : FnR P w K mg base (CX P w) 9 frd (spRd K CT CS NS IX) := by
    have := FRd.raw bRd .nil
    simpa using this
  have hG2 : (A.deeper (envOfC "_law_right" (defScope sRgt) s.heap.objs.size f cv)).guards = some [] := hG
  have hrr : ∀ n, n ≤ 11 → Room n (A.deeper (envOfC "_law_right" (defScope sRgt) s.heap.objs.size f cv)) := fun n h => hr.mono h
  have hr1 := hrr 1 (by decide)
  have hr2 := hrr 2 (by decide)
  have hr3 := hrr 3 (by decide)
  have hr5 := hrr 5 (by decide)
  have hr6 := hrr 6 (by decide)
  have hr7 := hrr 7 (by decide)
  have hr9 := hrr 9 (by decide)
  have hu := hr.units
  refine ⟨_, (pss_cons (ps_set (i := 1) scRgt.nd rfl (.inl rfl) (pe_call GW hr3 (by rfl) gW kw bW .nil pass0 (pa_cons (pv 0) (pa_cons pe_int pa_nil))))
    (pss_cons (ps_asg (pe_tup (pa_cons (pe_ix ix_list (pv 1) pe_int (fun _ _ => rfl)) (pa_cons (pe_slice sl_list (pv 1) (po_some pe_int) po_none) pa_nil))) (pg_tup (by rfl) (pgs_cons (pg_name (i := 2) scRgt.nd rfl (.inr rfl)) (pgs_cons (pg_name (i := 3) scRgt.nd rfl (.inr rfl)) pgs_nil))))
    (pss_cons (ps_set (i := 4) scRgt.nd rfl (.inl rfl) (pe_tupleOf (by rfl) T.tup (pe_lc (own := [("_law_many", 22)]) (g := gName 22) (tt := tYes) (by rfl) scRgt.nd (pi_range1 (by rfl) T.rng (pa_cons pe_int pa_nil)) (blkOk_by (own := [("_law_many", 22)]) (N := nRgt) (sc := defScope sRgt) (by decide +kernel))
        (fun _ _ _ _ _ => pg_name (i := 22) scRgt.nd rfl (Or.inl rfl)) (fun _ _ _ _ _ => pts_nil) (fun _ _ _ _ _ => asTE (te := tTup (tCons (tOp (rIxL K) (tVar 3) (tVar 22)) (tCons (tVar 2) (tCons (tOp (rRepA K) (tTup (tCons (tVar 2) tNil)) (tVar 22)) tNil)))) (pe_tup (pa_cons (pe_ix ix_list (pv 3) (pv 22) (fun _ _ => rfl)) (pa_cons (pv 2) (pa_cons (pe_op op_repA (pe_tup (pa_cons (pv 2) pa_nil)) (pv 22)) pa_nil)))) rfl))))
    (pss_cons (ps_asg (pe_tup (pa_cons (pe_make Min Gin hr5 (by rfl) gSc Bin .nil pass0 (pa_cons (pe_tup (pa_cons (pv 2) pa_nil)) (pa_cons (pv 4) pa_nil))) (pa_cons (pe_call GG hr2 (by rfl) gG kG bG .nil pass0 (pa_cons (pv 0) (pa_cons (pe_slice sl_list (pv 1) (po_some pe_int) po_none) pa_nil))) pa_nil))) (pg_tup (by rfl) (pgs_cons (pg_name (i := 5) scRgt.nd rfl (.inr rfl)) (pgs_cons (pg_name (i := 6) scRgt.nd rfl (.inr rfl)) pgs_nil))))
    (pss_cons (ps_asg (pe_call GS hr1 (by rfl) gS kS bS .nil pass0 (pa_cons (pv 6) pa_nil)) (pg_tup (by rfl) (pgs_cons (pg_name (i := 7) scRgt.nd rfl (.inl rfl)) (pgs_cons (pg_name (i := 8) scRgt.nd rfl (.inl rfl)) pgs_nil))))
    (pss_cons (ps_par (i := 9) (j := 10) (by rfl) scRgt.nd rfl rfl (by decide) rfl rfl (pa_cons (pe_call GK hr2 (by rfl) gK kK bK .nil pass0 (pa_cons (pv 3) (pa_cons (pv 7) pa_nil))) (pa_cons (pe_call GZ hr1 (by rfl) gZ kZ bZ .nil pass0 (pa_cons (pv 6) pa_nil)) pa_nil)) (by rfl))
    (pss_cons (ps_set (i := 11) scRgt.nd rfl (.inl rfl) (pe_lst (pa_cons (pe_op op_sub (pe_callB call_len_seq (by rfl) T.len PySem.boot_len (pa_cons (pv 6) pa_nil)) pe_int) (pa_cons (pe_op op_sub (pe_callB call_len_seq (by rfl) T.len PySem.boot_len (pa_cons (pv 6) pa_nil)) pe_int) (pa_cons (pe_call GP hr1 (by rfl) gP kp bP .nil pass0 (pa_cons (pv 0) (pa_cons (pe_callB call_len_seq (by rfl) T.len PySem.boot_len (pa_cons (pv 6) pa_nil)) pa_nil))) (pa_cons (pe_op op_sub (pe_callB call_len_seq (by rfl) T.len PySem.boot_len (pa_cons (pv 6) pa_nil)) pe_int) pa_nil))))))
    (pss_cons (ps_setLc (i := 13) (own := [("_law_at", 12)]) (g := gName 12) (tt := tYes) (by rfl) scRgt.nd rfl rfl (sw_true rfl rfl rfl (by decide +kernel)) (pi_list (pv 11)) (blkOk_by (own := [("_law_at", 12)]) (N := nRgt) (sc := defScope sRgt) (by decide +kernel))
        (fun _ _ _ _ _ => pg_name (i := 12) scRgt.nd rfl (Or.inl rfl)) (fun _ _ _ _ _ => pts_nil) (fun _ _ _ _ _ => asTE (te := ClX.tCMeth CT (spOfr CT CS) E0 (tC (.ref CT)) (tCons (tVar 5) (tCons (tThen (tSl (rSlL K) (tVar 6) tNoPart (tPart (tOp (rI0 fun i j => .int (i + j)) (tVar 12) (tC (.int 1))))) (kTup K)) tNil))) (ClX.pe_cmeth (pe_glob (v := .ref CT) (by rfl) gTr rfl) rd cm FOr hr7 pass0 (pa_cons (pv 5) (pa_cons (pe_tupleOf (by rfl) T.tup (pe_slice sl_list (pv 6) po_none (po_some (pe_op op_add (pv 12) pe_int)))) pa_nil))) rfl))
    (pss_cons (ps_for PassesOwn.never rfl (RZ.pi_zipA (by rfl) TN.zip (pa_cons (pv 13) (pa_cons (pv 11) pa_nil))) (pg_tup rfl (pgs_cons (pg_name (i := 14) scRgt.nd rfl (.inl rfl)) (pgs_cons (pg_name (i := 12) scRgt.nd rfl (.inl rfl)) pgs_nil)))
    (pss_cons (ps_if (pt_cmpR op_ne (pe_callB (call_showV hG2 hu) (by rfl) mrp boot_repr (pa_cons (pe_lst (pa_cons (pe_prop (pv 14) Zc.cls Pz Fz hr2 bz .nil pass0 rfl) (pa_cons (pe_prop (pv 14) Zc.cls Pd Fd hr2 bd .nil pass0 rfl) pa_nil))) pa_nil)) (pe_callB (call_showV hG2 hu) (by rfl) mrp boot_repr (pa_cons (pe_callTy call_list_of (by rfl) mlist boot_list (pa_cons (pe_ix ix_list (pv 10) (pv 12) (fun _ _ => rfl)) pa_nil)) pa_nil)) (nomark _)) (pss_one (ps_ret pe_bl)) pss_nil)
    (pss_one (ps_for PassesOwn.never rfl (RZ.pi_zipA (by rfl) TN.zip (pa_cons (pv 13) (pa_cons (pv 11) pa_nil))) (pg_tup rfl (pgs_cons (pg_name (i := 15) scRgt.nd rfl (.inl rfl)) (pgs_cons (pg_name (i := 16) scRgt.nd rfl (.inl rfl)) pgs_nil)))
    (pss_cons (ps_set (i := 17) scRgt.nd rfl (.inl rfl) (pe_op op_sub (pe_ix ix_list (pv 9) (pe_ix ix_list (pv 8) (pv 12) (fun _ _ => rfl)) (fun _ _ => rfl)) (pe_ix ix_list (pv 9) (pe_ix ix_list (pv 8) (pv 16) (fun _ _ => rfl)) (fun _ _ => rfl))))
    (pss_one (ps_if (PW.pt (pw_or (pt_cmpR op_ne (pe_call GC hr5 (by rfl) gC kC bC .nil passX0 (pa_cons (pv 14) (pa_cons (pv 15) pa_nil))) (pe_ifExp (pt_cmpR op_eq (pv 17) pe_int (nomark _)) pe_int (pe_ifExp (pt_cmpR op_gt (pv 17) pe_int (nomark _)) pe_int (pe_un un_neg pe_int))) (nomark _)) (pw_or1 (pt_cmpR op_ne (pe_cmpR (op_eqO Deq Feq hr2 beq pass0) (pv 14) (pv 15) (nomark _)) (pe_cmpR op_eq (pv 17) pe_int (nomark _)) (nomark _))))) (pss_one (ps_ret pe_bl)) pss_nil)))))))
    (pss_cons (ps_par (i := 18) (j := 19) (by rfl) scRgt.nd rfl rfl (by decide) rfl rfl (pa_cons (pe_tup pa_nil) (pa_cons (pe_ix ix_list (pv 13) pe_int (fun _ _ => rfl)) pa_nil)) (by rfl))
    (pss_cons (ps_for PassesOwn.never rfl (pi_range1 (by rfl) T.rng (pa_cons pe_int pa_nil)) (pg_name (i := 20) scRgt.nd rfl (.inl rfl))
    (pss_one (ps_if (pt_cmpR (op_neU hu) (pe_prop (pv 19) Zc.cls PF FF hr2 bFF .nil pass0 rfl) (pe_tup pa_nil) (nomark _)) (pss_one (ps_par (i := 18) (j := 19) (by rfl) scRgt.nd rfl rfl (by decide) rfl rfl (pa_cons (pe_op op_catA (pv 18) (pe_tup (pa_cons pe_int pa_nil))) (pa_cons (pe_ix ix_tup (pe_prop (pv 19) Zc.cls PF FF hr2 bFF .nil pass0 rfl) pe_int (fun _ _ => rfl)) pa_nil)) (by rfl))) pss_nil)))
    (pss_cons (ps_set (i := 21) scRgt.nd rfl (.inl rfl) (pe_meth (pe_ix ix_list (pv 13) pe_int (fun _ _ => rfl)) Zc.cls Mpu Gpu hr7 bpu .nil passX0 (pa_cons (pv 18) (pa_cons (pe_ix ix_list (pv 13) pe_int (fun _ _ => rfl)) pa_nil))))
    (pss_cons (ps_if (PW.pt (pw_or (pt_cmpR (op_neO Deq nn mo Feq hr3 beq pass0) (pe_ixO (pv 21) (pv 18) Dgi hgi Ggi hr6 bgi passX0) (pe_ix ix_list (pv 13) pe_int (fun _ _ => rfl)) (nomark _)) (pw_or1 (pt_cmpR op_ne (pe_prop (pv 21) Zc.cls Pz Fz hr2 bz .nil pass0 rfl) (pe_op op_add (pe_op op_sub (pe_prop (pe_ix ix_list (pv 13) pe_int (fun _ _ => rfl)) Zc.cls Pz Fz hr2 bz .nil pass0 rfl) (pe_prop (pe_ixO (pe_ix ix_list (pv 13) pe_int (fun _ _ => rfl)) (pv 18) Dgi hgi Ggi hr6 bgi passX0) Zc.cls Pz Fz hr2 bz .nil pass0 rfl)) (pe_prop (pe_ix ix_list (pv 13) pe_int (fun _ _ => rfl)) Zc.cls Pz Fz hr2 bz .nil pass0 rfl)) (nomark _))))) (pss_one (ps_ret pe_bl)) pss_nil)
    (pss_one (ps_ret (pe_and (pe_cmpR (op_eqO Deq Feq hr2 beq pass0) (ClX.pe_cmeth (pe_glob (v := .ref CT) (by rfl) gTr rfl) rdT cmR FRr hr9 passX0 (pa_cons (pv 5) (pa_cons (pe_callTy (call_strO Dst Fst hr3 bst pass0) (by rfl) T.str boot_str (pa_cons (pv 21) pa_nil)) pa_nil))) (pv 21) (nomark _)) (pe_one (pe_cmpR (op_eqO Deq Feq hr2 beq pass0) (ClX.pe_cmeth (pe_glob (v := .ref CT) (by rfl) gTr rfl) rd cm FOr hr7 pass0 (pa_cons (pv 5) (pa_cons (pe_prop (pv 21) Zc.cls PR FR hr2 bRR .nil pass0 rfl) pa_nil))) (pv 21) (nomark _))))))))))))))))))), ?_⟩
  have z0' : 0 ≤ sizeLine := Nat.zero_le _
  have l2 : 2 ≤ sizeLine := by show 2 ≤ sizeLine; decide
  have kpR : ∀ (H H' : Hp) (v : V) (c : Rw), RowV H v c → Nl H H' → RowV H' v c := fun _ _ _ _ h s => by
    obtain ⟨b, f, e, h1, h2⟩ := h
    exact ⟨b, f, e, s _ _ (fun zs z => by cases z) h1, s _ _ (fun zs z => by cases z) h2⟩
  have ne_p : ∀ {G : Hp} {a : Addr}, DealAt G p → G a = none → a ≠ p := fun {G a} D n e => by
    obtain ⟨_, _, _, ep, _⟩ := D
    rw [e, ep] at n
    cases n
  -- the words
  refine seq_join (fun σ G => ∃ (q0 : Addr) (k z0 z1 z2 z3 : Str), σ = [some (.ref p), some (.ref q0), none, none, none, none, none, none, none, none, none, none, none, none, none, none, none, none, none, none, none, none, none] ∧ DealAt G p ∧ Sb p H G ∧ G q0 = some (.lst [.str k, .str z0, .str z1, .str z2, .str z3]) ∧ nmS k = true ∧ (∀ z ∈ [z0, z1, z2, z3], nmS z = true) ∧ [z0, z1, z2, z3].Nodup) ?_ fun rest => ?_
  rotate_left
  · refine ⟨.ref p, rfl, p, 5, rfl, hD, by decide, fun q0 ts H1 D1 b1 nq qp eq hz nd hl => ?_⟩
    match ts, hl with
    | [k, z0, z1, z2, z3], _ => exact rest _ _ ⟨q0, k, z0, z1, z2, z3, rfl, D1, b1, eq, hz _ (List.mem_cons_self ..), fun z h => hz z (List.mem_cons_of_mem _ h), (List.nodup_cons.mp nd).2⟩
  rintro σ G1 ⟨q0, k, z0, z1, z2, z3, rfl, D1, b1, eq1, hk, hz, nd⟩
  have g : Good (mG (zf z0 z1 z2 z3) k) := good_mG hk (fun i hi => by
    match i, hi with
    | 0, _ => exact hz z0 (by simp)
    | 1, _ => exact hz z1 (by simp)
    | 2, _ => exact hz z2 (by simp)
    | 3, _ => exact hz z3 (by simp)) nd
  have hcut : cutV [V.str k, .str z0, .str z1, .str z2, .str z3] (some (1 : Int)) none = [V.str z0, .str z1, .str z2, .str z3] := cut_drop (i := 1) (xs := [V.str k, .str z0, .str z1, .str z2, .str z3]) (by simp)
  -- the kind, the names
  refine seq_join (fun σ G => ∃ (N : Addr), σ = [some (.ref p), some (.ref q0), some (.str k), some (.ref N), none, none, none, none, none, none, none, none, none, none, none, none, none, none, none, none, none, none, none] ∧ Same G1 G ∧ G N = some (.lst [.str z0, .str z1, .str z2, .str z3]) ∧ N ≠ p) ?_ fun rest => ?_
  rotate_left
  · refine ⟨.ref q0, rfl, q0, _, _, .str k, rfl, rfl, SqL.of eq1, rfl, .ref q0, rfl, _, rfl, q0, _, rfl, SqL.of eq1, fun c nc => ⟨l2, fun Tp nT => ⟨Tp, _, rfl, SqT.of upd_same, rfl, _, _, rfl, _, _, rfl, rfl, rest _ _ ⟨c, rfl, (same_new nc).trans (same_new nT), ?_, ne_p D1 nc⟩⟩⟩⟩
    have e := same_new (o := .tup [.str k, .ref c]) nT c _ upd_same
    rw [hcut] at e
    rw [hcut]
    exact e
  rintro σ G2 ⟨N, rfl, s2, eN2, Np⟩
  have D2 := D1.keep s2
  have b2 := b1.trans (.of s2)
  have eq2 := s2 _ _ eq1
  clear D1 b1 s2 eq1
  -- the model
  refine seq_join (fun σ G => ∃ (MT : Addr), σ = [some (.ref p), some (.ref q0), some (.str k), some (.ref N), some (.ref MT), none, none, none, none, none, none, none, none, none, none, none, none, none, none, none, none, none, none] ∧ Same G2 G ∧ RowsT G MT (mG (zf z0 z1 z2 z3) k).rs) ?_ fun rest => ?_
  rotate_left
  · refine ⟨_, rfl, by decide, by decide, fun Dd nD => lc_relRN (cs := (List.range 4).map (rG (zf z0 z1 z2 z3) k)) (G := RowV) kpR (fun _ => rfl) nD (by decide) rfl (fun i c H3 hc s3 q3 kk => ?_) fun H3 zs s3 eD pz => .inl ⟨Dd, zs, rfl, SqL.of eD, fun MT nMT => rest _ _ ⟨MT, rfl, s3.trans (same_new nMT), zs, .inl upd_same, Paired.mapP pz fun _ _ h => RowV.keep h (same_new nMT)⟩⟩⟩
    have hi : i < 4 := by
      have := (List.getElem?_eq_some_iff.mp hc).1
      simpa using this
    rw [List.getElem?_map, List.getElem?_range hi] at hc
    cases hc
    have ez : ([V.str z0, .str z1, .str z2, .str z3] : List V)[i]? = some (.str (zf z0 z1 z2 z3 i)) := by
      match i, hi with
      | 0, _ => rfl
      | 1, _ => rfl
      | 2, _ => rfl
      | 3, _ => rfl
    have hrep : (List.replicate i [V.str k]).flatten = (List.replicate i k).map V.str := by simp
    refine ⟨.ref N, rfl, .int (0 + (i : Int)), rfl, N, _, _, .str (zf z0 z1 z2 z3 i), rfl, rfl, SqL.of (s3 _ _ eN2), at_of (j := i) (by omega) ez, .str k, rfl, .str k, rfl, (by show 1 ≤ sizeLine; decide), fun t nt => ⟨.int (0 + (i : Int)), rfl, t, i, [.str k], rfl, by rw [Int.zero_add], SqT.of upd_same, by simp, by omega, by show 1 ≤ 1000; decide, fun h1 => ?_, fun hn f nf => ?_⟩⟩
    · refine ⟨(by show 3 ≤ sizeLine; decide), fun Tp nT => kk _ _ ((same_new nt).trans (same_new nT)) ⟨Tp, t, rfl, upd_same, ?_⟩⟩
      subst h1
      exact same_new nT _ _ upd_same
    · refine ⟨(by show 3 ≤ sizeLine; decide), fun Tp nT => kk _ _ ((same_new nt).trans ((same_new nf).trans (same_new nT))) ⟨Tp, f, rfl, upd_same, ?_⟩⟩
      have e := same_new (o := .tup [.str (zf z0 z1 z2 z3 i), .str k, .ref f]) nT f _ upd_same
      rw [hrep] at e
      rw [hrep]
      exact e
  rintro σ G3 ⟨MT, rfl, s3, hR3⟩
  have D3 := D2.keep s3
  have b3 := b2.trans (.of s3)
  have eq3 := s3 _ _ eq2
  have eN3 := s3 _ _ eN2
  clear D2 b2 s3 eq2 eN2
  -- the schema, the rows
  refine seq_join (fun σ G => ∃ (Sc R : Addr) (xs : List V) (rows : List Rn), σ = [some (.ref p), some (.ref q0), some (.str k), some (.ref N), some (.ref MT), some (.ref Sc), some (.ref R), none, none, none, none, none, none, none, none, none, none, none, none, none, none, none, none] ∧ DealAt G p ∧ Sb p G3 G ∧ ScAt CS G Sc (mG (zf z0 z1 z2 z3) k) ∧ G R = some (.lst xs) ∧ R ≠ p ∧ Paired (RowN G) xs rows ∧ Grown (zf z0 z1 z2 z3) rows ∧ 2 ≤ rows.length ∧ rows.length ≤ 60) ?_ fun rest => ?_
  rotate_left
  · refine ⟨.str k, rfl, (by show 1 ≤ sizeLine; decide), fun kA nkA => ⟨.ref MT, rfl, fun x1 dx1 nx1 nd1 ne1 => ?_⟩⟩
    have sk := same_new (o := .tup [.str k]) nkA
    have s0 := mk_baseT (C := CS) nx1 nd1
    refine ⟨x1, dx1, kA, MT, mG (zf z0 z1 z2 z3) k, rfl, upd_same, s0 _ _ upd_same, (hR3.keep sk).keep s0, g, fun n1 H2 bt1 nx ex1 fz1 => ⟨rfl, ?_⟩⟩
    have s1 := mk_sameT nx1 nd1 bt1
    have sA := sk.trans s1
    have hS1 : ScAt CS H2 x1 (mG (zf z0 z1 z2 z3) k) := ⟨dx1, kA, MT, n1, ex1, s1 _ _ upd_same, hR3.keep sA, fz1⟩
    refine ⟨.ref p, rfl, .ref q0, rfl, _, rfl, q0, _, rfl, SqL.of (sA _ _ eq3), fun L nL => ?_⟩
    rw [hcut]
    have sL := same_new (o := .lst [V.str z0, .str z1, .str z2, .str z3]) nL
    have DL := D3.keep (sA.trans sL)
    refine ⟨p, L, zf z0 z1 z2 z3, rfl, DL, upd_same, ne_p (D3.keep sA) nL, fun R xs rows H4 D4 b4 eR Rp nR pR gr r2 r60 => ⟨l2, fun Tp nT => ⟨Tp, _, rfl, SqT.of upd_same, rfl, _, _, rfl, _, _, rfl, rfl, rest _ _ ⟨x1, R, xs, rows, rfl, D4.keep (same_new nT), ((Sb.of (sA.trans sL)).trans b4).trans (.of (same_new nT)), ((hS1.keep sL).nl (Nl.deal DL b4)).keep (same_new nT), same_new nT _ _ eR, Rp, Paired.mapP pR fun _ _ h => RowN.keep h (same_new nT), gr, r2, r60⟩⟩⟩⟩
  rintro σ G4 ⟨Sc, R, xs, rows, rfl, D4, b34, hS4, eR4, Rp, pR4, gr, r2, r60⟩
  have b4 := b3.trans b34
  have eN4 := b34 _ _ Np eN3
  obtain ⟨ts, bd'⟩ := grown_bld g gr
  have lt : ts.length = rows.length := bd'.len.symm
  have lxs : xs.length = rows.length := Paired.length pR4
  have hkind : ∀ t : Tr, t.Ok (mG (zf z0 z1 z2 z3) k) → t.row.2.1 = k := fun t h => List.mem_singleton.mp (g.rk _ (Tr.ok_iff.mp h).1)
  have eN4' : G4 N = some (.lst (nmsL (mG (zf z0 z1 z2 z3) k))) := eN4
  generalize mG (zf z0 z1 z2 z3) k = m at *
  clear D3 b3 eq3 eN3 b34 eN4 hR3 gr
  -- the unlike ones
  refine seq_join (fun σ G => ∃ (M Pl : Addr) (ys : List V), σ = [some (.ref p), some (.ref q0), some (.str k), some (.ref N), some (.ref MT), some (.ref Sc), some (.ref R), some (.ref M), some (.ref Pl), none, none, none, none, none, none, none, none, none, none, none, none, none, none] ∧ Same G4 G ∧ Pl ≠ p ∧ G M = some (.lst ys) ∧ Paired (RowN G) ys (codes (woods ts)) ∧ G Pl = some (.lst (nsV (ts.map fun t => (woods ts).idxOf t)))) ?_ fun rest => ?_
  rotate_left
  · exact ⟨.ref R, rfl, R, m, xs, rows, ts, rfl, eR4, pR4, bd', g, r60, fun Tp M Pl ys H' s eT nM nPl eM pM ePl => ⟨Tp, _, rfl, SqT.of eT, rfl, _, _, rfl, _, _, rfl, rfl, rest _ _ ⟨M, Pl, ys, rfl, s, ne_p D4 nPl, eM, pM, ePl⟩⟩⟩
  rintro σ G5 ⟨M, Pl, ys, rfl, s5, Plp, eM5, pM5, ePl5⟩
  have D5 := D4.keep s5
  have b5 := b4.trans (.of s5)
  have okW : ∀ u ∈ woods ts, u.Ok m := fun u hu => bd'.ok u (woods_mem.mp hu)
  have oW : Ord (woods ts) := by
    have := woods_ord bd' ts.length (Nat.le_refl _)
    rwa [List.take_length] at this
  have lW : (woods ts).length ≤ 60 := by
    have := (woods_nd ts).length_le_of_subset fun u hu => woods_mem.mp hu
    omega
  have lW1 : 1 ≤ (woods ts).length := List.length_pos_of_mem (woods_mem.mpr (List.getElem_mem (show 0 < ts.length by omega)))
  -- their ranks, the sizes
  refine seq_join (fun σ G => ∃ (Rk Sz : Addr) (ws : List V), σ = [some (.ref p), some (.ref q0), some (.str k), some (.ref N), some (.ref MT), some (.ref Sc), some (.ref R), some (.ref M), some (.ref Pl), some (.ref Rk), some (.ref Sz), none, none, none, none, none, none, none, none, none, none, none, none] ∧ Same G5 G ∧ Rk ≠ p ∧ Sz ≠ p ∧ G Rk = some (.lst (nsV ((woods ts).map fun t => rnk m (woods ts) t))) ∧ G Sz = some (.lst ws) ∧ Paired (PrI G) ws ts) ?_ fun rest => ?_
  rotate_left
  · exact ⟨.ref N, rfl, .ref M, rfl, N, M, m, woods ts, ys, rfl, s5 _ _ eN4', eM5, pM5, g, okW, oW, woods_nd ts, lW1, lW, fun Rk H' s nRk eRk => ⟨.ref R, rfl, R, m, xs, rows, ts, rfl, (s5.trans s) _ _ eR4, Paired.mapP pR4 fun _ _ h => RowN.keep h (s5.trans s), bd', r60, fun Sz ws H'' s' nSz eSz pSz => ⟨_, _, rfl, rest _ _ ⟨Rk, Sz, ws, rfl, s.trans s', ne_p D5 nRk, ne_p (D5.keep s) nSz, s' _ _ eRk, eSz, pSz⟩⟩⟩⟩
  rintro σ G6 ⟨Rk, Sz, ws, rfl, s6, Rkp, Szp, eRk6, eSz6, pSz6⟩
  have D6 := D5.keep s6
  have b6 := b5.trans (.of s6)
  have s56 := s5.trans s6
  have eR6 := s56 _ _ eR4
  have hS6 := hS4.keep s56
  have pR6 : Paired (RowN G6) xs rows := Paired.mapP pR4 fun _ _ h => RowN.keep h s56
  have ePl6 := s6 _ _ ePl5
  clear D4 D5 b4 b5 s5 s6 s56 eR4 hS4 pR4 ePl5 eM5 pM5 eN4'
  -- the spots
  refine seq_join (fun σ G => ∃ (Sp : Addr) (d : Nat), σ = [some (.ref p), some (.ref q0), some (.str k), some (.ref N), some (.ref MT), some (.ref Sc), some (.ref R), some (.ref M), some (.ref Pl), some (.ref Rk), some (.ref Sz), some (.ref Sp), none, none, none, none, none, none, none, none, none, none, none] ∧ d < rows.length ∧ Sb p H G ∧ ScAt CS G Sc m ∧ G R = some (.lst xs) ∧ Paired (RowN G) xs rows ∧ G Pl = some (.lst (nsV (ts.map fun t => (woods ts).idxOf t))) ∧ G Rk = some (.lst (nsV ((woods ts).map fun t => rnk m (woods ts) t))) ∧ G Sz = some (.lst ws) ∧ Paired (PrI G) ws ts ∧ G Sp = some (.lst (nsV [rows.length - 1, rows.length - 2, d, rows.length - 1]))) ?_ fun rest => ?_
  rotate_left
  · refine ⟨.ref R, rfl, R, xs, rfl, .inl (SqL.of eR6), _, _, rfl, rfl, .ref R, rfl, R, xs, rfl, .inl (SqL.of eR6), _, _, rfl, rfl, .ref p, rfl, .ref R, rfl, R, xs, rfl, .inl (SqL.of eR6), p, _, rfl, D6, by omega, by omega, fun d H7 d0 d1 D7 b7 => ⟨.ref R, rfl, R, xs, rfl, .inl (SqL.of (b7 _ _ Rp eR6)), _, _, rfl, rfl, (by show 4 ≤ sizeLine; decide), fun Sp nSp => ?_⟩⟩
    have n7 := Nl.deal D6 b7
    have sS := fun o => same_new (o := o) nSp
    refine rest _ _ ⟨Sp, d.toNat, rfl, by omega, (b6.trans b7).trans (.of (sS _)), (hS6.nl n7).keep (sS _), sS _ _ _ (b7 _ _ Rp eR6), Paired.mapP pR6 fun _ _ h => (h.tk n7.tk).tk (.of (sS _)), sS _ _ _ (b7 _ _ Plp ePl6), sS _ _ _ (b7 _ _ Rkp eRk6), sS _ _ _ (b7 _ _ Szp eSz6), Paired.mapP pSz6 fun _ _ h => (h.tk n7.tk).tk (.of (sS _)), ?_⟩
    rw [upd_same]
    show some (HO.lst [V.int (((xs.length : Nat) : Int) - 1), .int (((xs.length : Nat) : Int) - 2), .int d, .int (((xs.length : Nat) : Int) - 1)]) = some (HO.lst [V.int ((rows.length - 1 : Nat) : Int), .int ((rows.length - 2 : Nat) : Int), .int ((d.toNat : Nat) : Int), .int ((rows.length - 1 : Nat) : Int)])
    rw [show ((rows.length - 1 : Nat) : Int) = ((xs.length : Nat) : Int) - 1 by omega, show ((rows.length - 2 : Nat) : Int) = ((xs.length : Nat) : Int) - 2 by omega, show ((d.toNat : Nat) : Int) = d by omega]
  rintro σ G7 ⟨Sp, d, rfl, hd, b7, hS7, eR7, pR7, ePl7, eRk7, eSz7, pSz7, eSp7⟩
  obtain ⟨sp, hsp⟩ : ∃ sp, sp = [rows.length - 1, rows.length - 2, d, rows.length - 1] := ⟨_, rfl⟩
  have lsp : sp.length = 4 := by rw [hsp]; rfl
  have spl : ∀ n ∈ sp, n < ts.length := fun n hn => by
    rw [hsp] at hn
    simp only [List.mem_cons, List.not_mem_nil, or_false] at hn
    omega
  rw [← hsp] at eSp7
  clear hsp D6 b6 eR6 hS6 pR6 ePl6 eRk6 eSz6 pSz6 hd
  obtain ⟨tr, htr⟩ : ∃ tr : Nat → Tr, ∀ n, n < ts.length → ts[n]? = some (tr n) := ⟨fun n => (ts[n]?).getD (.n0 (Str.empty, Str.empty, [])), fun n hn => by show _ = some ((ts[n]?).getD _); rw [List.getElem?_eq_getElem hn]; rfl⟩
  -- the trees
  refine seq_join (fun σ G => ∃ (W : Addr) (vs : List V), σ = [some (.ref p), some (.ref q0), some (.str k), some (.ref N), some (.ref MT), some (.ref Sc), some (.ref R), some (.ref M), some (.ref Pl), some (.ref Rk), some (.ref Sz), some (.ref Sp), none, some (.ref W), none, none, none, none, none, none, none, none, none] ∧ Same G7 G ∧ G W = some (.lst vs) ∧ Paired (fun v n => ∃ a, v = V.ref a ∧ TrAt CT CS m G a (tr n)) vs sp) ?_ fun rest => ?_
  rotate_left
  · refine ⟨.ref Sp, rfl, Sp, rfl, ⟨_, SqL.of eSp7⟩, fun Dd nD => lc_relLN (K := K) (a := Sp) (xs := nsV sp) (cs := sp) (G := fun G v n => ∃ a, v = V.ref a ∧ TrAt CT CS m G a (tr n)) (fun _ _ _ _ h s => by obtain ⟨a, e, h⟩ := h; exact ⟨a, e, h.nl s⟩) (fun _ => rfl) nD (SqL.of eSp7) (by rw [nsV_len]; omega) (by rw [nsV_len]) (fun j x n H3 hx hn s3 q3 kk => ?_) fun H3 vs s3 eD pv => rest _ _ ⟨Dd, vs, rfl, s3, eD, pv⟩⟩
    unfold nsV at hx
    rw [List.getElem?_map, hn] at hx
    cases hx
    have hl := spl n (List.mem_of_getElem? hn)
    have lr : n + 1 ≤ rows.length := by omega
    refine ⟨rfl, .ref Sc, rfl, .ref R, rfl, .int ((n : Nat) : Int), rfl, _, _, rfl, rfl, ((n + 1 : Nat) : Int), rfl, R, _, rfl, SqL.of (s3 _ _ eR7), fun c nc => ?_⟩
    rw [cut_take (by omega)]
    refine .inl ⟨c, _, rfl, SqL.of upd_same, fun Tp nT => ?_⟩
    have sc := same_new (o := .lst (xs.take (n + 1))) nc
    have sT := same_new (o := .tup (xs.take (n + 1))) nT
    have s3T := s3.trans (sc.trans sT)
    refine ⟨Sc, Tp, m, rows.take (n + 1), ts.take (n + 1), tr n, rfl, hS7.keep s3T, g, ⟨_, upd_same, par_takeG _ (Paired.mapP pR7 fun _ _ h => RowN.keep h s3T)⟩, bld_take bd' (n + 1), ?_, ?_, ?_, fun a H' s ht => kk _ _ (sc.trans (sT.trans s)) ⟨a, rfl, ht⟩⟩
    · rw [List.length_take]; omega
    · rw [List.length_take]; omega
    · rw [List.length_take, Nat.min_eq_left lr, Nat.add_sub_cancel, List.getElem?_take, if_pos (by omega), htr n hl]
  rintro σ G8 ⟨W, vs, rfl, s8, eW8, pV8⟩
  have b8 := b7.trans (.of s8)
  have hS8 := hS7.keep s8
  have ePl8 := s8 _ _ ePl7
  have eRk8 := s8 _ _ eRk7
  have eSz8 := s8 _ _ eSz7
  have eSp8 := s8 _ _ eSp7
  have pSz8 : Paired (PrI G8) ws ts := Paired.mapP pSz7 fun _ _ h => h.tk (.of s8)
  clear b7 hS7 eR7 pR7 ePl7 eRk7 eSz7 pSz7 eSp7 s8
  have lvs : vs.length = 4 := by rw [Paired.length pV8, lsp]
  have okT : ∀ n, n < ts.length → (tr n).Ok m := fun n hn => bd'.ok _ (List.mem_of_getElem? (htr n hn))
  have inW : ∀ n, n < ts.length → tr n ∈ woods ts := fun n hn => woods_mem.mpr (List.mem_of_getElem? (htr n hn))
  have getV : ∀ {G : Hp}, Same G8 G → ∀ {j : Nat} {x : V}, vs[j]? = some x → ∃ a n, sp[j]? = some n ∧ n < ts.length ∧ x = .ref a ∧ TrAt CT CS m G a (tr n) := fun {G} s {j x} e => by
    obtain ⟨n, en, a, rfl, h⟩ := par_at pV8 e
    exact ⟨a, n, en, spl n (List.mem_of_getElem? en), rfl, h.keep s⟩
  have place : ∀ n, n < ts.length → (nsV (ts.map fun t => (woods ts).idxOf t))[n]? = some (.int (((woods ts).idxOf (tr n) : Nat) : Int)) := fun n hn => nsV_at (by rw [List.getElem?_map, htr n hn]; rfl)
  have rankAt : ∀ n, n < ts.length → (nsV ((woods ts).map fun t => rnk m (woods ts) t))[(woods ts).idxOf (tr n)]? = some (.int ((rnk m (woods ts) (tr n) : Nat) : Int)) := fun n hn => nsV_at (by rw [List.getElem?_map, idx_at (inW n hn)]; rfl)
  -- each two of them
  refine seq_join (fun σ G => ∃ (o12 o14 o15 o16 o17 : Option V), σ = [some (.ref p), some (.ref q0), some (.str k), some (.ref N), some (.ref MT), some (.ref Sc), some (.ref R), some (.ref M), some (.ref Pl), some (.ref Rk), some (.ref Sz), some (.ref Sp), o12, some (.ref W), o14, o15, o16, o17, none, none, none, none, none] ∧ Same G8 G) ?_ fun rest => ?_
  rotate_left
  · refine ⟨.ref W, rfl, .ref Sp, rfl, W, Sp, vs, nsV sp, rfl, .inl ⟨SqL.of eW8, SqL.of eSp8, RZ.for_zipL (K := K) (a := W) (b := Sp) (xs := vs) (ys := nsV sp) (by rw [nsV_len, lvs, lsp]) (fun i σ G => ∃ (o12 o14 o15 o16 o17 : Option V), σ = [some (.ref p), some (.ref q0), some (.str k), some (.ref N), some (.ref MT), some (.ref Sc), some (.ref R), some (.ref M), some (.ref Pl), some (.ref Rk), some (.ref Sz), some (.ref Sp), o12, some (.ref W), o14, o15, o16, o17, none, none, none, none, none] ∧ Same G8 G) ⟨none, none, none, none, none, rfl, fun _ _ e => e⟩ (fun i σ G pp => ?_) (fun i x y U σ G hx hy pp nU => ?_) (fun σ G pp => ?_)⟩⟩
    · obtain ⟨_, _, _, _, _, _, s9⟩ := pp
      exact ⟨SqL.of (s9 _ _ eW8), SqL.of (s9 _ _ eSp8)⟩
    rotate_left
    · obtain ⟨o12, o14, o15, o16, o17, rfl, s9⟩ := pp
      exact rest _ _ ⟨o12, o14, o15, o16, o17, rfl, s9⟩
    obtain ⟨o12, o14, o15, o16, o17, rfl, s9⟩ := pp
    have s9U := s9.trans (same_new (o := .tup [x, y]) nU)
    obtain ⟨a1, n1, en1, hn1, rfl, ht1⟩ := getV s9U hx
    unfold nsV at hy
    rw [List.getElem?_map, en1] at hy
    cases hy
    refine ⟨U, _, rfl, SqT.of upd_same, rfl, _, _, rfl, _, _, rfl, rfl, ?_⟩
    have ht1' : TrAt CT CS m G8 a1 (tr n1) := by
      obtain ⟨a, n, en, _, e, h⟩ := getV (fun _ _ e => e) hx
      rw [en1] at en
      cases en
      cases e
      exact h
    generalize upd G U (.tup [V.ref a1, V.int ((n1 : Nat) : Int)]) = GU at *
    show tSeq _ _ _ _ _
    refine seq_join (fun σ G => σ = [some (.ref p), some (.ref q0), some (.str k), some (.ref N), some (.ref MT), some (.ref Sc), some (.ref R), some (.ref M), some (.ref Pl), some (.ref Rk), some (.ref Sz), some (.ref Sp), some (.int ((n1 : Nat) : Int)), some (.ref W), some (.ref a1), o15, o16, o17, none, none, none, none, none] ∧ Same G8 G) ?_ fun rest2 => ?_
    rotate_left
    · obtain ⟨sz, dz⟩ := bld_small bd' r60 (htr n1 hn1)
      obtain ⟨c1, c2, c3, c4⟩ := sd_sb sz dz
      have ew : ws[n1]? = some (ws[n1]'(by rw [Paired.length pSz8]; exact hn1)) := List.getElem?_eq_getElem _
      obtain ⟨t', et', bb, eb, hbb⟩ := par_at pSz8 ew
      rw [htr n1 hn1] at et'
      cases et'
      rw [eb] at ew
      cases id ht1 with
      | @mk _ dB RB sB FB _ bsB eB hsB hRB hFB lbB kbB =>
      refine ⟨.ref a1, rfl, a1, dB, _, rfl, eB, a1, dB, _, _, rfl, eB, trF_z, .ref a1, rfl, a1, dB, _, rfl, eB, a1, dB, _, _, rfl, eB, trF_d, l2, fun L nL => ⟨.ref L, .list [.int (((tr n1).size : Nat) : Int), .int (((tr n1).dep : Nat) : Int)], rfl, .lst (SqL.of upd_same) (.cons (.int _) (.cons (.int _) .nil)), c1, c2, c3, c4, ?_⟩⟩
      have sL := s9U.trans (same_new (o := .lst [.int (((tr n1).size : Nat) : Int), .int (((tr n1).dep : Nat) : Int)]) nL)
      refine ⟨.ref Sz, rfl, .int ((n1 : Nat) : Int), rfl, Sz, ws, _, .ref bb, rfl, rfl, SqL.of (sL _ _ eSz8), atI_nat ew, bb, _, rfl, .inr (SqT.of (sL _ _ hbb)), fun L2 nL2 => ⟨.ref L2, .list [.int (((tr n1).size : Nat) : Int), .int (((tr n1).dep : Nat) : Int)], rfl, .lst (SqL.of upd_same) (.cons (.int _) (.cons (.int _) .nil)), c1, c2, c3, c4, rfl, _, rfl, ?_⟩⟩
      rw [decide_eq_true rfl]
      exact iteF (rest2 _ _ ⟨rfl, sL.trans (same_new nL2)⟩)
    rintro σ G9 ⟨rfl, s10⟩
    refine ⟨.ref W, rfl, .ref Sp, rfl, W, Sp, vs, nsV sp, rfl, .inl ⟨SqL.of (s10 _ _ eW8), SqL.of (s10 _ _ eSp8), RZ.for_zipL (K := K) (a := W) (b := Sp) (xs := vs) (ys := nsV sp) (by rw [nsV_len, lvs, lsp]) (fun i σ G => ∃ (o15 o16 o17 : Option V), σ = [some (.ref p), some (.ref q0), some (.str k), some (.ref N), some (.ref MT), some (.ref Sc), some (.ref R), some (.ref M), some (.ref Pl), some (.ref Rk), some (.ref Sz), some (.ref Sp), some (.int ((n1 : Nat) : Int)), some (.ref W), some (.ref a1), o15, o16, o17, none, none, none, none, none] ∧ Same G8 G) ⟨o15, o16, o17, rfl, s10⟩ (fun i σ G pp => ?_) (fun i x y U2 σ G hx hy pp nU2 => ?_) (fun σ G pp => ?_)⟩⟩
    · obtain ⟨_, _, _, _, s11⟩ := pp
      exact ⟨SqL.of (s11 _ _ eW8), SqL.of (s11 _ _ eSp8)⟩
    rotate_left
    · obtain ⟨o15, o16, o17, rfl, s11⟩ := pp
      exact ⟨_, _, _, _, _, rfl, s11⟩
    obtain ⟨o15', o16', o17', rfl, s11⟩ := pp
    have s11U := s11.trans (same_new (o := .tup [x, y]) nU2)
    obtain ⟨a2, n2, en2, hn2, rfl, ht2⟩ := getV s11U hx
    unfold nsV at hy
    rw [List.getElem?_map, en2] at hy
    cases hy
    refine ⟨U2, _, rfl, SqT.of upd_same, rfl, _, _, rfl, _, _, rfl, rfl, ?_⟩
    have ht1b := ht1'.keep s11U
    generalize upd G U2 (.tup [V.ref a2, V.int ((n2 : Nat) : Int)]) = GV at *
    have ePl := s11U _ _ ePl8
    have eRk := s11U _ _ eRk8
    obtain ⟨dd, hdd⟩ : ∃ dd : Int, dd = ((rnk m (woods ts) (tr n1) : Nat) : Int) - ((rnk m (woods ts) (tr n2) : Nat) : Int) := ⟨_, rfl⟩
    show tSeq _ _ _ _ _
    refine seq_join (fun σ G => σ = [some (.ref p), some (.ref q0), some (.str k), some (.ref N), some (.ref MT), some (.ref Sc), some (.ref R), some (.ref M), some (.ref Pl), some (.ref Rk), some (.ref Sz), some (.ref Sp), some (.int ((n1 : Nat) : Int)), some (.ref W), some (.ref a1), some (.ref a2), some (.int ((n2 : Nat) : Int)), some (.int dd), none, none, none, none, none] ∧ G = GV) ?_ fun rest2 => ?_
    rotate_left
    · refine ⟨.ref Rk, rfl, .ref Pl, rfl, .int ((n1 : Nat) : Int), rfl, Pl, _, _, _, rfl, rfl, SqL.of ePl, atI_nat (place n1 hn1), Rk, _, _, _, rfl, rfl, SqL.of eRk, atI_nat (rankAt n1 hn1), .ref Rk, rfl, .ref Pl, rfl, .int ((n2 : Nat) : Int), rfl, Pl, _, _, _, rfl, rfl, SqL.of ePl, atI_nat (place n2 hn2), Rk, _, _, _, rfl, rfl, SqL.of eRk, atI_nat (rankAt n2 hn2), _, _, rfl, rfl, rest2 _ _ ⟨?_, rfl⟩⟩
      rw [hdd]
      rfl
    rintro σ G10 ⟨rfl, rfl⟩
    have ec : cmpT m (tr n1) (tr n2) = if dd = 0 then 0 else if 0 < dd then 1 else -1 := by rw [hdd]; exact rnk_cmp okW (inW n1 hn1) (inW n2 hn2)
    have ee : decide (tr n1 = tr n2) = decide (V.int dd = V.int 0) := decide_eq_decide.mpr ⟨fun h => by rw [hdd, h, Int.sub_self], fun h => by
      injection h with h
      exact rnk_inj okW (inW n1 hn1) (inW n2 hn2) (by omega)⟩
    refine ⟨.ref a1, rfl, .ref a2, rfl, .ref a1, .ref a2, rfl, .inr ⟨a1, m, tr n1, rfl, ht1b, g, okT n1 hn1, .inr ⟨a2, m, tr n2, rfl, ht2, g, okT n2 hn2, .inr ⟨rfl, fun H6 s12 => due_tif (i := 17) (d := dd) rfl ?_⟩⟩⟩⟩
    rw [ec]
    refine ⟨rfl, _, rfl, ?_⟩
    rw [decide_eq_true rfl]
    have hA := ht1b.keep s12
    have hB := ht2.keep s12
    obtain ⟨i1, f1, x1⟩ := hA.ins
    obtain ⟨i2, f2, x2⟩ := hB.ins
    refine iteF ⟨.ref a1, rfl, .ref a2, rfl, a1, i1, f1, rfl, x1, .inl ⟨a2, i2, f2, rfl, x2⟩, a1, .ref a2, m, tr n1, rfl, hA, g, okT n1 hn1, .inl ⟨a2, tr n2, rfl, hB, okT n2 hn2, _, rfl, .int dd, rfl, rfl, rfl, _, rfl, ?_⟩⟩
    rw [ee, show (!decide (V.bl (decide (V.int dd = V.int 0)) = V.bl (decide (V.int dd = V.int 0)))) = false by simp]
    exact iteF ⟨_, _, _, rfl, s11U.trans s12⟩
  rintro σ G9 ⟨o12, o14, o15, o16, o17, rfl, s9⟩
  have b9 := b8.trans (.of s9)
  have hS9 := hS8.keep s9
  have eW9 := s9 _ _ eW8
  obtain ⟨x0, e0⟩ : ∃ x, vs[0]? = some x := ⟨_, List.getElem?_eq_getElem (by omega)⟩
  obtain ⟨x2, e2⟩ : ∃ x, vs[2]? = some x := ⟨_, List.getElem?_eq_getElem (by omega)⟩
  obtain ⟨a0, n0, _, hn0, rfl, h0⟩ := getV s9 e0
  obtain ⟨a2, n2, _, hn2, rfl, h2⟩ := getV s9 e2
  have ok0 := okT n0 hn0
  have ok2 := okT n2 hn2
  have sl0 := bld_sub bd' (htr n0 hn0)
  have sl2 := bld_sub bd' (htr n2 hn2)
  generalize tr n0 = t0 at *
  generalize tr n2 = t2 at *
  clear b8 hS8 ePl8 eRk8 eSz8 eSp8 pSz8 pV8 eW8
  -- a path
  refine seq_join (fun σ G => ∃ Pa : Addr, σ = [some (.ref p), some (.ref q0), some (.str k), some (.ref N), some (.ref MT), some (.ref Sc), some (.ref R), some (.ref M), some (.ref Pl), some (.ref Rk), some (.ref Sz), some (.ref Sp), o12, some (.ref W), o14, o15, o16, o17, some (.ref Pa), some (.ref a0), none, none, none] ∧ Same G9 G ∧ G Pa = some (.tup [])) ?_ fun rest => ?_
  rotate_left
  · exact ⟨z0', fun Pa nPa => ⟨.ref W, rfl, W, _, _, .ref a0, rfl, rfl, SqL.of (same_new nPa _ _ eW9), atI_nat (j := 0) e0, _, _, rfl, rest _ _ ⟨Pa, rfl, same_new nPa, upd_same⟩⟩⟩
  rintro σ G10 ⟨Pa0, rfl, s10, ePa0⟩
  refine seq_join (fun σ G => ∃ (o20 : Option V) (Pa h : Addr) (j : Nat) (u : Tr), σ = [some (.ref p), some (.ref q0), some (.str k), some (.ref N), some (.ref MT), some (.ref Sc), some (.ref R), some (.ref M), some (.ref Pl), some (.ref Rk), some (.ref Sz), some (.ref Sp), o12, some (.ref W), o14, o15, o16, o17, some (.ref Pa), some (.ref h), o20, none, none] ∧ Same G9 G ∧ G Pa = some (.tup (List.replicate j (.int 0))) ∧ j ≤ 3 ∧ walk t0 (List.replicate j (.int 0)) = some u ∧ u.Ok m) ?_ fun rest => ?_
  rotate_left
  · refine ⟨_, rfl, by decide, by decide, for_range (n := 3) (fun i σ G => ∃ (o20 : Option V) (Pa h : Addr) (j : Nat) (u : Tr), σ = [some (.ref p), some (.ref q0), some (.str k), some (.ref N), some (.ref MT), some (.ref Sc), some (.ref R), some (.ref M), some (.ref Pl), some (.ref Rk), some (.ref Sz), some (.ref Sp), o12, some (.ref W), o14, o15, o16, o17, some (.ref Pa), some (.ref h), o20, none, none] ∧ Same G9 G ∧ G Pa = some (.tup (List.replicate j (.int 0))) ∧ j ≤ i ∧ walk t0 (List.replicate j (.int 0)) = some u ∧ TrAt CT CS m G h u ∧ u.Ok m) ⟨none, Pa0, a0, 0, t0, rfl, s10, ePa0, Nat.le_refl _, rfl, h0.keep s10, ok0⟩ ?_ ?_⟩
    · rintro i σ G hi ⟨o20, Pa, h, j, u, rfl, s11, ePa, hj, hw, hh, oku⟩
      cases id hh with
      | @mk _ dB RB sB FB _ bsB eB hsB hRB hFB lbB kbB =>
      refine ⟨.ref h, rfl, h, dB, _, rfl, eB, h, dB, _, _, rfl, eB, trF_F, z0', fun E nE => ⟨FB, E, bsB.map V.ref, rfl, rfl, same_new nE _ _ hFB, upd_same, _, rfl, ?_⟩⟩
      have sE := same_new (o := .tup []) nE
      match bsB, lbB, kbB, hFB with
      | [], _, _, _ => exact iteF ⟨_, Pa, h, j, u, rfl, s11.trans sE, sE _ _ ePa, by omega, hw, hh.keep sE, oku⟩
      | b0 :: bs', lb, kb, hF =>
        have eB' := sE _ _ eB
        have ek : u.kids[0]? = some (u.kids[0]'(by simp at lb; omega)) := List.getElem?_eq_getElem _
        have hb0 := kb 0 b0 _ rfl ek
        refine iteT ⟨.ref Pa, rfl, (by show 1 ≤ sizeLine; decide), fun P1 nP1 => ?_⟩
        have sP := same_new (o := .tup [V.int 0]) nP1
        refine catA_all ((sE.trans sP) _ _ ePa) upd_same (by rw [List.length_replicate]; show j + 1 ≤ sizeLine; exact Nat.le_trans (show j + 1 ≤ 4 by omega) (by decide)) fun P2 H5 s12 eP2 => ?_
        have sA := sE.trans (sP.trans s12)
        refine ⟨.ref h, rfl, h, dB, _, rfl, sA _ _ eB, h, dB, _, _, rfl, sA _ _ eB, trF_F, FB, _, _, .ref b0, rfl, rfl, SqT.of (sA _ _ hF), atI_nat (j := 0) rfl, _, _, rfl, _, P2, b0, j + 1, u.kids[0]'(by simp at lb; omega), rfl, s11.trans sA, ?_, by omega, ?_, hb0.keep sA, (Tr.ok_iff.mp oku).2.2 _ (List.mem_of_getElem? ek)⟩
        · rw [eP2, List.replicate_succ']
        · rw [List.replicate_succ', walk_snoc hw]
          show (if (0 : Int) ≤ 0 then u.kids[(0 : Int).toNat]? else none) = _
          rw [if_pos (Int.le_refl 0)]
          exact ek
    · rintro σ G ⟨o20, Pa, h, j, u, rfl, s11, ePa, hj, hw, _, oku⟩
      exact rest _ _ ⟨o20, Pa, h, j, u, rfl, s11, ePa, hj, hw, oku⟩
  rintro σ G11 ⟨o20, Pa, hh, j, u, rfl, s11, ePa, hj, hw, oku⟩
  have hpv : ∀ (G : Hp), ∀ v ∈ List.replicate j (V.int 0), Pv G v := fun G v hv => by rw [(List.mem_replicate.mp hv).2]; exact .int 0
  have hkd : t2.row.2.1 = u.row.2.1 := by rw [hkind _ ok2, hkind _ oku]
  obtain ⟨okF, _⟩ := putT_ok hw ok0 ok2 hkd
  have lF := putT_len (c := t2) hw
  rw [List.length_replicate] at lF
  have lF200 : (sub (putT t0 (List.replicate j (V.int 0)) t2)).length ≤ 200 := by omega
  have zF := putT_size (c := t2) hw
  have wF := walk_put (c := t2) hw
  obtain ⟨tf, htf⟩ : ∃ tf, tf = putT t0 (List.replicate j (V.int 0)) t2 := ⟨_, rfl⟩
  rw [← htf] at okF lF200 zF wF
  have hS11 := hS9.keep s11
  have eW11 := s11 _ _ eW9
  have h0' := h0.keep s11
  have h2' := h2.keep s11
  have b11 := b9.trans (.of s11)
  clear b9 hS9 eW9 h0 h2 s11 lF
  -- put in
  refine seq_join (fun σ G => ∃ fr : Addr, σ = [some (.ref p), some (.ref q0), some (.str k), some (.ref N), some (.ref MT), some (.ref Sc), some (.ref R), some (.ref M), some (.ref Pl), some (.ref Rk), some (.ref Sz), some (.ref Sp), o12, some (.ref W), o14, o15, o16, o17, some (.ref Pa), some (.ref hh), o20, some (.ref fr), none] ∧ Same G11 G ∧ TrAt CT CS m G fr tf) ?_ fun rest => ?_
  rotate_left
  · cases id h0' with
    | @mk _ dX RX sX FX _ bsX x1 hsX hRX hFX lbX kbX =>
    refine ⟨.ref W, rfl, W, _, _, .ref a0, rfl, rfl, SqL.of eW11, atI_nat (j := 0) e0, a0, dX, _, rfl, x1, rfl, .ref Pa, rfl, .ref W, rfl, W, _, _, .ref a2, rfl, rfl, SqL.of eW11, atI_nat (j := 2) e2, a0, m, t0, .ref Pa, .ref a2, rfl, h0', g, ok0, .inr ⟨Pa, _, rfl, ePa, hpv _, (fun hn => by rw [hw] at hn; cases hn), fun u' eu' => .inr ⟨a2, t2, rfl, h2', ok2, fun ne => ?_, fun _ => ⟨?_, ?_, fun r H' s' hr => rest _ _ ⟨r, rfl, s', ?_⟩⟩⟩⟩⟩
    · rw [hw] at eu'
      cases eu'
      exact absurd hkd ne
    · rw [List.length_replicate]
      exact Nat.lt_of_le_of_lt hj (by decide)
    · rw [← htf]
      exact lF200
    · rw [htf]
      exact hr
  rintro σ G12 ⟨fr, rfl, s12, hfr⟩
  have hS12 := hS11.keep s12
  have eW12 := s12 _ _ eW11
  have h0'' := h0'.keep s12
  have h2'' := h2'.keep s12
  have b12 := b11.trans (.of s12)
  have ePa12 := s12 _ _ ePa
  clear hS11 eW11 h0' h2' b11 ePa s12
  refine seq_join (fun σ G => σ = [some (.ref p), some (.ref q0), some (.str k), some (.ref N), some (.ref MT), some (.ref Sc), some (.ref R), some (.ref M), some (.ref Pl), some (.ref Rk), some (.ref Sz), some (.ref Sp), o12, some (.ref W), o14, o15, o16, o17, some (.ref Pa), some (.ref hh), o20, some (.ref fr), none] ∧ Same G12 G) ?_ fun rest => ?_
  rotate_left
  · obtain ⟨i1, f1, x1⟩ := hfr.ins
    refine ⟨.ref fr, rfl, .ref Pa, rfl, fr, i1, f1, rfl, x1, fr, m, tf, .ref Pa, rfl, hfr, .inr ⟨Pa, _, rfl, ePa12, hpv _, (fun hn => by rw [wF] at hn; cases hn), fun u' eu' b H1 s1 hb => ?_⟩⟩
    rw [wF] at eu'
    cases eu'
    have h2b := h2''.keep s1
    obtain ⟨i3, f3, x3⟩ := hb.ins
    obtain ⟨i4, f4, x4⟩ := h2b.ins
    refine ⟨.ref W, rfl, W, _, _, .ref a2, rfl, rfl, SqL.of (s1 _ _ eW12), atI_nat (j := 2) e2, b, i3, f3, a2, i4, f4, rfl, rfl, x3, x4, b, .ref a2, m, t2, rfl, hb, g, ok2, .inl ⟨a2, t2, rfl, h2b, ok2, _, rfl, _, rfl, ?_⟩⟩
    rw [decide_eq_true rfl]
    refine iteF ?_
    have hfr1 := hfr.keep s1
    have h01 := h0''.keep s1
    cases id hfr1 with
    | @mk _ dA RA sA FA _ bsA eA hsA hRA hFA lbA kbA =>
    cases id h01 with
    | @mk _ dB RB sB FB _ bsB eB hsB hRB hFB lbB kbB =>
    refine ⟨.ref fr, rfl, fr, dA, _, rfl, eA, fr, dA, _, _, rfl, eA, trF_z, .ref W, rfl, W, _, _, .ref a0, rfl, rfl, SqL.of (s1 _ _ eW12), atI_nat (j := 0) e0, a0, dB, _, rfl, eB, a0, dB, _, _, rfl, eB, trF_z, .ref W, rfl, W, _, _, .ref a0, rfl, rfl, SqL.of (s1 _ _ eW12), atI_nat (j := 0) e0, .ref Pa, rfl, a0, dB, _, rfl, eB, a0, m, t0, .ref Pa, rfl, h01, .inr ⟨Pa, _, rfl, s1 _ _ ePa12, hpv _, (fun hn => by rw [hw] at hn; cases hn), fun u' eu' b' H2 s2 hb' => ?_⟩⟩
    rw [hw] at eu'
    cases eu'
    cases id hb' with
    | @mk _ dC RC sC FC _ bsC eC hsC hRC hFC lbC kbC =>
    have s12 := s1.trans s2
    have h22 := h2''.keep s12
    cases id h22 with
    | @mk _ dE RE sE FE _ bsE eE hsE hRE hFE lbE kbE =>
    refine ⟨b', dC, _, rfl, eC, b', dC, _, _, rfl, eC, trF_z, _, _, rfl, rfl, .ref W, rfl, W, _, _, .ref a2, rfl, rfl, SqL.of (s12 _ _ eW12), atI_nat (j := 2) e2, a2, dE, _, rfl, eE, a2, dE, _, _, rfl, eE, trF_z, _, _, rfl, rfl, rfl, _, rfl, ?_⟩
    have ez : (((t0.size : Nat) : Int) - ((u.size : Nat) : Int)) + ((t2.size : Nat) : Int) = ((tf.size : Nat) : Int) := by omega
    show if (!decide (V.int ((tf.size : Nat) : Int) = V.int ((((t0.size : Nat) : Int) - ((u.size : Nat) : Int)) + ((t2.size : Nat) : Int)))) = true then _ else _
    rw [ez, decide_eq_true rfl]
    exact iteF (rest _ _ ⟨rfl, s12⟩)
  rintro σ G13 ⟨rfl, s13⟩
  have hS13 := hS12.keep s13
  have hfr13 := hfr.keep s13
  have b13 := b12.trans (.of s13)
  clear hS12 eW12 h0'' h2'' b12 ePa12 s13
  -- read, of its rows
  obtain ⟨i1, f1, x1⟩ := hfr13.ins
  refine ⟨rfl, .ref Sc, rfl, .ref fr, rfl, fr, i1, f1, rfl, x1, fr, m, tf, rfl, hfr13, g, okF, lF200, fun H1 s1 => ?_⟩
  refine ⟨_, rfl, .ref Sc, .str (stT tf), rfl, .inr ⟨Sc, m, rfl, hS13.keep s1, g, .inr ⟨stT tf, rfl, stT_len g okF lF200, stT_cut g okF lF200, fun hno => absurd rfl (hno tf okF lF200), fun t okt ltt et a H2 s2 ht => ?_⟩⟩⟩
  have e := text_of g okF okt lF200 ltt et
  subst e
  have s02 := s1.trans s2
  have hf2 := hfr13.keep s02
  obtain ⟨i2, f2, x2⟩ := ht.ins
  cases id hf2 with
  | @mk _ dA RA sA FA _ bsA eA hsA hRA hFA lbA kbA =>
  refine ⟨.ref fr, rfl, a, i2, f2, rfl, x2, .inl ⟨fr, dA, _, rfl, eA⟩, a, .ref fr, m, t, rfl, ht, g, okt, .inl ⟨fr, t, rfl, hf2, okt, _, rfl, _, rfl, ?_⟩⟩
  rw [decide_eq_true rfl]
  have sp1 := sub_pos t
  refine iteT ⟨rfl, .ref Sc, rfl, .ref fr, rfl, fr, dA, _, rfl, eA, fr, dA, _, _, rfl, eA, trF_R, Sc, RA, m, codes (sub t), sub t, t, rfl, hS13.keep s02, g, hRA, bld_codes (sub_ord t) (sub_ok okt), by rw [codes_len]; omega, by rw [codes_len]; omega, by rw [codes_len]; exact sub_last t, fun a' H3 s3 ht' => ?_⟩
  have hf3 := hf2.keep s3
  obtain ⟨i3, f3, x3⟩ := ht'.ins
  obtain ⟨i4, f4, x4⟩ := hf3.ins
  refine ⟨.ref fr, rfl, a', i3, f3, rfl, x3, .inl ⟨fr, i4, f4, rfl, x4⟩, a', .ref fr, m, t, rfl, ht', g, okt, .inl ⟨fr, t, rfl, hf3, okt, _, rfl, ?_⟩⟩
  rw [decide_eq_true rfl]
  exact q _ (b13.trans (.of (s02.trans s3)))
end
end Ks
set_option Elab.async false
set_option linter.all false
set_option maxRecDepth 100000
set_option maxHeartbeats 4000000
namespace Ks
open PySem PySem.Spec PyProof.Rows L2 Gd Kx
abbrev sLw : Stmt := Kx.topS 65
theorem scLw : FnScope ["_law_cells", "_law_k"] ["_law_cells"] (defScope sLw) := ⟨rfl, rfl, rfl, by decide +kernel, rfl, by decide +kernel, by decide +kernel⟩
section
variable {P : Program} {w : World} {K : PySem.W.Frag} {mg : Str → Option Value} {base : Heap}
def spLaw (K : PySem.W.Frag) : Sp := fun vs H Q _ => ∃ (a : Addr) (ns : List Int), vs = [.ref a] ∧ SqL K H a (ns.map V.int) ∧ ns.length ≤ 63 ∧ ∀ H', Q (.bl true) H'
theorem ok_law {f fn fe fr : Addr} {fd fdn fde fdr : FuncData} (F : Fun K "law" "law" sLw f fd) (ml : mg "len" = none) (mr : mg "range" = none) (ma : mg "all" = none) (mx : mg "max" = none) (mn : mg "min" = none)
    (GN : FnOk P w K mg base CX0 1 fn fdn ["_law_cells", "_law_k"] (spNum K)) (kn : PySem.W.keepIn K (.ref fn) = true) (bN : Binds K fdn ["_law_cells", "_law_k"] []) (gN : mg "_law_number" = some (.ref fn))
    (GE : FnOk P w K mg base CX0 1 fe fde ["_law_number_here"] spDeal) (ke : PySem.W.keepIn K (.ref fe) = true) (bE : Binds K fde ["_law_number_here"] []) (gE : mg "_law_deal" = some (.ref fe))
    (GR : Pr P w K mg base CX0 12 fr fdr ["_law_deal_here"] spRgt) (kr : PySem.W.keepIn K (.ref fr) = true) (bR : Binds K fdr ["_law_deal_here"] []) (gR : mg "_law_right" = some (.ref fr)) :
    Pr P w K mg base CX0 13 f fd ["_law_cells"] (spLaw K) := by
  refine okG F scLw (fun vs H Q E h => ?_) (fun cv A ou s H vs Q E hG hr h => ?_)
  · obtain ⟨a, ns, rfl, _⟩ := h
    rfl
  obtain ⟨a, ns, rfl, hS, hl, k⟩ := h
  have hr1 : Room 1 (A.deeper (envOfC "law" (defScope sLw) s.heap.objs.size f cv)) := hr.mono (by decide)
  refine ⟨_, pss_one (ps_ret (pe_callB (cr_all rfl) (by rfl) ma boot_all (pa_cons (pe_lc (own := [("_law_k", 1)]) (g := gName 1) (tt := tYes) rfl scLw.nd
      (pi_range1 rfl mr (pa_cons (pe_callB (call_max2 rfl) (by rfl) mx boot_max (pa_cons pe_int (pa_cons (pe_callB (call_min2 rfl) (by rfl) mn boot_min (pa_cons (pe_callB call_len_seq (by rfl) ml PySem.boot_len (pa_cons (pv 0) pa_nil)) (pa_cons pe_int pa_nil))) pa_nil))) pa_nil))
      (blkOk_by (own := [("_law_k", 1)]) (N := ["_law_cells", "_law_k"]) (sc := defScope sLw) (by decide +kernel))
      (fun _ _ _ _ _ => pg_name (i := 1) scLw.nd rfl (Or.inl rfl)) (fun _ _ _ _ _ => pts_nil)
      (fun _ _ _ _ _ => pe_callG GR hG hr (by rfl) gR kr bR .nil pass0 (pa_cons (pe_call GE hr1 (by rfl) gE ke bE .nil pass0 (pa_cons (pe_call GN hr1 (by rfl) gN kn bN .nil pass0 (pa_cons (pv 0) (pa_cons (pv 1) pa_nil))) pa_nil)) pa_nil))) pa_nil))), ?_⟩
  refine ⟨.ref a, rfl, a, ns.map V.int, rfl, .inl hS, _, _, rfl, _, _, rfl, _, rfl, ?_, ?_, fun D nD => ?_⟩
  · split <;> split <;> omega
  · rw [List.length_map]
    split <;> split <;> omega
  refine lc_rangeY (fun i H4 => Same H H4 ∧ H4 D = some (.lst ((List.replicate i true).map V.bl)) ∧ i ≤ 63) (fun _ => rfl) ⟨same_new nD, upd_same, by omega⟩ ?_ ?_
  · rintro i H4 hi ⟨s4, e4, _⟩
    have hi5 : i < 63 := by
      rw [List.length_map] at hi
      split at hi <;> (first | (split at hi <;> omega) | omega)
    refine ⟨.ref a, rfl, .int (0 + (i : Int)), rfl, a, ns, i, ?_, s4.seq hS, hl, fun z H5 s5 => ?_⟩
    · rw [Int.zero_add]
      rfl
    refine ⟨z, rfl, fun p H6 s6 np D6 => ?_⟩
    have e6 := s6 _ _ (s5 _ _ e4)
    have nDp : D ≠ p := fun e => by rw [← e, s5 _ _ e4] at np; cases np
    refine ⟨p, rfl, D6, fun H7 b7 => ?_⟩
    have e7 := b7 D _ nDp e6
    refine ⟨_, e7, ?_, ?_, ?_, by omega⟩
    · rw [List.length_map, List.length_replicate]
      exact small1000 (by omega)
    · intro b o e
      have e5 := s5 b o (s4 b o e)
      have nb : b ≠ p := fun q => by rw [← q, e5] at np; cases np
      rw [upd_ne (ne_of_none e nD)]
      exact b7 b o nb (s6 b o e5)
    · rw [upd_same, List.replicate_succ', List.map_append]
      rfl
  · rintro H4 ⟨s4, e4, _⟩
    refine ⟨D, _, rfl, SqL.of e4, ?_⟩
    have : (List.replicate (((if (if (4 : Int) < ((ns.map V.int).length : Int) then (4 : Int) else ((ns.map V.int).length : Int)) > 2 then (if (4 : Int) < ((ns.map V.int).length : Int) then (4 : Int) else ((ns.map V.int).length : Int)) else 2) : Int).toNat) true).all id = true := by
      rw [List.all_eq_true]
      intro x hx
      rw [(List.mem_replicate.mp hx).2]
      rfl
    rw [this]
    exact k _
end
end Ks
set_option Elab.async false
set_option linter.all false
set_option maxRecDepth 100000
set_option maxHeartbeats 4000000
/-! A head by one run: each def where a function of the written part says (a global, a method, a property's getter). -/
namespace Gd
open PySem PySem.Spec PyProof.Rows L2
structure FnX where
  ad : PySem.W.Frag → Addr
  name : Str
  qual : Str
  st : Stmt
def FnX.val (d : FnX) : He.FnV := some (d.name, d.qual, defArgs d.st, .stmts (defBody d.st), defScope d.st, mainGlobals, [], .none, builtinsNs)
def fnObsA (K : PySem.W.Frag) (a : Addr) : He.FnV := match K.lookup a with
  | some ⟨_, _, .func fd, _⟩ => some (fd.name, fd.qualname, fd.params, fd.body, fd.scope, fd.globals, fd.closure, fd.defaults, fd.builtins)
  | _ => none
def codeA (K : PySem.W.Frag) (a : Addr) (q : Str) : Bool := match K.lookup a with
  | some ⟨_, _, .func fd, _⟩ => PySem.W.codeIn K fd.code q
  | _ => false
theorem fnA_ok {K : PySem.W.Frag} {a : Addr} {d : FnX} (e : fnObsA K a = d.val) (c : codeA K a d.qual = true) :
    ∃ oc od osl kV doc pm an cdv ct, K.lookup a = some ⟨oc, od, .func (PySem.W.fnOf d.name d.qual (defArgs d.st) (defBody d.st) (defScope d.st) .none kV doc pm an cdv ct), osl⟩ ∧ PySem.W.codeIn K cdv d.qual = true := by
  unfold codeA at c
  unfold fnObsA at e
  cases q : K.lookup a with
  | none =>
    rw [q] at c
    cases c
  | some o =>
    obtain ⟨oc, od, dt, osl⟩ := o
    rw [q] at c e
    cases dt with
    | func fd =>
      obtain ⟨m1, m2, m3, m4, m5, m6, m7, m8, m9, m10, m11, m12, m13, m14, m15⟩ := fd
      have e2 : (some (m1, m2, m3, m4, m5, m6, m7, m8, m15) : He.FnV) = some (d.name, d.qual, defArgs d.st, .stmts (defBody d.st), defScope d.st, mainGlobals, [], .none, builtinsNs) := e
      simp only [Option.some.injEq, Prod.mk.injEq] at e2
      obtain ⟨g1, g2, g3, g4, g5, g6, g7, g8, g9⟩ := e2
      subst g1 g2 g3 g4 g5 g6 g7 g8 g9
      exact ⟨oc, od, osl, m9, m10, m11, m12, m13, m14, rfl, c⟩
    | _ => cases c
def obsY (tab : PySem.W.Frag → Bool) (fn : List FnX) (K : PySem.W.Frag) : AlX := (tab K && fn.all fun d => PySem.W.keepIn K (.ref (d.ad K)) && codeA K (d.ad K) d.qual, fn.map fun d => fnObsA K (d.ad K))
def SaysY (tab : PySem.W.Frag → Bool) (fn : List FnX) (K : PySem.W.Frag) : Prop := obsY tab fn K = (true, fn.map FnX.val)
def obsYG (n : Nat) (tab : PySem.W.Frag → Bool) (fn : List FnX) (g : Addr → Option Obj) : AlX := obsY tab fn (He.frG g (He.asG g n))
def hookY (n : Nat) (tab : PySem.W.Frag → Bool) (fn : List FnX) : PySem.W.Hook where
  α := AlX
  obs := fun s => obsYG n tab fn s.heap.get?
  val := fun _ => (true, fn.map FnX.val)
  says := fun _ h => ∃ K : PySem.W.Frag, K.In h ∧ SaysY tab fn K
  of := fun _ _ e => ⟨_, He.frG_in, e⟩
  keeps := fun _ _ _ ⟨K, hK, c⟩ k => ⟨K, PySem.W.Frag.In.keeps hK k, c⟩
theorem obsYG_eq {n : Nat} {tab : PySem.W.Frag → Bool} {fn : List FnX} {g : Addr → Option Obj} {s : Shared} (h : ∀ a, g a = s.heap.get? a) : obsYG n tab fn g = (hookY n tab fn).obs s := by
  obtain rfl : g = s.heap.get? := funext h
  rfl
section
variable {tab : PySem.W.Frag → Bool} {fn : List FnX} {K : PySem.W.Frag}
theorem SaysY.facts (c : SaysY tab fn K) : tab K = true := (He.ba (show (tab K && fn.all fun d => PySem.W.keepIn K (.ref (d.ad K)) && codeA K (d.ad K) d.qual) = true from congrArg Prod.fst c)).1
theorem SaysY.fun_ (c : SaysY tab fn K) (i : Nat) {d : FnX} (h : fn[i]? = some d) : ∃ fd, Fun K d.name d.qual d.st (d.ad K) fd := by
  have c2 := (He.ba (show (tab K && fn.all fun d => PySem.W.keepIn K (.ref (d.ad K)) && codeA K (d.ad K) d.qual) = true from congrArg Prod.fst c)).2
  obtain ⟨k1, k2⟩ := He.ba (List.all_eq_true.mp c2 d (List.mem_of_getElem? h))
  have e1 : fn.map (fun d => fnObsA K (d.ad K)) = fn.map FnX.val := congrArg Prod.snd c
  have e2 : (fn.map fun d => fnObsA K (d.ad K))[i]? = (fn.map FnX.val)[i]? := by rw [e1]
  rw [List.getElem?_map, List.getElem?_map, h] at e2
  obtain ⟨oc, od, osl, kV, doc, pm, an, cdv, ct, lk, hc⟩ := fnA_ok (Option.some.inj e2) k2
  exact ⟨_, ⟨⟨oc, od, kV, doc, pm, an, cdv, ct, osl, rfl, lk, hc⟩, k1⟩⟩
end
/-- a global's function, a class's method, a property's getter -/
def gAd (x : Str) : PySem.W.Frag → Addr := fun K => He.ga K x
def mAd (C m : Str) : PySem.W.Frag → Addr := fun K => He.ma K (He.ga K C) m
def pAd (C m : Str) : PySem.W.Frag → Addr := fun K => match PySem.W.recIn K (He.ma K (He.ga K C) m) "property" with
  | some (.ref g :: _) => g
  | _ => 0
/-- a property's facts -/
def propB (K : PySem.W.Frag) (C m : Str) : Bool := He.eqO (PySem.W.findIn K (.ref (He.ga K C)) m) (some (some (.ref (He.ma K (He.ga K C) m)))) && (He.eqO (PySem.W.specialIn K (.ref (He.ma K (He.ga K C) m)) "__get__") (some (some (.builtin "property.__get__"))) &&
  (decide (PySem.W.takesIn K (.ref (He.ma K (He.ga K C) m)) = some true) && (match PySem.W.recIn K (He.ma K (He.ga K C) m) "property" with
    | some (.ref _ :: _) => true
    | _ => false)))
theorem prop_ok {K : PySem.W.Frag} {C m : Str} (q : propB K C m = true) : PropOf K (He.ga K C) m (He.ma K (He.ga K C) m) (pAd C m K) := by
  obtain ⟨q1, q⟩ := He.ba q
  obtain ⟨q2, q⟩ := He.ba q
  obtain ⟨q3, q4⟩ := He.ba q
  refine ⟨He.eqO_ok q1, He.eqO_ok q2, of_decide_eq_true q3, ?_⟩
  unfold pAd
  split at q4
  · rename_i g r e
    rw [e]
    exact ⟨r, rfl⟩
  · cases q4
end Gd
set_option Elab.async false
set_option linter.all false
set_option maxRecDepth 100000
set_option maxHeartbeats 4000000
namespace Ks
open PySem PySem.Spec PyProof.Rows L2 Gd Kx
/-! ### what the top of a law has written of its classes, as Bools -/
def noS : List Str := ["_kinds", "_constructors", "_names", "_places"]
def bi7 : List String := ["NoneType", "bool", "int", "str", "list", "tuple", "dict"]
def clsX (K : PySem.W.Frag) (C : Addr) : Bool := He.eqO (PySem.W.findIn K (.ref C) "__class__") (some (some (.builtin "object.__class__"))) && (He.eqO (PySem.W.specialIn K (.builtin "object.__class__") "__get__") (some (some (.builtin "getset_descriptor.__get__"))) &&
  (decide (PySem.W.takesIn K (.builtin "object.__class__") = some true) && (decide (PySem.W.mroIn K C (.type "object") = some true) && (He.eqO (PySem.W.findIn K (.ref C) "__bool__") (some none) && (He.eqO (PySem.W.findIn K (.ref C) "__ne__") (some (some (.builtin "object.__ne__"))) &&
  (bi7.all fun t => PySem.W.notFirst K C (.type t) && (decide (PySem.W.kitOne K (.type t) (.ref C) = some false) && decide (PySem.W.subIn K (.ref C) (.type t) = some false))))))))
def clsT (C : Str) (no props meths : List Str) (K : PySem.W.Frag) : Bool := (He.Fa.cls C).ok K && ((He.Fa.mkr C).ok K && ((no.all fun x => (He.Fa.noat C x).ok K) && ((props.all fun x => propB K C x) && ((meths.all fun x => (He.Fa.meth C x).ok K) && clsX K (He.ga K C)))))
def gF (x : Str) (i : Nat) : FnX := ⟨gAd x, x, x, Kx.topS i⟩
def sF (m : Str) (i : Nat) : FnX := ⟨mAd "Schema" m, m, "Schema." ++ m, cS i⟩
def sP (m : Str) (i : Nat) : FnX := ⟨pAd "Schema" m, m, "Schema." ++ m, cS i⟩
section
variable {P : Program} {w : World} {K : PySem.W.Frag} {mg : Str → Option Value} {base : Heap} {h : Heap}
structure ClsF (K : PySem.W.Frag) (C : Str) (no props meths : List Str) : Prop where
  cl : Cls K (He.ga K C)
  mkr : Mk K (He.ga K C) (mAd C "__init__" K)
  na : ∀ y ∈ no, NoAttr K (He.ga K C) y
  pr : ∀ y ∈ props, PropOf K (He.ga K C) y (He.ma K (He.ga K C) y) (pAd C y K)
  me : ∀ y ∈ meths, Meth K (He.ga K C) y (mAd C y K)
  ci : SCi K (He.ga K C)
  nb : PySem.W.findIn K (.ref (He.ga K C)) "__bool__" = some none
  ne : PySem.W.findIn K (.ref (He.ga K C)) "__ne__" = some (some (.builtin "object.__ne__"))
  ot : ∀ t ∈ bi7, PySem.W.notFirst K (He.ga K C) (.type t) = true ∧ PySem.W.kitOne K (.type t) (.ref (He.ga K C)) = some false ∧ PySem.W.subIn K (.ref (He.ga K C)) (.type t) = some false
theorem ClsF.dm {C : Str} {no props meths : List Str} (F : ClsF K C no props meths) {y : Str} (e : y ∈ meths) : Dm K (He.ga K C) y (mAd C y K) := ⟨(F.me y e).at_, (F.me y e).fn⟩
theorem clsF_of {C : Str} {no props meths : List Str} (q : clsT C no props meths K = true) : ClsF K C no props meths := by
  obtain ⟨q1, q⟩ := He.ba q
  obtain ⟨q2, q⟩ := He.ba q
  obtain ⟨q3, q⟩ := He.ba q
  obtain ⟨q4, q⟩ := He.ba q
  obtain ⟨q5, q⟩ := He.ba q
  obtain ⟨r1, q⟩ := He.ba q
  obtain ⟨r2, q⟩ := He.ba q
  obtain ⟨r3, q⟩ := He.ba q
  obtain ⟨r4, q⟩ := He.ba q
  obtain ⟨r5, q⟩ := He.ba q
  obtain ⟨r6, r7⟩ := He.ba q
  refine ⟨He.cls_ok q1, He.mkr_ok q2, fun y hy => He.noat_ok (List.all_eq_true.mp q3 y hy), fun y hy => prop_ok (List.all_eq_true.mp q4 y hy), fun y hy => He.meth_ok (List.all_eq_true.mp q5 y hy), ⟨He.eqO_ok r1, He.eqO_ok r2, of_decide_eq_true r3, of_decide_eq_true r4⟩, He.eqO_ok r5, He.eqO_ok r6, fun t ht => ?_⟩
  obtain ⟨z1, z⟩ := He.ba (List.all_eq_true.mp r7 t ht)
  obtain ⟨z2, z3⟩ := He.ba z
  exact ⟨z1, of_decide_eq_true z2, of_decide_eq_true z3⟩
end
end Ks
set_option Elab.async false
set_option linter.all false
set_option maxRecDepth 100000
set_option maxHeartbeats 4000000
namespace Ks
open PySem PySem.Spec PyProof.Rows L2 Gd Kx
/-! ### what the top of a law about trees has written, as Bools -/
def noT : List Str := ["_rows", "_schema", "name", "kind", "_fields", "_size", "_depth"]
def twoB (K : PySem.W.Frag) : Bool := PySem.W.notFirst K (He.ga K "Tree") (.ref (He.ga K "Schema")) && (PySem.W.notFirst K (He.ga K "Schema") (.ref (He.ga K "Tree")) && (decide (PySem.W.kitOne K (.ref (He.ga K "Schema")) (.ref (He.ga K "Tree")) = some false) && decide (PySem.W.kitOne K (.ref (He.ga K "Tree")) (.ref (He.ga K "Schema")) = some false)))
structure TbX where
  glos : List Str
  frees : List Str
  numb : List (Str × Int)
  pS : List Str
  mS : List Str
  pT : List Str
  mT : List Str
  more : PySem.W.Frag → Bool
def TbX.tab (x : TbX) (K : PySem.W.Frag) : Bool := (x.glos.all fun y => (He.Fa.glo y).ok K) && ((x.frees.all fun y => (He.Fa.free y).ok K) && ((x.numb.all fun y => (He.Fa.int y.1 y.2).ok K) && ((He.Fa.str "LETTERS" lets).ok K && ((He.Fa.str "NAME_SIGNS" signs).ok K &&
  (clsT "Schema" noS x.pS x.mS K && (clsT "Tree" noT x.pT x.mT K && (twoB K && x.more K)))))))
def tF (m : Str) (i : Nat) : FnX := ⟨mAd "Tree" m, m, "Tree." ++ m, cT i⟩
def tP (m : Str) (i : Nat) : FnX := ⟨pAd "Tree" m, m, "Tree." ++ m, cT i⟩
section
variable {P : Program} {w : World} {K : PySem.W.Frag} {mg : Str → Option Value} {base : Heap} {h : Heap} {x : TbX} {fn : List FnX}
theorem tb1 (c : SaysY x.tab fn K) {y : Str} (e : y ∈ x.glos) : (He.Fa.glo y).ok K = true := List.all_eq_true.mp (He.ba c.facts).1 y e
theorem tb2 (c : SaysY x.tab fn K) {y : Str} (e : y ∈ x.frees) : (He.Fa.free y).ok K = true := List.all_eq_true.mp (He.ba (He.ba c.facts).2).1 y e
theorem tb3 (c : SaysY x.tab fn K) {y : Str} {i : Int} (e : (y, i) ∈ x.numb) : (He.Fa.int y i).ok K = true := List.all_eq_true.mp (He.ba (He.ba (He.ba c.facts).2).2).1 (y, i) e
theorem tb4 (c : SaysY x.tab fn K) : (He.Fa.str "LETTERS" lets).ok K = true ∧ (He.Fa.str "NAME_SIGNS" signs).ok K = true ∧ clsT "Schema" noS x.pS x.mS K = true ∧ clsT "Tree" noT x.pT x.mT K = true ∧ twoB K = true ∧ x.more K = true := by
  obtain ⟨_, q⟩ := He.ba c.facts
  obtain ⟨_, q⟩ := He.ba q
  obtain ⟨_, q⟩ := He.ba q
  obtain ⟨q1, q⟩ := He.ba q
  obtain ⟨q2, q⟩ := He.ba q
  obtain ⟨q3, q⟩ := He.ba q
  obtain ⟨q4, q⟩ := He.ba q
  obtain ⟨q5, q6⟩ := He.ba q
  exact ⟨q1, q2, q3, q4, q5, q6⟩
theorem glo_t (X : K.In h) (G : h.Ns mainGlobals mg) (c : SaysY x.tab fn K) {y : Str} (e : y ∈ x.glos) : mg y = some (.ref (He.ga K y)) := He.glo_ok X G (tb1 c e)
theorem free_t (X : K.In h) (G : h.Ns mainGlobals mg) (c : SaysY x.tab fn K) {y : Str} (e : y ∈ x.frees) : mg y = none := He.free_ok X G (tb2 c e)
abbrev SF (K : PySem.W.Frag) (x : TbX) : Prop := ClsF K "Schema" noS x.pS x.mS
abbrev TF (K : PySem.W.Frag) (x : TbX) : Prop := ClsF K "Tree" noT x.pT x.mT
theorem sf_of (c : SaysY x.tab fn K) : SF K x := clsF_of (tb4 c).2.2.1
theorem tf_of (c : SaysY x.tab fn K) : TF K x := clsF_of (tb4 c).2.2.2.1
theorem scl_t (c : SaysY x.tab fn K) : SCl K (He.ga K "Schema") := by
  have F := sf_of c
  exact ⟨F.cl, F.na _ (by decide +kernel), F.na _ (by decide +kernel), F.na _ (by decide +kernel), F.na _ (by decide +kernel)⟩
theorem tcl_t (c : SaysY x.tab fn K) : TCl K (He.ga K "Tree") := by
  have F := tf_of c
  exact ⟨F.cl, F.na _ (by decide +kernel), F.na _ (by decide +kernel), F.na _ (by decide +kernel), F.na _ (by decide +kernel), F.na _ (by decide +kernel), F.na _ (by decide +kernel), F.na _ (by decide +kernel)⟩
theorem two_t (c : SaysY x.tab fn K) : PySem.W.notFirst K (He.ga K "Tree") (.ref (He.ga K "Schema")) = true ∧ PySem.W.notFirst K (He.ga K "Schema") (.ref (He.ga K "Tree")) = true ∧ PySem.W.kitOne K (.ref (He.ga K "Schema")) (.ref (He.ga K "Tree")) = some false ∧ PySem.W.kitOne K (.ref (He.ga K "Tree")) (.ref (He.ga K "Schema")) = some false := by
  obtain ⟨q1, q⟩ := He.ba (tb4 c).2.2.2.2.1
  obtain ⟨q2, q⟩ := He.ba q
  obtain ⟨q3, q4⟩ := He.ba q
  exact ⟨q1, q2, of_decide_eq_true q3, of_decide_eq_true q4⟩
theorem ts_t (X : K.In h) (G : h.Ns mainGlobals mg) (c : SaysY x.tab fn K) (e : ∀ y ∈ (["isinstance", "str", "tuple", "len", "all", "enumerate", "range"] : List Str), y ∈ x.frees) (i : ∀ y ∈ ([("MOST_KINDS", 4), ("MOST_CONSTRUCTORS", 6), ("MOST_FIELDS", 3)] : List (Str × Int)), y ∈ x.numb) : TS0 mg where
  isi := free_t X G c (e _ (by decide +kernel))
  str := free_t X G c (e _ (by decide +kernel))
  tup := free_t X G c (e _ (by decide +kernel))
  len := free_t X G c (e _ (by decide +kernel))
  all := free_t X G c (e _ (by decide +kernel))
  enu := free_t X G c (e _ (by decide +kernel))
  rng := free_t X G c (e _ (by decide +kernel))
  mki := He.int_ok X G (tb3 c (i _ (by decide +kernel)))
  mco := He.int_ok X G (tb3 c (i _ (by decide +kernel)))
  mfi := He.int_ok X G (tb3 c (i _ (by decide +kernel)))
theorem fun_g (c : SaysY x.tab fn K) (i : Nat) (y : Str) (j : Nat) (h : fn[i]? = some (gF y j)) : ∃ fd, Fun K y y (Kx.topS j) (He.ga K y) fd := c.fun_ i h
theorem fun_s (c : SaysY x.tab fn K) (i : Nat) (m q : Str) (j : Nat) (h : fn[i]? = some (sF m j)) (e : ("Schema." : Str) ++ m = q) : ∃ fd, Fun K m q (cS j) (mAd "Schema" m K) fd := by
  subst e
  exact c.fun_ i h
theorem fun_sp (c : SaysY x.tab fn K) (i : Nat) (m q : Str) (j : Nat) (h : fn[i]? = some (sP m j)) (e : ("Schema." : Str) ++ m = q) : ∃ fd, Fun K m q (cS j) (pAd "Schema" m K) fd := by
  subst e
  exact c.fun_ i h
theorem fun_t (c : SaysY x.tab fn K) (i : Nat) (m q : Str) (j : Nat) (h : fn[i]? = some (tF m j)) (e : ("Tree." : Str) ++ m = q) : ∃ fd, Fun K m q (cT j) (mAd "Tree" m K) fd := by
  subst e
  exact c.fun_ i h
theorem fun_tp (c : SaysY x.tab fn K) (i : Nat) (m q : Str) (j : Nat) (h : fn[i]? = some (tP m j)) (e : ("Tree." : Str) ++ m = q) : ∃ fd, Fun K m q (cT j) (pAd "Tree" m K) fd := by
  subst e
  exact c.fun_ i h
end
end Ks
set_option Elab.async false
set_option linter.all false
set_option maxRecDepth 100000
set_option maxHeartbeats 4000000
namespace Ks
open PySem PySem.Spec PyProof.Rows L2 Gd Kx
/-! ### a classmethod of the class of trees, as a head's facts -/
def cAd (C m : Str) : PySem.W.Frag → Addr := fun K => He5.wf K (He.ga K C) "classmethod" m
def cF (m : Str) (i : Nat) : FnX := ⟨cAd "Tree" m, m, "Tree." ++ m, cT i⟩
def cmB (C m : Str) (K : PySem.W.Frag) : Bool := PySem.W.readsIn K (He.ga K C) (.type "type") && (He5.wrapB K (He.ga K C) "classmethod" "classmethod.__get__" m && PySem.W.fnIn K (He5.wf K (He.ga K C) "classmethod" m))
end Ks
set_option Elab.async false
set_option linter.all false
set_option maxRecDepth 100000
set_option maxHeartbeats 4000000
namespace Ks
open PySem PySem.Spec PyProof.Rows L2 Gd
theorem cread0 {K : PySem.W.Frag} {C : Addr} (h : PySem.W.readsIn K C (.type "type") = true) : ClX.CRead K C (.type "type") := by
  refine ⟨h, ?_⟩
  unfold PySem.W.readsIn at h
  obtain ⟨h, _⟩ := He.ba h
  obtain ⟨h, _⟩ := He.ba h
  obtain ⟨h, h3⟩ := He.ba h
  obtain ⟨_, h2⟩ := He.ba h
  unfold PySem.W.specialIn
  rw [beq_iff_eq.mp h2, Option.bind_some]
  exact beq_iff_eq.mp h3
end Ks
set_option Elab.async false
set_option linter.all false
set_option maxRecDepth 100000
set_option maxHeartbeats 4000000
namespace Ks
open PySem PySem.Spec PyProof.Rows L2 Gd Kx
theorem cmB_ok {K : PySem.W.Frag} {C m : Str} (h : cmB C m K = true) : ClX.CRead K (He.ga K C) (.type "type") ∧ ClX.CMet K (He.ga K C) (.type "type") m (He.ma K (He.ga K C) m) (cAd C m K) := by
  obtain ⟨h1, h⟩ := He.ba h
  obtain ⟨h2, h3⟩ := He.ba h
  exact ⟨cread0 h1, He5.cmet_of h2 h3⟩
/-- what the names reach in n steps, and the interpreter's own statics (a class is read there) -/
def obsCG (n : Nat) (tab : PySem.W.Frag → Bool) (fn : List FnX) (g : Addr → Option Obj) : AlX := obsY tab fn (He.frG g (He.asG g n ++ [PySem.cStatics]))
def hookC (n : Nat) (tab : PySem.W.Frag → Bool) (fn : List FnX) : PySem.W.Hook where
  α := AlX
  obs := fun s => obsCG n tab fn s.heap.get?
  val := fun _ => (true, fn.map FnX.val)
  says := fun _ h => ∃ K : PySem.W.Frag, K.In h ∧ SaysY tab fn K
  of := fun _ _ e => ⟨_, He.frG_in, e⟩
  keeps := fun _ _ _ ⟨K, hK, c⟩ k => ⟨K, PySem.W.Frag.In.keeps hK k, c⟩
theorem obsCG_eq {n : Nat} {tab : PySem.W.Frag → Bool} {fn : List FnX} {g : Addr → Option Obj} {s : Shared} (h : ∀ a, g a = s.heap.get? a) : obsCG n tab fn g = (hookC n tab fn).obs s := by
  obtain rfl : g = s.heap.get? := funext h
  rfl
section
variable {K : PySem.W.Frag} {x : TbX} {fn : List FnX}
theorem fun_tc (c : SaysY x.tab fn K) (i : Nat) (m q : Str) (j : Nat) (h : fn[i]? = some (cF m j)) (e : ("Tree." : Str) ++ m = q) : ∃ fd, Fun K m q (cT j) (cAd "Tree" m K) fd := by
  subst e
  exact c.fun_ i h
end
theorem kb_rs {K : PySem.W.Frag} {x q : Str} {st : Stmt} {f : Addr} {fd : FuncData} (F : Fun K x q st f fd)
    (h : ∀ (kV doc pm : Value) (an : Option Addr) (cdv ct c r s : Value), bindArgs (PySem.W.fnOf x q (defArgs st) (defBody st) (defScope st) .none kV doc pm an cdv ct) ⟨[c], [("rows", r), ("schema", s)]⟩ = pure [(("cls" : Str), c), ("schema", s), ("rows", r)]) :
    KBinds K fd ["cls", "schema", "rows"] ["rows", "schema"] gRS gRS := by
  obtain ⟨oc, od, kV, doc, pm, an, cdv, ct, osl, rfl, lk, hcd⟩ := F.ex
  refine ⟨fun s us ws _ hl => ?_, fun r z => gRS_rel r z⟩
  match us, ws, hl with
  | [c], [r, s], _ => exact .of_eq (h _ _ _ _ _ _ c r s)
  | [], _, hl => simp [gRS] at hl
  | [_], [], hl => simp [gRS] at hl
  | [_], [_], hl => simp [gRS] at hl
  | [_], _ :: _ :: _ :: _, hl => simp [gRS] at hl
  | _ :: _ :: _, _, hl => simp [gRS] at hl
end Ks
set_option Elab.async false
set_option linter.all false
set_option maxRecDepth 100000
set_option maxHeartbeats 4000000
/-! A head by one run, as HY's, and of some defs the tables of their code, still empty. -/
namespace Gd
open PySem PySem.Spec PyProof.Rows L2
def obsZG (n : Nat) (tab : PySem.W.Frag → Bool) (fn : List FnX) (tf : List He.Defn) (g : Addr → Option Obj) : AlX :=
  ((obsY tab fn (He.frT g (He.asG g n))).1 && He.tabsB g tf (He.frT g (He.asG g n)), (obsY tab fn (He.frT g (He.asG g n))).2)
structure SaysZ (tab : PySem.W.Frag → Bool) (fn : List FnX) (tf : List He.Defn) (h : Heap) (K : PySem.W.Frag) : Prop where
  y : SaysY tab fn K
  hd : ∀ p ∈ tf, PySem.W.codeHdIn K (He.cT K p).1 (He.cT K p).2 = true
  out : ∀ p ∈ tf, K.lookup (He.cT K p).2 = none
  emp : ∀ p ∈ tf, h.get? (He.cT K p).2 = some { cls := .none, data := .fields #[] }
theorem saysZ_of {n : Nat} {tab : PySem.W.Frag → Bool} {fn : List FnX} {tf : List He.Defn} {h : Heap} (e : obsZG n tab fn tf h.get? = (true, fn.map FnX.val)) : SaysZ tab fn tf h (He.frT h.get? (He.asG h.get? n)) := by
  have e1 : ((obsY tab fn (He.frT h.get? (He.asG h.get? n))).1 && He.tabsB h.get? tf (He.frT h.get? (He.asG h.get? n))) = true := congrArg Prod.fst e
  have e2 : (obsY tab fn (He.frT h.get? (He.asG h.get? n))).2 = fn.map FnX.val := congrArg Prod.snd e
  obtain ⟨q1, q2⟩ := He.ba e1
  have all : ∀ p ∈ tf, PySem.W.codeHdIn (He.frT h.get? (He.asG h.get? n)) (He.cT (He.frT h.get? (He.asG h.get? n)) p).1 (He.cT (He.frT h.get? (He.asG h.get? n)) p).2 = true ∧ ∃ o, h.get? (He.cT (He.frT h.get? (He.asG h.get? n)) p).2 = some o ∧ He.emptyTab o = true := by
    intro p hp
    obtain ⟨z1, z2⟩ := He.ba (List.all_eq_true.mp q2 p hp)
    refine ⟨z1, ?_⟩
    split at z2
    · rename_i o eo
      exact ⟨o, eo, z2⟩
    · cases z2
  refine ⟨Prod.ext q1 e2, fun p hp => (all p hp).1, fun p hp => ?_, fun p hp => ?_⟩
  · obtain ⟨_, o, eo, em⟩ := all p hp
    exact He.frT_none eo em
  · obtain ⟨_, o, eo, em⟩ := all p hp
    rw [eo, He.emptyTab_eq em]
def hookZ (n : Nat) (tab : PySem.W.Frag → Bool) (fn : List FnX) (tf : List He.Defn) : PySem.W.Hook where
  α := AlX
  obs := fun s => obsZG n tab fn tf s.heap.get?
  val := fun _ => (true, fn.map FnX.val)
  says := fun _ h => ∃ K : PySem.W.Frag, K.In h ∧ SaysZ tab fn tf h K
  of := fun _ _ e => ⟨_, He.frT_in, saysZ_of e⟩
  keeps := fun _ _ _ ⟨K, hK, c⟩ k => ⟨K, PySem.W.Frag.In.keeps hK k, c.y, c.hd, c.out, fun p hp => k _ _ (c.emp p hp)⟩
theorem obsZG_eq {n : Nat} {tab : PySem.W.Frag → Bool} {fn : List FnX} {tf : List He.Defn} {g : Addr → Option Obj} {s : Shared} (h : ∀ a, g a = s.heap.get? a) : obsZG n tab fn tf g = (hookZ n tab fn tf).obs s := by
  obtain rfl : g = s.heap.get? := funext h
  rfl
end Gd
set_option Elab.async false
set_option linter.all false
set_option maxRecDepth 100000
set_option maxHeartbeats 4000000
namespace Gd
open PySem PySem.Spec PyProof.Rows L2
/-! a head with empty tables of code and the interpreter's own statics; errors without a field -/
def obsCZ (n : Nat) (tab : PySem.W.Frag → Bool) (fn : List FnX) (tf : List He.Defn) (g : Addr → Option Obj) : AlX :=
  ((obsY tab fn (He.frT g (He.asG g n ++ [PySem.cStatics]))).1 && He.tabsB g tf (He.frT g (He.asG g n ++ [PySem.cStatics])), (obsY tab fn (He.frT g (He.asG g n ++ [PySem.cStatics]))).2)
theorem saysCZ_of {n : Nat} {tab : PySem.W.Frag → Bool} {fn : List FnX} {tf : List He.Defn} {h : Heap} (e : obsCZ n tab fn tf h.get? = (true, fn.map FnX.val)) : SaysZ tab fn tf h (He.frT h.get? (He.asG h.get? n ++ [PySem.cStatics])) := by
  unfold obsCZ at e
  generalize He.asG h.get? n ++ [PySem.cStatics] = as at e
  have e1 : ((obsY tab fn (He.frT h.get? as)).1 && He.tabsB h.get? tf (He.frT h.get? as)) = true := congrArg Prod.fst e
  have e2 : (obsY tab fn (He.frT h.get? as)).2 = fn.map FnX.val := congrArg Prod.snd e
  obtain ⟨q1, q2⟩ := He.ba e1
  have all : ∀ p ∈ tf, PySem.W.codeHdIn (He.frT h.get? as) (He.cT (He.frT h.get? as) p).1 (He.cT (He.frT h.get? as) p).2 = true ∧ ∃ o, h.get? (He.cT (He.frT h.get? as) p).2 = some o ∧ He.emptyTab o = true := by
    intro p hp
    obtain ⟨z1, z2⟩ := He.ba (List.all_eq_true.mp q2 p hp)
    refine ⟨z1, ?_⟩
    split at z2
    · rename_i o eo
      exact ⟨o, eo, z2⟩
    · cases z2
  refine ⟨Prod.ext q1 e2, fun p hp => (all p hp).1, fun p hp => ?_, fun p hp => ?_⟩
  · obtain ⟨_, o, eo, em⟩ := all p hp
    exact He.frT_none eo em
  · obtain ⟨_, o, eo, em⟩ := all p hp
    rw [eo, He.emptyTab_eq em]
def hookCZ (n : Nat) (tab : PySem.W.Frag → Bool) (fn : List FnX) (tf : List He.Defn) : PySem.W.Hook where
  α := AlX
  obs := fun s => obsCZ n tab fn tf s.heap.get?
  val := fun _ => (true, fn.map FnX.val)
  says := fun _ h => ∃ K : PySem.W.Frag, K.In h ∧ SaysZ tab fn tf h K
  of := fun _ _ e => ⟨_, He.frT_in, saysCZ_of e⟩
  keeps := fun _ _ _ ⟨K, hK, c⟩ k => ⟨K, PySem.W.Frag.In.keeps hK k, c.y, c.hd, c.out, fun p hp => k _ _ (c.emp p hp)⟩
theorem obsCZ_eq {n : Nat} {tab : PySem.W.Frag → Bool} {fn : List FnX} {tf : List He.Defn} {g : Addr → Option Obj} {s : Shared} (h : ∀ a, g a = s.heap.get? a) : obsCZ n tab fn tf g = (hookCZ n tab fn tf).obs s := by
  obtain rfl : g = s.heap.get? := funext h
  rfl
def zroB (K : PySem.W.Frag) (nm : Str) (b : Nat) : Bool := (He.Fa.glo nm).ok K && (xclB K (He.ga K nm) b && (PySem.W.excIn K (He.ga K nm) (xtl b) (xnid b) && decide (PySem.W.typeIn K (.ref (He.ga K nm)) = some (.type "type"))))
end Gd
namespace Ks
open PySem PySem.Spec PyProof.Rows L2 Gd Kx
def xF (C : Str) (i : Nat) : FnX := ⟨mAd C "__init__", "__init__", C ++ ".__init__", inClass (Kx.topS i) 0⟩
end Ks

set_option Elab.async false
set_option linter.all false
set_option maxRecDepth 100000
set_option maxHeartbeats 4000000
/-! a law's end with tables of code objects, over promises that hold while no repr is under way -/
namespace Gd
open PySem PySem.Spec PyProof.Rows L2 LamX
theorem law_goT {P : Program} {w : World} {K : PySem.W.Frag} {mg mb : Str → Option Value} {k : Nat} {fa a : Addr} {cs : List (Addr × Addr)} {fd : FuncData} {x : Str} {sp : Sp} {s1 : Shared} {vs : List Value} {ns : List Int}
    (KX : K.In s1.heap) (hm : s1.heap.Ns mainGlobals mg) (hb : s1.heap.Ns builtinsNs mb) (hbb : ∀ x : Str, x ≠ "__name__" → mb x = bootBuiltins x) (hlim : s1.heap.NoLimit) (hg : s1.gens = #[])
    (ct : ∀ p ∈ cs, s1.heap.get? p.2 = some { cls := .none, data := .fields #[] }) (cK : ∀ p ∈ cs, K.lookup p.2 = none) (cd : ∀ p ∈ cs, PySem.W.CodeHd s1.heap p.1 p.2)
    (bi : ∃ bm ob, mg "__builtins__" = some (.ref bm) ∧ bm ≠ builtinsNs ∧ s1.heap.get? bm = some ob ∧ ob.cls = .type "module" ∧ ob.dict = some builtinsNs ∧ ob.data = .plain)
    (ha : s1.heap.get? a = some { cls := .type "list", data := .seq vs.toArray }) (hi : IntsAre vs ns) (hl : ns.length ≤ sizeLine) (hR : Room k callerA)
    (F : ∀ base : Heap, K.In base → base.Ns mainGlobals mg → (∀ p ∈ cs, TabB base mg p.1 p.2) → Pr P w K mg base CX0 k fa fd [x] sp) (hbind : ∀ (s : Shared) (u : Value), BindsTo s fd ⟨[u], []⟩ [(x, u)])
    (hsp : ∀ H : Hp, (∀ p ∈ cs, H p.2 = some (.tbl #[])) → SqL K H a (ns.map V.int) → sp [.ref a] H (fun v _ => v = .bl true) fun _ _ _ => False) :
    codeAny (model P w) callerA (.call (.ref fa) ⟨[.ref a], []⟩) (fun r s' => r = .ok (.ret (.bool true)) ∧ OldK s1.heap s'.heap ∧ s'.os = s1.os ∧ AllBare s'.gens) s1 := by
  have rv := vals_ints hi
  have main : ∀ H : Hp, (∀ b, H b = none ∨ (b = a ∧ ∃ ob xs, H b = some (.frz ob (.lst xs))) ∨ ((∃ p ∈ cs, b = p.2) ∧ H b = some (.tbl #[]))) → (∀ p ∈ cs, H p.2 = some (.tbl #[])) → SqL K H a (ns.map V.int) → HOk P w H s1.heap → (H a ≠ none → K.lookup a = none) →
      codeAny (model P w) callerA (.call (.ref fa) ⟨[.ref a], []⟩) (fun r s' => r = .ok (.ret (.bool true)) ∧ OldK s1.heap s'.heap ∧ s'.os = s1.os ∧ AllBare s'.gens) s1 := by
    intro H hO hT hS hok ok
    have none_of : ∀ {b : Addr} {o : Obj}, s1.heap.get? b = some o → o.data ≠ .seq vs.toArray 0 → o.data ≠ .fields #[] → H b = none := by
      intro b o e n1 n2
      rcases hO b with z | ⟨rfl, _⟩ | ⟨⟨p, hp, rfl⟩, _⟩
      · exact z
      · rw [ha] at e
        cases e
        exact absurd rfl n1
      · rw [ct p hp] at e
        cases e
        exact absurd rfl n2
    have stay : ∀ {b : Addr} {o : Obj}, s1.heap.get? b = some o → H b = none → (hidT s1.heap H).get? b = some o := fun e n => hidT_get e n
    have ns_of : ∀ {b : Addr} {m : Str → Option Value}, s1.heap.Ns b m → (hidT s1.heap H).Ns b m := by
      rintro b m ⟨o, es, ep, e, d, r⟩
      exact ⟨o, es, ep, stay e (none_of e (by rw [d]; intro z; cases z) (by rw [d]; intro z; cases z)), d, r⟩
    have inK : K.In (hidT s1.heap H) := by
      intro b o e
      refine stay (KX b o e) ?_
      rcases hO b with z | ⟨rfl, z⟩ | ⟨⟨p, hp, rfl⟩, _⟩
      · exact z
      · obtain ⟨ob, xs, z⟩ := z
        rw [ok (by rw [z]; simp)] at e
        cases e
      · rw [cK p hp] at e
        cases e
    have tb : ∀ p ∈ cs, TabB (hidT s1.heap H) mg p.1 p.2 := by
      intro p hp
      obtain ⟨o, xs, file, tf, flags, tg, inF, text, tt, e1, e2, e3, e4, r⟩ := cd p hp
      have n2 : xs ≠ #[] := fun z => by rw [z] at e4; cases e4
      have gne : mainGlobals ≠ p.2 := fun z => by
        obtain ⟨o', es, ep, e, d, _⟩ := hm
        rw [z, ct p hp] at e
        cases e
        cases d
      refine ⟨⟨o, xs, file, tf, flags, tg, inF, text, tt, stay e1 (none_of e1 (by rw [e3]; intro z; cases z) (by rw [e3]; intro z; injection z with z; exact n2 z)), e2, e3, e4, r⟩, ?_, gne⟩
      obtain ⟨bm, ob, b1, b2, b3, b4, b5, b6⟩ := bi
      refine ⟨bm, ob, b1, b2, ?_, ?_, stay b3 (none_of b3 (by rw [b6]; intro z; cases z) (by rw [b6]; intro z; cases z)), b4, b5, b6⟩
      · rintro rfl
        obtain ⟨o', es, ep, e, d, _⟩ := hm
        rw [b3] at e
        cases e
        rw [b6] at d
        cases d
      · rintro rfl
        rw [ct p hp] at b3
        cases b3
        cases b6
    obtain ⟨mc, l1, l2⟩ := hlim
    have hM : Mod K mg (hidT s1.heap H) := ⟨inK, ns_of hm, ⟨mb, ns_of hb, hbb⟩, ⟨mc, ns_of l1, l2⟩⟩
    have e0 : Env0 P w K mg (hidT s1.heap H) callerA [] s1 H :=
      ⟨rfl, hM, fun b o e => of_hidT e, Nat.le_of_eq (hidT_size _ _), trivial, fun b z => by simp [frs] at z, hok, .of_eq hg⟩
    refine codeAny_mono ((F _ inK (ns_of hm) tb).go callerA [] s1 H ⟨[.ref a], []⟩ [.ref a] [.ref a] _ _ rfl hR e0 (hbind s1 (.ref a)) (.cons rfl .nil) (hsp H hT hS)) fun r s2 h => ?_
    match r, h with
    | .error e, h => exact False.elim h
    | .ok .next, h => exact False.elim h
    | .ok .brk, h => exact False.elim h
    | .ok .cont, h => exact False.elim h
    | .ok (.ret u), ⟨v, H', os, bare, un, hok', r', q⟩ =>
      have q' : v = .bl true := q
      subst q'
      have r2 : u = Value.bool true := r'
      subst r2
      refine ⟨rfl, ⟨fun b o e => ?_, fun b o e => ?_⟩, os, bare⟩
      · rcases hO b with z | ⟨rfl, ob, xs, z⟩ | ⟨⟨p, hp, rfl⟩, z⟩
        · exact .inl (un.keep b o e z (by simp [frs]) (by simp))
        · have z2 := un.frzs b ob _ z
          have g1 := (hok b _ z).1
          have g2 := (hok' b _ z2).1
          rw [e] at g1
          cases g1
          exact .inl g2
        · obtain ⟨more, z2⟩ := un.tbls _ _ z
          obtain ⟨oc, xs, _, _, _, _, _, _, _, e1, e2, e3, e4, _⟩ := cd p hp
          rw [ct p hp] at e
          cases e
          refine .inr (.inl ⟨⟨p.1, oc, xs, e1, e2, e3, e4⟩, rfl, #[], more, rfl, ?_⟩)
          have := hok' p.2 _ z2
          exact this
      · exact un.there b o e (by simp)
  have cta : ∀ p ∈ cs, p.2 ≠ a := fun p hp z => by
    have := ct p hp
    rw [z, ha] at this
    cases this
  cases hk : K.lookup a with
  | some o =>
    have e := KX a o hk
    rw [ha] at e
    cases e
    refine main (fun b => if b ∈ cs.map (·.2) then some (.tbl #[]) else none) (fun b => ?_) (fun p hp => if_pos (List.mem_map.mpr ⟨p, hp, rfl⟩)) (.inr ⟨_, vs.toArray, _, hk, rfl, rfl, rfl, by rw [List.size_toArray, hi.length]; exact hl, by simpa using rv⟩) (fun b u z => ?_) (fun z => absurd (if_neg fun h => by obtain ⟨p, hp, e⟩ := List.mem_map.mp h; exact cta p hp e) z)
    · by_cases hb : b ∈ cs.map (·.2)
      · obtain ⟨p, hp, e⟩ := List.mem_map.mp hb
        exact .inr (.inr ⟨⟨p, hp, e.symm⟩, if_pos hb⟩)
      · exact .inl (if_neg hb)
    · by_cases hb : b ∈ cs.map (·.2)
      · cases (if_pos hb).symm.trans z
        obtain ⟨p, hp, rfl⟩ := List.mem_map.mp hb
        exact ct p hp
      · cases (if_neg hb).symm.trans z
  | none =>
    have nta : ∀ {b}, b = a → ¬ b ∈ cs.map (·.2) := fun e h => by
      obtain ⟨p, hp, z⟩ := List.mem_map.mp h
      exact cta p hp (z.trans e)
    have at_ : (fun b => if b = a then some (HO.frz { cls := .type "list", data := .seq vs.toArray } (.lst (ns.map V.int))) else if b ∈ cs.map (·.2) then some (.tbl #[]) else none) a = some (HO.frz { cls := .type "list", data := .seq vs.toArray } (.lst (ns.map V.int))) := if_pos rfl
    refine main (fun b => if b = a then some (HO.frz { cls := .type "list", data := .seq vs.toArray } (.lst (ns.map V.int))) else if b ∈ cs.map (·.2) then some (.tbl #[]) else none) (fun b => ?_) (fun p hp => ?_) (.inl (.inr ⟨_, at_⟩)) (fun b u z => ?_) fun _ => hk
    · by_cases hb : b = a
      · exact .inr (.inl ⟨hb, _, _, if_pos hb⟩)
      · by_cases hc : b ∈ cs.map (·.2)
        · obtain ⟨p, hp, e⟩ := List.mem_map.mp hc
          exact .inr (.inr ⟨⟨p, hp, e.symm⟩, (if_neg hb).trans (if_pos hc)⟩)
        · exact .inl ((if_neg hb).trans (if_neg hc))
    · exact (if_neg (cta p hp)).trans (if_pos (List.mem_map.mpr ⟨p, hp, rfl⟩))
    · by_cases hb : b = a
      · subst hb
        cases at_.symm.trans z
        exact ⟨ha, by rw [List.length_map]; exact hl, vs, _, rv, ha⟩
      · by_cases hc : b ∈ cs.map (·.2)
        · cases ((if_neg hb).trans (if_pos hc)).symm.trans z
          obtain ⟨p, hp, rfl⟩ := List.mem_map.mp hc
          exact ct p hp
        · cases ((if_neg hb).trans (if_neg hc)).symm.trans z
/-- what is to be known of the law's def -/
def LawT (l : PySem.W.OpenLaw) (w : World) (K : PySem.W.Frag) (k n : Nat) (x : Str) (mg : Str → Option Value) (fa : Addr) (h : Heap) : Prop :=
  ∃ (fd : FuncData) (cs : List (Addr × Addr)) (sp : Sp), (∀ p ∈ cs, h.get? p.2 = some { cls := .none, data := .fields #[] }) ∧ (∀ p ∈ cs, K.lookup p.2 = none) ∧ (∀ p ∈ cs, PySem.W.CodeHd h p.1 p.2) ∧
    (∀ (s : Shared) (u : Value), BindsTo s fd ⟨[u], []⟩ [(x, u)]) ∧
    (∀ (H : Hp) (a : Addr) (ns : List Int), ns.length ≤ n → (∀ p ∈ cs, H p.2 = some (.tbl #[])) → SqL K H a (ns.map V.int) → sp [.ref a] H (fun v _ => v = .bl true) fun _ _ _ => False) ∧
    ∀ base : Heap, K.In base → base.Ns mainGlobals mg → (∀ p ∈ cs, TabB base mg p.1 p.2) → Pr l.prog w K mg base CX0 k fa fd [x] sp
theorem walk_goT {l : PySem.W.OpenLaw} {n k : Nat} {q : Program} {loose : List Str} {XP : (Str → Option Value) → Heap → Prop} {YP : World → Heap → Prop} {d : DefRec} {x : Str}
    (hn : l.most = some n) (hn2 : n ≤ sizeLine) (hdf : d.params.defaults = []) (hR : Room k callerA)
    (F : ∀ (w : World) (mg : Str → Option Value) (fa : Addr) (h : Heap), YP w h → h.Ns mainGlobals mg → mg d.name = some (.ref fa) → ∃ K : PySem.W.Frag, K.In h ∧ LawT l w K k n x mg fa h) :
    PySem.W.WalkO q loose XP YP l.row.toRowW d [] (fun f vs => PySem.call f vs) := by
  refine Att.attach_call hn hdf fun w s0 s1 mg mb fa o pm cd doc a vs ns G Y ho hd hcd hmg hobj hints hlen hg => ?_
  obtain ⟨K, KX, fd, cs, sp, h1, h2, h3, hb, hsp, hF⟩ := F w mg fa _ Y G.T.g hmg
  have bi : ∃ bm ob, mg "__builtins__" = some (.ref bm) ∧ bm ≠ builtinsNs ∧ s1.heap.get? bm = some ob ∧ ob.cls = .type "module" ∧ ob.dict = some builtinsNs ∧ ob.data = .plain := by
    obtain ⟨_, _, _, _, _, _, _, _, _, _, z, _⟩ := G.T
    exact z
  exact law_goT KX G.T.g G.T.b G.T.builtins G.T.nolimit hg h1 h2 h3 bi hobj hints (Nat.le_trans hlen hn2) hR hF hb fun H hT hS => hsp H a ns hlen hT hS
end Gd
set_option Elab.async false
set_option linter.all false
set_option maxRecDepth 100000
set_option maxHeartbeats 4000000
namespace Gd
open PySem PySem.Spec PyProof.Rows L2
theorem zro_of {K : PySem.W.Frag} {h : Heap} {mg : Str → Option Value} {nm : Str} {b : Nat} (X : K.In h) (G : h.Ns mainGlobals mg) (q : zroB K nm b = true) : Zro K mg nm (He.ga K nm) ∧ XC K (He.ga K nm) := by
  obtain ⟨q1, q⟩ := He.ba q
  obtain ⟨q2, q⟩ := He.ba q
  obtain ⟨q3, q4⟩ := He.ba q
  have T := xcl_of q2
  refine ⟨⟨He.glo_ok X G q1, ?_, T.kp, T.sB, of_decide_eq_true q4⟩, T⟩
  match b, q3 with
  | 0, q3 => exact ⟨_, _, _, _, PySem.F.excBase_ValueError, q3⟩
  | 1, q3 => exact ⟨_, _, _, _, PySem.F.excBase_LookupError, q3⟩
  | n + 2, q3 => exact ⟨_, _, _, _, PySem.F.excBase_ArithmeticError, q3⟩
end Gd
namespace Ks
open PySem PySem.Spec PyProof.Rows L2 Gd Kx
section
variable {K : PySem.W.Frag}
/-- the code of a def -/
theorem code_of {x q : Str} {st : Stmt} {fd : FuncData} (F : Fun K x q st (He.ga K x) fd) : fd.code = .ref (He.codeOf K (x, none)) := by
  obtain ⟨oc, od, kV, doc, pm, an, cdv, ct, osl, rfl, lk, hcd⟩ := F.ex
  obtain ⟨c, rfl⟩ := He.codeIn_ref hcd
  have := He.codeOf_eq (K := K) (p := (x, none)) (c := c) lk rfl
  rw [this]
end
end Ks
set_option Elab.async false
set_option linter.all false
set_option maxRecDepth 100000
set_option maxHeartbeats 4000000
namespace Gd
open PySem PySem.Spec PyProof.Rows L2
/-! a head with empty tables of code and the interpreter's own statics; errors without a field -/
end Gd
namespace Ks
open PySem PySem.Spec PyProof.Rows L2 Gd Kx
section
variable {K : PySem.W.Frag} {x : TbX} {fn : List FnX}
theorem fun_x (c : SaysY x.tab fn K) (i : Nat) (C : Str) (j : Nat) (h : fn[i]? = some (xF C j)) : ∃ fd, Fun K "__init__" (C ++ ".__init__") (inClass (Kx.topS j) 0) (He.ma K (He.ga K C) "__init__") fd := c.fun_ i h
end
theorem kb_co {K : PySem.W.Frag} {x q : Str} {st : Stmt} {f : Addr} {fd : FuncData} (F : Fun K x q st f fd)
    (h : ∀ (kV doc pm : Value) (an : Option Addr) (cdv ct a b : Value), bindArgs (PySem.W.fnOf x q (defArgs st) (defBody st) (defScope st) .none kV doc pm an cdv ct) ⟨[], [("other", b), ("one", a)]⟩ = pure [(("one" : Str), a), ("other", b)]) :
    KBinds K fd ["one", "other"] ["other", "one"] gCO gCO := by
  obtain ⟨oc, od, kV, doc, pm, an, cdv, ct, osl, rfl, lk, hcd⟩ := F.ex
  refine ⟨fun s us ws _ hl => ?_, fun r z => gCO_rel r z⟩
  match us, ws, hl with
  | [], [b, a], _ => exact .of_eq (h _ _ _ _ _ _ a b)
  | [], [], hl => simp [gCO] at hl
  | [], [_], hl => simp [gCO] at hl
  | [], _ :: _ :: _ :: _, hl => simp [gCO] at hl
  | _ :: _, _, hl => simp [gCO] at hl
end Ks
set_option Elab.async false
set_option linter.all false
set_option maxRecDepth 100000
set_option maxHeartbeats 4000000
namespace Ks
open PySem PySem.Spec PyProof.Rows L2 Gd Kx
theorem scX0 : FnScope ["self", "value"] ["self", "value"] (defScope (inClass (Kx.topS 9) 0)) := ⟨rfl, rfl, rfl, by decide +kernel, rfl, by decide +kernel, by decide +kernel⟩
theorem scX1 : FnScope ["self", "value"] ["self", "value"] (defScope (inClass (Kx.topS 10) 0)) := ⟨rfl, rfl, rfl, by decide +kernel, rfl, by decide +kernel, by decide +kernel⟩
theorem scX2 : FnScope ["self", "value"] ["self", "value"] (defScope (inClass (Kx.topS 8) 0)) := ⟨rfl, rfl, rfl, by decide +kernel, rfl, by decide +kernel, by decide +kernel⟩
theorem scX3 : FnScope ["self", "value"] ["self", "value"] (defScope (inClass (Kx.topS 5) 0)) := ⟨rfl, rfl, rfl, by decide +kernel, rfl, by decide +kernel, by decide +kernel⟩
theorem scX4 : FnScope ["self", "index"] ["self", "index"] (defScope (inClass (Kx.topS 14) 0)) := ⟨rfl, rfl, rfl, by decide +kernel, rfl, by decide +kernel, by decide +kernel⟩
theorem scX5 : FnScope ["self", "value"] ["self", "value"] (defScope (inClass (Kx.topS 6) 0)) := ⟨rfl, rfl, rfl, by decide +kernel, rfl, by decide +kernel, by decide +kernel⟩
def tx : TbX where
  glos := (["Schema", "Tree", "is_name", "_is_one_of", "_check_kinds", "_is_constructor", "_check_constructors", "_check_trees", "is_integer", "is_number", "check_schema", "check_tree", "is_tree_of", "_check_fields", "_rows_below", "_is_row", "check_rows", "_number", "_rows_of_text", "_tree_at"] : List Str) ++ (["_first_different", "compare", "_law_number", "_law_deal", "_law_pick", "_law_word", "_law_words", "_law_grown", "_law_shared", "_law_sizes", "_law_ranks", "_law_right", "law"] : List Str)
  frees := ["isinstance", "str", "tuple", "len", "all", "enumerate", "range", "int", "abs", "repr", "bool", "max", "min", "sum", "zip", "reversed", "list", "set", "sorted"]
  numb := [("MOST_KINDS", 4), ("MOST_CONSTRUCTORS", 6), ("MOST_FIELDS", 3), ("LONGEST_NAME", 8), ("MOST_ROWS", 200), ("MOST_DIGITS", 3)]
  pS := ["constructors"]
  mS := ["constructor", "place", "__eq__", "__contains__"]
  pT := ["schema", "rows", "fields", "size", "depth"]
  mT := ["__str__", "__len__", "__repr__", "__eq__", "put", "__getitem__"]
  more := fun K => cmB "Tree" "of_rows" K && cmB "Tree" "read" K && (xdB K ⟨"InvalidPath", 0, "value"⟩ && (xdB K ⟨"InvalidTree", 0, "value"⟩ && (xdB K ⟨"InvalidText", 0, "value"⟩ && (xdB K ⟨"NotASchema", 0, "value"⟩ && (xdB K ⟨"InvalidRows", 0, "index"⟩ && (xdB K ⟨"NotATree", 0, "value"⟩ && (zroB K "OtherSchema" 1 && ((He.Fa.str "DIGITS" digS).ok K && decide (PySem.W.exmOne K (.ref (He.ga K "InvalidRows")) (.ref (He.ga K "InvalidRows")) = some true)))))))))
def fn : List FnX := [gF "is_name" 26, gF "_is_one_of" 27, gF "_check_kinds" 28, gF "_is_constructor" 29, gF "_check_constructors" 30, gF "_check_trees" 31, gF "is_integer" 36, gF "is_number" 37, gF "check_schema" 38, gF "check_tree" 42, gF "is_tree_of" 43, gF "_check_fields" 44, gF "_rows_below" 45, gF "_is_row" 46, gF "check_rows" 47, gF "_number" 48, gF "_rows_of_text" 49, gF "_tree_at" 50, gF "_first_different" 52, gF "compare" 53, gF "_law_number" 55, gF "_law_deal" 56, gF "_law_pick" 57, gF "_law_word" 58, gF "_law_words" 59, gF "_law_grown" 60, gF "_law_shared" 61, gF "_law_sizes" 62, gF "_law_ranks" 63, gF "_law_right" 64, gF "law" 65, sF "__init__" 0, sP "constructors" 3, sF "constructor" 7, sF "place" 8, sF "__eq__" 13, sF "__contains__" 12, tF "__init__" 0, tP "schema" 3, tP "rows" 4, tP "fields" 5, tP "size" 6, tP "depth" 7, tF "__str__" 11, tF "__len__" 12, tF "__repr__" 13, tF "__eq__" 14, tF "put" 8, tF "__getitem__" 9, xF "InvalidPath" 9, xF "InvalidTree" 10, xF "InvalidText" 8, xF "NotASchema" 5, xF "InvalidRows" 14, xF "NotATree" 6, cF "of_rows" 1, cF "read" 2]
abbrev R : PySem.W.OpenRow := PySem.W.OpenLaw.row PySem.Challenge.rw_fivetrees_k13_great_trees
abbrev hk : PySem.W.Hook := hookC 5 tx.tab fn
def ob (s : PySem.W.SharedT) : AlX := obsCG 5 tx.tab fn (HandSHeadRun.getT s)
theorem ob_eq (s : PySem.W.SharedT) : ob s = hk.obs s.abs := obsCG_eq (HandSHeadRun.getT_eq s)
end Ks
set_option Elab.async false
set_option linter.all false
set_option maxRecDepth 100000
set_option maxHeartbeats 4000000
namespace Ks
open PySem PySem.Spec PyProof.Rows L2 Gd Kx
section
variable {P : Program} {w : World} {K : PySem.W.Frag} {mg : Str → Option Value} {base : Heap} {h : Heap}
theorem law_binds {f : Addr} {fd : FuncData} (F : Fun K "law" "law" sLw f fd) (s : Shared) (v : Value) : BindsTo s fd ⟨[v], []⟩ [("_law_cells", v)] := by
  obtain ⟨oc, od, kV, doc, pm, an, cdv, ct, osl, rfl, lk, hcd⟩ := F.ex
  exact .of_eq rfl
theorem facts {f : Addr} (X : K.In h) (G : h.Ns mainGlobals mg) (hfa : mg ("law" : Str) = some (.ref f)) (c : SaysY tx.tab fn K) :
    ∃ fd : FuncData, (∀ (s : Shared) (v : Value), BindsTo s fd ⟨[v], []⟩ [("_law_cells", v)]) ∧ ∀ base : Heap, K.In base → base.Ns mainGlobals mg → Pr P w K mg base CX0 13 f fd ["_law_cells"] (spLaw K) := by
  have e := hfa.symm.trans (glo_t X G c (y := "law") (by decide +kernel))
  cases e
  obtain ⟨d_is_name, F_is_name⟩ := fun_g c 0 "is_name" 26 (by rfl)
  obtain ⟨d_is_one_of, F_is_one_of⟩ := fun_g c 1 "_is_one_of" 27 (by rfl)
  obtain ⟨d_check_kinds, F_check_kinds⟩ := fun_g c 2 "_check_kinds" 28 (by rfl)
  obtain ⟨d_is_constructor, F_is_constructor⟩ := fun_g c 3 "_is_constructor" 29 (by rfl)
  obtain ⟨d_check_constructors, F_check_constructors⟩ := fun_g c 4 "_check_constructors" 30 (by rfl)
  obtain ⟨d_check_trees, F_check_trees⟩ := fun_g c 5 "_check_trees" 31 (by rfl)
  obtain ⟨d_is_integer, F_is_integer⟩ := fun_g c 6 "is_integer" 36 (by rfl)
  obtain ⟨d_is_number, F_is_number⟩ := fun_g c 7 "is_number" 37 (by rfl)
  obtain ⟨d_check_schema, F_check_schema⟩ := fun_g c 8 "check_schema" 38 (by rfl)
  obtain ⟨d_check_tree, F_check_tree⟩ := fun_g c 9 "check_tree" 42 (by rfl)
  obtain ⟨d_is_tree_of, F_is_tree_of⟩ := fun_g c 10 "is_tree_of" 43 (by rfl)
  obtain ⟨d_check_fields, F_check_fields⟩ := fun_g c 11 "_check_fields" 44 (by rfl)
  obtain ⟨d_rows_below, F_rows_below⟩ := fun_g c 12 "_rows_below" 45 (by rfl)
  obtain ⟨d_is_row, F_is_row⟩ := fun_g c 13 "_is_row" 46 (by rfl)
  obtain ⟨d_check_rows, F_check_rows⟩ := fun_g c 14 "check_rows" 47 (by rfl)
  obtain ⟨d_number, F_number⟩ := fun_g c 15 "_number" 48 (by rfl)
  obtain ⟨d_rows_of_text, F_rows_of_text⟩ := fun_g c 16 "_rows_of_text" 49 (by rfl)
  obtain ⟨d_tree_at, F_tree_at⟩ := fun_g c 17 "_tree_at" 50 (by rfl)
  obtain ⟨d_first_different, F_first_different⟩ := fun_g c 18 "_first_different" 52 (by rfl)
  obtain ⟨d_compare, F_compare⟩ := fun_g c 19 "compare" 53 (by rfl)
  obtain ⟨d_law_number, F_law_number⟩ := fun_g c 20 "_law_number" 55 (by rfl)
  obtain ⟨d_law_deal, F_law_deal⟩ := fun_g c 21 "_law_deal" 56 (by rfl)
  obtain ⟨d_law_pick, F_law_pick⟩ := fun_g c 22 "_law_pick" 57 (by rfl)
  obtain ⟨d_law_word, F_law_word⟩ := fun_g c 23 "_law_word" 58 (by rfl)
  obtain ⟨d_law_words, F_law_words⟩ := fun_g c 24 "_law_words" 59 (by rfl)
  obtain ⟨d_law_grown, F_law_grown⟩ := fun_g c 25 "_law_grown" 60 (by rfl)
  obtain ⟨d_law_shared, F_law_shared⟩ := fun_g c 26 "_law_shared" 61 (by rfl)
  obtain ⟨d_law_sizes, F_law_sizes⟩ := fun_g c 27 "_law_sizes" 62 (by rfl)
  obtain ⟨d_law_ranks, F_law_ranks⟩ := fun_g c 28 "_law_ranks" 63 (by rfl)
  obtain ⟨d_law_right, F_law_right⟩ := fun_g c 29 "_law_right" 64 (by rfl)
  obtain ⟨d_law, F_law⟩ := fun_g c 30 "law" 65 (by rfl)
  obtain ⟨ds_init, S_init⟩ := fun_s c 31 "__init__" "Schema.__init__" 0 (by rfl) (by decide +kernel)
  obtain ⟨ds_constructors, S_constructors⟩ := fun_sp c 32 "constructors" "Schema.constructors" 3 (by rfl) (by decide +kernel)
  obtain ⟨ds_constructor, S_constructor⟩ := fun_s c 33 "constructor" "Schema.constructor" 7 (by rfl) (by decide +kernel)
  obtain ⟨ds_place, S_place⟩ := fun_s c 34 "place" "Schema.place" 8 (by rfl) (by decide +kernel)
  obtain ⟨ds_eq, S_eq⟩ := fun_s c 35 "__eq__" "Schema.__eq__" 13 (by rfl) (by decide +kernel)
  obtain ⟨ds_contains, S_contains⟩ := fun_s c 36 "__contains__" "Schema.__contains__" 12 (by rfl) (by decide +kernel)
  obtain ⟨dt_init, T_init⟩ := fun_t c 37 "__init__" "Tree.__init__" 0 (by rfl) (by decide +kernel)
  obtain ⟨dt_schema, T_schema⟩ := fun_tp c 38 "schema" "Tree.schema" 3 (by rfl) (by decide +kernel)
  obtain ⟨dt_rows, T_rows⟩ := fun_tp c 39 "rows" "Tree.rows" 4 (by rfl) (by decide +kernel)
  obtain ⟨dt_fields, T_fields⟩ := fun_tp c 40 "fields" "Tree.fields" 5 (by rfl) (by decide +kernel)
  obtain ⟨dt_size, T_size⟩ := fun_tp c 41 "size" "Tree.size" 6 (by rfl) (by decide +kernel)
  obtain ⟨dt_depth, T_depth⟩ := fun_tp c 42 "depth" "Tree.depth" 7 (by rfl) (by decide +kernel)
  obtain ⟨dt_str, T_str⟩ := fun_t c 43 "__str__" "Tree.__str__" 11 (by rfl) (by decide +kernel)
  obtain ⟨dt_len, T_len⟩ := fun_t c 44 "__len__" "Tree.__len__" 12 (by rfl) (by decide +kernel)
  obtain ⟨dt_repr, T_repr⟩ := fun_t c 45 "__repr__" "Tree.__repr__" 13 (by rfl) (by decide +kernel)
  obtain ⟨dt_eq, T_eq⟩ := fun_t c 46 "__eq__" "Tree.__eq__" 14 (by rfl) (by decide +kernel)
  obtain ⟨dt_put, T_put⟩ := fun_t c 47 "put" "Tree.put" 8 (by rfl) (by decide +kernel)
  obtain ⟨dt_getitem, T_getitem⟩ := fun_t c 48 "__getitem__" "Tree.__getitem__" 9 (by rfl) (by decide +kernel)
  obtain ⟨dx_InvalidPath, X_InvalidPath⟩ := fun_x c 49 "InvalidPath" 9 (by rfl)
  obtain ⟨dx_InvalidTree, X_InvalidTree⟩ := fun_x c 50 "InvalidTree" 10 (by rfl)
  obtain ⟨dx_InvalidText, X_InvalidText⟩ := fun_x c 51 "InvalidText" 8 (by rfl)
  obtain ⟨dx_NotASchema, X_NotASchema⟩ := fun_x c 52 "NotASchema" 5 (by rfl)
  obtain ⟨dx_InvalidRows, X_InvalidRows⟩ := fun_x c 53 "InvalidRows" 14 (by rfl)
  obtain ⟨dx_NotATree, X_NotATree⟩ := fun_x c 54 "NotATree" 6 (by rfl)
  obtain ⟨dc_of_rows, C_of_rows⟩ := fun_tc c 55 "of_rows" "Tree.of_rows" 1 (by rfl) (by decide +kernel)
  obtain ⟨dc_read, C_read⟩ := fun_tc c 56 "read" "Tree.read" 2 (by rfl) (by decide +kernel)
  have b_is_name : Binds K d_is_name ["value"] [] := F_is_name.binds fun _ _ _ _ _ _ us hl => match us, hl with | [_], _ => rfl
  have g_is_name := glo_t X G c (y := "is_name") (by decide +kernel)
  have b_is_one_of : Binds K d_is_one_of ["value", "names"] [] := F_is_one_of.binds fun _ _ _ _ _ _ us hl => match us, hl with | [_, _], _ => rfl
  have g_is_one_of := glo_t X G c (y := "_is_one_of") (by decide +kernel)
  have b_check_kinds : Binds K d_check_kinds ["kinds"] [] := F_check_kinds.binds fun _ _ _ _ _ _ us hl => match us, hl with | [_], _ => rfl
  have g_check_kinds := glo_t X G c (y := "_check_kinds") (by decide +kernel)
  have b_is_constructor : Binds K d_is_constructor ["value", "kinds"] [] := F_is_constructor.binds fun _ _ _ _ _ _ us hl => match us, hl with | [_, _], _ => rfl
  have g_is_constructor := glo_t X G c (y := "_is_constructor") (by decide +kernel)
  have b_check_constructors : Binds K d_check_constructors ["constructors", "kinds"] [] := F_check_constructors.binds fun _ _ _ _ _ _ us hl => match us, hl with | [_, _], _ => rfl
  have g_check_constructors := glo_t X G c (y := "_check_constructors") (by decide +kernel)
  have b_check_trees : Binds K d_check_trees ["kinds", "constructors"] [] := F_check_trees.binds fun _ _ _ _ _ _ us hl => match us, hl with | [_, _], _ => rfl
  have g_check_trees := glo_t X G c (y := "_check_trees") (by decide +kernel)
  have b_is_integer : Binds K d_is_integer ["value"] [] := F_is_integer.binds fun _ _ _ _ _ _ us hl => match us, hl with | [_], _ => rfl
  have g_is_integer := glo_t X G c (y := "is_integer") (by decide +kernel)
  have b_is_number : Binds K d_is_number ["value", "least", "most"] [] := F_is_number.binds fun _ _ _ _ _ _ us hl => match us, hl with | [_, _, _], _ => rfl
  have g_is_number := glo_t X G c (y := "is_number") (by decide +kernel)
  have b_check_schema : Binds K d_check_schema ["schema"] [] := F_check_schema.binds fun _ _ _ _ _ _ us hl => match us, hl with | [_], _ => rfl
  have g_check_schema := glo_t X G c (y := "check_schema") (by decide +kernel)
  have b_check_tree : Binds K d_check_tree ["tree"] [] := F_check_tree.binds fun _ _ _ _ _ _ us hl => match us, hl with | [_], _ => rfl
  have g_check_tree := glo_t X G c (y := "check_tree") (by decide +kernel)
  have b_is_tree_of : Binds K d_is_tree_of ["value", "schema", "kind"] [] := F_is_tree_of.binds fun _ _ _ _ _ _ us hl => match us, hl with | [_, _, _], _ => rfl
  have g_is_tree_of := glo_t X G c (y := "is_tree_of") (by decide +kernel)
  have b_check_fields : Binds K d_check_fields ["schema", "kinds", "fields"] [] := F_check_fields.binds fun _ _ _ _ _ _ us hl => match us, hl with | [_, _, _], _ => rfl
  have g_check_fields := glo_t X G c (y := "_check_fields") (by decide +kernel)
  have b_rows_below : Binds K d_rows_below ["name", "fields"] [] := F_rows_below.binds fun _ _ _ _ _ _ us hl => match us, hl with | [_, _], _ => rfl
  have g_rows_below := glo_t X G c (y := "_rows_below") (by decide +kernel)
  have b_is_row : Binds K d_is_row ["schema", "row", "kinds"] [] := F_is_row.binds fun _ _ _ _ _ _ us hl => match us, hl with | [_, _, _], _ => rfl
  have g_is_row := glo_t X G c (y := "_is_row") (by decide +kernel)
  have b_check_rows : Binds K d_check_rows ["schema", "rows"] [] := F_check_rows.binds fun _ _ _ _ _ _ us hl => match us, hl with | [_, _], _ => rfl
  have g_check_rows := glo_t X G c (y := "check_rows") (by decide +kernel)
  have b_number : Binds K d_number ["word"] [] := F_number.binds fun _ _ _ _ _ _ us hl => match us, hl with | [_], _ => rfl
  have g_number := glo_t X G c (y := "_number") (by decide +kernel)
  have b_rows_of_text : Binds K d_rows_of_text ["text"] [] := F_rows_of_text.binds fun _ _ _ _ _ _ us hl => match us, hl with | [_], _ => rfl
  have g_rows_of_text := glo_t X G c (y := "_rows_of_text") (by decide +kernel)
  have b_tree_at : Binds K d_tree_at ["tree", "path"] [] := F_tree_at.binds fun _ _ _ _ _ _ us hl => match us, hl with | [_, _], _ => rfl
  have g_tree_at := glo_t X G c (y := "_tree_at") (by decide +kernel)
  have b_first_different : Binds K d_first_different ["fields", "others"] [] := F_first_different.binds fun _ _ _ _ _ _ us hl => match us, hl with | [_, _], _ => rfl
  have g_first_different := glo_t X G c (y := "_first_different") (by decide +kernel)
  have b_compare : Binds K d_compare ["one", "other"] [] := F_compare.binds fun _ _ _ _ _ _ us hl => match us, hl with | [_, _], _ => rfl
  have g_compare := glo_t X G c (y := "compare") (by decide +kernel)
  have b_law_number : Binds K d_law_number ["_law_cells", "_law_k"] [] := F_law_number.binds fun _ _ _ _ _ _ us hl => match us, hl with | [_, _], _ => rfl
  have g_law_number := glo_t X G c (y := "_law_number") (by decide +kernel)
  have b_law_deal : Binds K d_law_deal ["_law_number_here"] [] := F_law_deal.binds fun _ _ _ _ _ _ us hl => match us, hl with | [_], _ => rfl
  have g_law_deal := glo_t X G c (y := "_law_deal") (by decide +kernel)
  have b_law_pick : Binds K d_law_pick ["_law_deal_here", "_law_many"] [] := F_law_pick.binds fun _ _ _ _ _ _ us hl => match us, hl with | [_, _], _ => rfl
  have g_law_pick := glo_t X G c (y := "_law_pick") (by decide +kernel)
  have b_law_word : Binds K d_law_word ["_law_deal_here", "_law_taken"] [] := F_law_word.binds fun _ _ _ _ _ _ us hl => match us, hl with | [_, _], _ => rfl
  have g_law_word := glo_t X G c (y := "_law_word") (by decide +kernel)
  have b_law_words : Binds K d_law_words ["_law_deal_here", "_law_many"] [] := F_law_words.binds fun _ _ _ _ _ _ us hl => match us, hl with | [_, _], _ => rfl
  have g_law_words := glo_t X G c (y := "_law_words") (by decide +kernel)
  have b_law_grown : Binds K d_law_grown ["_law_deal_here", "_law_names"] [] := F_law_grown.binds fun _ _ _ _ _ _ us hl => match us, hl with | [_, _], _ => rfl
  have g_law_grown := glo_t X G c (y := "_law_grown") (by decide +kernel)
  have b_law_shared : Binds K d_law_shared ["_law_rows"] [] := F_law_shared.binds fun _ _ _ _ _ _ us hl => match us, hl with | [_], _ => rfl
  have g_law_shared := glo_t X G c (y := "_law_shared") (by decide +kernel)
  have b_law_sizes : Binds K d_law_sizes ["_law_rows"] [] := F_law_sizes.binds fun _ _ _ _ _ _ us hl => match us, hl with | [_], _ => rfl
  have g_law_sizes := glo_t X G c (y := "_law_sizes") (by decide +kernel)
  have b_law_ranks : Binds K d_law_ranks ["_law_names", "_law_made"] [] := F_law_ranks.binds fun _ _ _ _ _ _ us hl => match us, hl with | [_, _], _ => rfl
  have g_law_ranks := glo_t X G c (y := "_law_ranks") (by decide +kernel)
  have b_law_right : Binds K d_law_right ["_law_deal_here"] [] := F_law_right.binds fun _ _ _ _ _ _ us hl => match us, hl with | [_], _ => rfl
  have g_law_right := glo_t X G c (y := "_law_right") (by decide +kernel)
  have bs_init : Binds K ds_init ["self", "kinds", "constructors"] [] := S_init.binds fun _ _ _ _ _ _ us hl => match us, hl with | [_, _, _], _ => rfl
  have bs_constructors : Binds K ds_constructors ["self"] [] := S_constructors.binds fun _ _ _ _ _ _ us hl => match us, hl with | [_], _ => rfl
  have bs_constructor : Binds K ds_constructor ["self", "name"] [] := S_constructor.binds fun _ _ _ _ _ _ us hl => match us, hl with | [_, _], _ => rfl
  have bs_place : Binds K ds_place ["self", "name"] [] := S_place.binds fun _ _ _ _ _ _ us hl => match us, hl with | [_, _], _ => rfl
  have bs_eq : Binds K ds_eq ["self", "other"] [] := S_eq.binds fun _ _ _ _ _ _ us hl => match us, hl with | [_, _], _ => rfl
  have bs_contains : Binds K ds_contains ["self", "value"] [] := S_contains.binds fun _ _ _ _ _ _ us hl => match us, hl with | [_, _], _ => rfl
  have bt_schema : Binds K dt_schema ["self"] [] := T_schema.binds fun _ _ _ _ _ _ us hl => match us, hl with | [_], _ => rfl
  have bt_rows : Binds K dt_rows ["self"] [] := T_rows.binds fun _ _ _ _ _ _ us hl => match us, hl with | [_], _ => rfl
  have bt_fields : Binds K dt_fields ["self"] [] := T_fields.binds fun _ _ _ _ _ _ us hl => match us, hl with | [_], _ => rfl
  have bt_size : Binds K dt_size ["self"] [] := T_size.binds fun _ _ _ _ _ _ us hl => match us, hl with | [_], _ => rfl
  have bt_depth : Binds K dt_depth ["self"] [] := T_depth.binds fun _ _ _ _ _ _ us hl => match us, hl with | [_], _ => rfl
  have bt_str : Binds K dt_str ["self"] [] := T_str.binds fun _ _ _ _ _ _ us hl => match us, hl with | [_], _ => rfl
  have bt_len : Binds K dt_len ["self"] [] := T_len.binds fun _ _ _ _ _ _ us hl => match us, hl with | [_], _ => rfl
  have bt_repr : Binds K dt_repr ["self"] [] := T_repr.binds fun _ _ _ _ _ _ us hl => match us, hl with | [_], _ => rfl
  have bt_eq : Binds K dt_eq ["self", "other"] [] := T_eq.binds fun _ _ _ _ _ _ us hl => match us, hl with | [_, _], _ => rfl
  have bt_put : Binds K dt_put ["self", "path", "other"] [] := T_put.binds fun _ _ _ _ _ _ us hl => match us, hl with | [_, _, _], _ => rfl
  have bt_getitem : Binds K dt_getitem ["self", "at"] [] := T_getitem.binds fun _ _ _ _ _ _ us hl => match us, hl with | [_, _], _ => rfl
  have bc_of_rows : Binds K dc_of_rows ["cls", "schema", "rows"] [] := C_of_rows.binds fun _ _ _ _ _ _ us hl => match us, hl with | [_, _, _], _ => rfl
  have bc_read : Binds K dc_read ["cls", "schema", "text"] [] := C_read.binds fun _ _ _ _ _ _ us hl => match us, hl with | [_, _, _], _ => rfl
  have gC := glo_t X G c (y := "Schema") (by decide +kernel)
  have gTr := glo_t X G c (y := "Tree") (by decide +kernel)
  have T : TS0 mg := ts_t X G c (by decide +kernel) (by decide +kernel)
  have n_int : mg "int" = none := free_t X G c (by decide +kernel)
  have n_abs : mg "abs" = none := free_t X G c (by decide +kernel)
  have n_repr : mg "repr" = none := free_t X G c (by decide +kernel)
  have n_bool : mg "bool" = none := free_t X G c (by decide +kernel)
  have n_max : mg "max" = none := free_t X G c (by decide +kernel)
  have n_min : mg "min" = none := free_t X G c (by decide +kernel)
  have n_sum : mg "sum" = none := free_t X G c (by decide +kernel)
  have n_zip : mg "zip" = none := free_t X G c (by decide +kernel)
  have n_reversed : mg "reversed" = none := free_t X G c (by decide +kernel)
  have n_list : mg "list" = none := free_t X G c (by decide +kernel)
  have n_set : mg "set" = none := free_t X G c (by decide +kernel)
  have n_sorted : mg "sorted" = none := free_t X G c (by decide +kernel)
  have TI : TI0 mg := ⟨T.isi, T.str, T.len, T.all, He.str_ok X G (tb4 c).1, He.str_ok X G (tb4 c).2.1, He.int_ok X G (tb3 c (by decide +kernel))⟩
  have TW : TW0 mg := ⟨T.len, T.str, T.rng⟩
  have TXx : TsX mg := ⟨n_max, n_sum⟩
  have mM : ∃ t, mg "MOST_ROWS" = some (.int 200 t) := He.int_ok X G (tb3 c (by decide +kernel))
  have Z := scl_t c
  have ZT := tcl_t c
  have FS := sf_of c
  have FT := tf_of c
  have tw := two_t c
  obtain ⟨qcc, qm⟩ := He.ba (tb4 c).2.2.2.2.2
  obtain ⟨q0, qm⟩ := He.ba qm
  obtain ⟨q1, qm⟩ := He.ba qm
  obtain ⟨q2, qm⟩ := He.ba qm
  obtain ⟨q3, qm⟩ := He.ba qm
  obtain ⟨q4, qm⟩ := He.ba qm
  obtain ⟨q5, qm⟩ := He.ba qm
  obtain ⟨qO, qm⟩ := He.ba qm
  obtain ⟨qD, e6⟩ := He.ba qm
  refine ⟨d_law, fun s v => law_binds F_law s v, fun base _ _ => ?_⟩
  have GI : FnOk P w K mg base CX0 1 _ d_is_name ["value"] (spIs K) := ok_is F_is_name TI
  have GO : FnOk P w K mg base CX0 1 _ d_is_one_of ["value", "names"] (spOne K) := ok_one F_is_one_of T
  have GK : FnOk P w K mg base CX0 2 _ d_check_kinds ["kinds"] spCk := ok_ck F_check_kinds T GI F_is_name.kp b_is_name g_is_name
  have GJ : FnOk P w K mg base CX0 2 _ d_is_constructor ["value", "kinds"] spIsC := ok_isC F_is_constructor T GI F_is_name.kp b_is_name g_is_name GO F_is_one_of.kp b_is_one_of g_is_one_of
  have GC : FnOk P w K mg base CX0 3 _ d_check_constructors ["constructors", "kinds"] spCc := ok_cc F_check_constructors T GJ F_is_constructor.kp b_is_constructor g_is_constructor
  have GT := ok_ct (P := P) (w := w) (base := base) F_check_trees T
  have GN : FnOk P w K mg base CX0 1 _ d_law_number ["_law_cells", "_law_k"] (spNum K) := ok_num F_law_number T.len n_int
  have GE : FnOk P w K mg base CX0 1 _ d_law_deal ["_law_number_here"] spDeal := ok_deal F_law_deal n_abs n_int
  have GP : FnOk P w K mg base CX0 1 _ d_law_pick ["_law_deal_here", "_law_many"] spPick := ok_pick F_law_pick n_int
  have GW : FnOk P w K mg base CX0 2 _ d_law_word ["_law_deal_here", "_law_taken"] spWord := ok_word F_law_word TW GP F_law_pick.kp b_law_pick g_law_pick
  have GWs : FnOk P w K mg base CX0 3 _ d_law_words ["_law_deal_here", "_law_many"] spWds := ok_wds F_law_words T.rng GW F_law_word.kp b_law_word g_law_word
  have Gini : FnOk P w K mg base CX0 4 _ ds_init ["self", "kinds", "constructors"] (spIni (He.ga K "Schema")) := ok_ini S_init T Z GK F_check_kinds.kp b_check_kinds g_check_kinds GC F_check_constructors.kp b_check_constructors g_check_constructors GT F_check_trees.kp b_check_trees g_check_trees
  have Gpl : FnOk P w K mg base CX0 2 _ ds_place ["self", "name"] (spPl (He.ga K "Schema")) := ok_pl S_place Z GO F_is_one_of.kp b_is_one_of g_is_one_of
  have Sc : Sch P w K mg base (He.ga K "Schema") := ⟨Z, FS.ci, gC, ⟨_, _, FS.dm (y := "__eq__") (by decide +kernel), ok_eq S_eq T gC Z FS.ci, bs_eq⟩, ⟨_, _, FS.me "constructor" (by decide +kernel), ok_co S_constructor Z Gpl (FS.me "place" (by decide +kernel)) bs_place, bs_constructor⟩⟩
  have Tc : Tch P w K mg base (He.ga K "Tree") := ⟨ZT, FT.ci, gTr, ⟨_, _, _, FT.pr "schema" (by decide +kernel), ok_gs T_schema ZT, bt_schema⟩, ⟨_, _, _, FT.pr "rows" (by decide +kernel), ok_gR T_rows ZT, bt_rows⟩, ⟨_, _, _, FT.pr "fields" (by decide +kernel), ok_gF T_fields ZT, bt_fields⟩,
    ⟨_, _, _, FT.pr "size" (by decide +kernel), ok_gz T_size ZT, bt_size⟩, ⟨_, _, _, FT.pr "depth" (by decide +kernel), ok_gd T_depth ZT, bt_depth⟩⟩
  have Gch := ok_chk F_check_schema T.isi Sc
  have Gto := ok_ito F_is_tree_of T.isi Sc Tc
  have Gcf := ok_cf F_check_fields T Gto F_is_tree_of.kp b_is_tree_of g_is_tree_of
  have Grb := ok_rb (CS := He.ga K "Schema") F_rows_below T mM Tc
  have mk := ok_mk T_init T TXx Sc Tc Gch F_check_schema.kp b_check_schema g_check_schema Gcf F_check_fields.kp b_check_fields g_check_fields Grb F_rows_below.kp b_rows_below g_rows_below
  have TCs : Tcs P w K mg base (He.ga K "Tree") (He.ga K "Schema") := ⟨Tc, FT.nb, ⟨_, _, FT.dm (y := "__len__") (by decide +kernel), ok_lnT T_len T ZT, bt_len⟩, ⟨_, _, FT.dm (y := "__repr__") (by decide +kernel), ok_rpT T_repr T ZT, bt_repr⟩, ⟨_, _, FT.dm (y := "__str__") (by decide +kernel), ok_stT T_str T ZT, bt_str⟩,
    ⟨_, _, FT.dm (y := "__eq__") (by decide +kernel), ok_eqT T_eq T.isi Sc Tc, bt_eq⟩, FT.ne, FT.ci.mo⟩
  have TN : TsN mg := ⟨n_int, n_bool, n_zip⟩
  have Gcn : FnOk P w K mg base CX0 2 _ ds_contains ["self", "value"] (spCn K (He.ga K "Schema")) := ok_cn S_contains Z GO F_is_one_of.kp b_is_one_of g_is_one_of
  have Gii : FnOk P w K mg base CX0 1 _ d_is_integer ["value"] spIint := ok_iint F_is_integer T TN
  have Gnu : FnOk P w K mg base CX0 2 _ d_is_number ["value", "least", "most"] spInum := ok_inum F_is_number Gii F_is_integer.kp b_is_integer g_is_integer
  have Gir : FnOk P w K mg base CX0 4 _ d_is_row ["schema", "row", "kinds"] (spIrw (He.ga K "Schema")) := ok_irw F_is_row T TN Sc (FS.dm (y := "__contains__") (by decide +kernel)) Gcn bs_contains Gnu F_is_number.kp b_is_number g_is_number
  have Gcr : FnOk P w K mg base CX0 5 _ d_check_rows ["schema", "rows"] (spCrw (He.ga K "Schema")) := ok_crw F_check_rows T mM Sc Gir F_is_row.kp b_is_row g_is_row
  have Gor : FnOk P w K mg base CX0 7 _ dc_of_rows ["cls", "schema", "rows"] (spOfr (He.ga K "Tree") (He.ga K "Schema")) := ok_ofr C_of_rows T FT.mkr mk.1 Gch F_check_schema.kp b_check_schema g_check_schema Gcr F_check_rows.kp b_check_rows g_check_rows
  have cmo := cmB_ok (m := "of_rows") (K := K) (C := "Tree") (He.ba (He.ba (tb4 c).2.2.2.2.2).1).1
  have OF : Ofr P w K mg base (He.ga K "Tree") (He.ga K "Schema") := ⟨_, _, _, _, cmo.1, cmo.2, Gor, bc_of_rows, kb_rs C_of_rows fun _ _ _ _ _ _ _ _ _ => rfl⟩
  have O0 : One P w K mg base "InvalidPath" "value" (He.ga K "InvalidPath") := xd_one X G q0 X_InvalidPath scX0 rfl rfl rfl (fun _ => rfl) (fun _ _ _ _ _ _ us hl => match us, hl with | [_, _], _ => rfl) (fun _ _ _ _ _ _ _ _ => rfl)
  have O1 : One P w K mg base "InvalidTree" "value" (He.ga K "InvalidTree") := xd_one X G q1 X_InvalidTree scX1 rfl rfl rfl (fun _ => rfl) (fun _ _ _ _ _ _ us hl => match us, hl with | [_, _], _ => rfl) (fun _ _ _ _ _ _ _ _ => rfl)
  have O2 : One P w K mg base "InvalidText" "value" (He.ga K "InvalidText") := xd_one X G q2 X_InvalidText scX2 rfl rfl rfl (fun _ => rfl) (fun _ _ _ _ _ _ us hl => match us, hl with | [_, _], _ => rfl) (fun _ _ _ _ _ _ _ _ => rfl)
  have O3 : One P w K mg base "NotASchema" "value" (He.ga K "NotASchema") := xd_one X G q3 X_NotASchema scX3 rfl rfl rfl (fun _ => rfl) (fun _ _ _ _ _ _ us hl => match us, hl with | [_, _], _ => rfl) (fun _ _ _ _ _ _ _ _ => rfl)
  have O4 : One P w K mg base "InvalidRows" "index" (He.ga K "InvalidRows") := xd_one X G q4 X_InvalidRows scX4 rfl rfl rfl (fun _ => rfl) (fun _ _ _ _ _ _ us hl => match us, hl with | [_, _], _ => rfl) (fun _ _ _ _ _ _ _ _ => rfl)
  have O5 : One P w K mg base "NotATree" "value" (He.ga K "NotATree") := xd_one X G q5 X_NotATree scX5 rfl rfl rfl (fun _ => rfl) (fun _ _ _ _ _ _ us hl => match us, hl with | [_, _], _ => rfl) (fun _ _ _ _ _ _ _ _ => rfl)
  have OIH : OneH P w K mg base "InvalidText" "value" (He.ga K "InvalidText") := xd_oneH X G q2 X_InvalidText scX2 rfl rfl rfl (fun _ => rfl) (fun _ _ _ _ _ _ us hl => match us, hl with | [_, _], _ => rfl)
  have zO := zro_of X G qO
  have GiiV : FnOk P w K mg base CX0 1 _ d_is_integer ["value"] spIintV := ok_iintV F_is_integer T TN
  have GnuV : FnOk P w K mg base CX0 2 _ d_is_number ["value", "least", "most"] spInumV := ok_inumV F_is_number GiiV F_is_integer.kp b_is_integer g_is_integer
  have GtoV : FnOk P w K mg base CX0 3 _ d_is_tree_of ["value", "schema", "kind"] (spItoV K (He.ga K "Tree") (He.ga K "Schema")) := ok_itoV F_is_tree_of T.isi Sc Tc
  have Gtat : FnOk P w K mg base (CX P w) 4 _ d_tree_at ["tree", "path"] (spTat K (He.ga K "Tree") (He.ga K "Schema") (He.ga K "InvalidPath")) := ok_tat F_tree_at T TCs O0 (xd_ty q0) GnuV F_is_number.kp b_is_number g_is_number
  have Ggi : FnOk P w K mg base (CX P w) 5 _ dt_getitem ["self", "at"] (spTat K (He.ga K "Tree") (He.ga K "Schema") (He.ga K "InvalidPath")) := ok_gi T_getitem Gtat F_tree_at.kp b_tree_at g_tree_at
  have Gput : FnOk P w K mg base (CX P w) 7 _ dt_put ["self", "path", "other"] (spPut K (He.ga K "Tree") (He.ga K "Schema") (He.ga K "InvalidPath") (He.ga K "InvalidTree")) := ok_put T_put T n_reversed n_list TCs O1 (xd_ty q1) FT.mkr mk.1 Gtat F_tree_at.kp b_tree_at g_tree_at GtoV F_is_tree_of.kp b_is_tree_of g_is_tree_of
  have Gchx : FnOk P w K mg base (CX P w) 3 _ d_check_schema ["schema"] (spChkX K (He.ga K "Schema") (He.ga K "NotASchema")) := ok_chkX F_check_schema T.isi Sc O3 (xd_ty q3)
  have Gnmb : FnOk P w K mg base CX0 1 _ d_number ["word"] spNmb := ok_nmb F_number T n_int (He.int_ok X G (tb3 c (by decide +kernel))) (He.str_ok X G qD)
  have Grot : FnOk P w K mg base CX0 2 _ d_rows_of_text ["text"] spRot := ok_rot F_rows_of_text T Gnmb F_number.kp b_number g_number
  have Giwo : FnOk P w K mg base CX0 4 _ d_is_row ["schema", "row", "kinds"] (spIrwO (He.ga K "Schema")) := ok_irwO F_is_row T TN Sc (FS.dm (y := "__contains__") (by decide +kernel)) Gcn bs_contains GnuV F_is_number.kp b_is_number g_is_number
  have Gcwo : FnOk P w K mg base (L2N.CX P w) 5 _ d_check_rows ["schema", "rows"] (spCrwO (He.ga K "Schema") (He.ga K "InvalidRows")) := ok_crwO F_check_rows T mM Sc O4 (xd_ty q4) Giwo F_is_row.kp b_is_row g_is_row
  have Gofx : FnOk P w K mg base (L2N.CX P w) 7 _ dc_of_rows ["cls", "schema", "rows"] (spOfrX (He.ga K "Tree") (He.ga K "Schema") (He.ga K "InvalidRows")) := ok_ofrX C_of_rows T FT.mkr mk.1 Gch F_check_schema.kp b_check_schema g_check_schema Gcwo F_check_rows.kp b_check_rows g_check_rows
  have cmr := cmB_ok (m := "read") (K := K) (C := "Tree") (He.ba qcc).2
  have Grd : FnOk P w K mg base (CX P w) 9 _ dc_read ["cls", "schema", "text"] (spRd K (He.ga K "Tree") (He.ga K "Schema") (He.ga K "NotASchema") (He.ga K "InvalidText")) := ok_rd C_read T O2 OIH (xd_ty q2) (He.glo_ok X G (xd_glo q4)) (of_decide_eq_true e6) Gchx F_check_schema.kp b_check_schema g_check_schema Grot F_rows_of_text.kp b_rows_of_text g_rows_of_text cmo.1 cmo.2 Gofx bc_of_rows (FT.dm (y := "__str__") (by decide +kernel)) (ok_stT T_str T ZT) bt_str
  have Gctr : FnOk P w K mg base (CX P w) 3 _ d_check_tree ["tree"] (spCtr K (He.ga K "Tree") (He.ga K "Schema") (He.ga K "NotATree")) := ok_ctr F_check_tree T Tc O5 (xd_ty q5)
  have Gfdf := ok_fdf F_first_different n_zip TCs
  have Gcmp : FnOk P w K mg base (CX P w) 5 _ d_compare ["one", "other"] (spCmp K (He.ga K "Tree") (He.ga K "Schema") (He.ga K "NotATree") (He.ga K "OtherSchema")) := ok_cmp F_compare TCs Sc FS.ne Gctr F_check_tree.kp b_check_tree g_check_tree Gfdf F_first_different.kp b_first_different g_first_different Gpl (FS.me "place" (by decide +kernel)) bs_place zO.1
  have Ggr : FnOk P w K mg base CX0 2 _ d_law_grown ["_law_deal_here", "_law_names"] spGrn := ok_grn F_law_grown T.rng T.tup n_max GP F_law_pick.kp b_law_pick g_law_pick
  have Gsh : FnOk P w K mg base CX0 1 _ d_law_shared ["_law_rows"] spShd := ok_shd F_law_shared T.tup
  have Gsz : FnOk P w K mg base CX0 1 _ d_law_sizes ["_law_rows"] spSzs := ok_szs F_law_sizes n_sum n_max
  have Grk : FnOk P w K mg base CX0 2 _ d_law_ranks ["_law_names", "_law_made"] spRks := ok_rks F_law_ranks T.rng T.tup T.len n_set n_sorted Gsz F_law_sizes.kp b_law_sizes g_law_sizes
  have hgi := fnIn_of (K := K) (x := "__getitem__") (q := "Tree.__getitem__") (st := cT 9) (fd := dt_getitem) (by
    obtain ⟨oc, od, kV, doc, pm, an, cdv, ct, osl, rfl, lk, hcd⟩ := T_getitem.ex
    exact ⟨_, _, _, _, lk⟩)
  have GR : Pr P w K mg base CX0 12 _ d_law_right ["_law_deal_here"] spRgt := ok_rgt F_law_right T TN n_repr n_list TCs Sc OF FS.mkr Gini bs_init (FT.dm (y := "__getitem__") (by decide +kernel)) hgi Ggi bt_getitem (FT.me "put" (by decide +kernel)) Gput bt_put cmr.1 cmr.2 Grd bc_read GP F_law_pick.kp b_law_pick g_law_pick GWs F_law_words.kp b_law_words g_law_words Ggr F_law_grown.kp b_law_grown g_law_grown Gsh F_law_shared.kp b_law_shared g_law_shared Gsz F_law_sizes.kp b_law_sizes g_law_sizes Grk F_law_ranks.kp b_law_ranks g_law_ranks Gcmp F_compare.kp b_compare g_compare
  exact ok_law F_law T.len T.rng T.all n_max n_min GN F_law_number.kp b_law_number g_law_number GE F_law_deal.kp b_law_deal g_law_deal GR F_law_right.kp b_law_right g_law_right
end
end Ks
set_option Elab.async false
set_option linter.all false
set_option maxRecDepth 100000
set_option maxHeartbeats 4000000
/-! the same look at a state whose objects stand in a list: over a tree made of them -/
namespace Gd
open PySem PySem.Spec PyProof.Rows HandSHeadRun
def obsL (H : PySem.W.Hook) (ob : PySem.W.SharedT → H.α) (s : Shared) : H.α := match putAll s.heap.objs.toList .nil 0 with
  | some (t, n) => frNat n fun n => ob ⟨t, n, s.heap.life, s.gens, s.drawn, s.toks, s.os⟩
  | none => H.obs s
theorem obsL_eq {H : PySem.W.Hook} {ob : PySem.W.SharedT → H.α} (e : ∀ s, ob s = H.obs s.abs) (s : Shared) : obsL H ob s = H.obs s := by
  unfold obsL
  cases q : putAll s.heap.objs.toList .nil 0 with
  | none => rfl
  | some r =>
    obtain ⟨t, n⟩ := r
    show frNat n (fun n => ob ⟨t, n, s.heap.life, s.gens, s.drawn, s.toks, s.os⟩) = _
    rw [frNat_eq, e]
    have eh := putAll_heap q
    show H.obs (⟨PySem.W.absHeap t n s.heap.life, s.gens, s.drawn, s.toks, s.os⟩ : Shared) = _
    rw [eh]
def hookL (H : PySem.W.Hook) (ob : PySem.W.SharedT → H.α) (e : ∀ s, ob s = H.obs s.abs) : PySem.W.Hook where
  α := H.α
  obs := obsL H ob
  val := H.val
  says := H.says
  of := fun w s h => H.of w s ((obsL_eq e s).symm.trans h)
  keeps := H.keeps
end Gd
set_option Elab.async false
set_option linter.all false
set_option maxRecDepth 100000
set_option maxHeartbeats 4000000
open PySem PySem.W PySem.Calls PyProof.Rows
abbrev Ks.hkL : PySem.W.Hook := Gd.hookL Ks.hk Ks.ob Ks.ob_eq
set_option maxHeartbeats 0 in
theorem PySem.Challenge.cw_fivetrees_k13_great_trees_holds : PySem.Challenge.rw_fivetrees_k13_great_trees.Holds := by
  w_on; o_law
  o_head Ks.hkL
  case hw => w_witness2
  case hc =>
    refine Gd.walk_goE (l := PySem.Challenge.rw_fivetrees_k13_great_trees) (n := 63) (k := 13) (x := "_law_cells") rfl (by decide) (by kernel_rfl) ⟨rfl, by decide, by decide⟩ ?F
    intro w mg fa h Y G hmg0
    obtain ⟨K, KX, c⟩ := Y
    obtain ⟨fd, hb, hF⟩ := Ks.facts (P := (PySem.Challenge.rw_fivetrees_k13_great_trees).prog) (w := w) KX G hmg0 c
    exact ⟨K, fd, Ks.spLaw K, KX, hb, fun H a ns hl hS => ⟨a, ns, rfl, hS, hl, fun _ => rfl⟩, hF⟩
