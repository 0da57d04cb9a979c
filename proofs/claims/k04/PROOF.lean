import PyProof.Rows.All
import Wide.All
import OpenK.AllK
import Wide.FinOn
import HandS.ForMost
import HandS.IsInst
import HandS.ExcInit
import KE.KExcInit
import KE.KExcIs
import HandS.ExcValue
import HandS.OwnEq
import HandS.Conv
import HandS.Property
import HandS.Strs
import HandS.MakeKw
import KE.GoesEnum
import HandS.Iter
import HandS.DictComp
import OpenK.KOps
import OpenK.KMeth
import HandS.FStr
import HandS.TryMany
import HandS.HotCalls
import PyProof.CallFns
import HandS.Lambda
import HandS.Star
import HandS.SortKw
import HandS.MakeKwOnly
import KE.DatumOrd
import HandS.ClsMeth
import HandS.Zip
import HandS.Head0
import HandS.Head1
import HandS.Head2
import HandS.HeadHook1
import HandS.ExcInitHot
import HandS.SuiteRaise
import HandS.Text
import HandS.WordsExc
import HandS.EndTab
import PyProof.ReprNest
import PyProof.StrLawsRepr
import PyProof.NeKinds
import HandS.Set
import HandS.Style
import PyProof.InstNe
import PyProof.EqKinds
import PyProof.CallStr
import HandS.HeadHook4
import HandS.HeadNt
import HandS.Small
import KE.LtData
import HandS.HeadEnd
import PySem.Challenge.RW_fivetrees_k04_whole_schema_texts
set_option Elab.async false
set_option linter.all false
set_option maxRecDepth 100000
set_option maxHeartbeats 4000000
/-! Promises of defs that are called while no repr is under way; repr of lists and tuples; a law's end over them. -/
namespace Gd
open PySem PySem.Spec PyProof.Rows L2

/-- as FnOk, for calls at which no repr is under way -/
structure Pr (P : Program) (w : World) (K : PySem.W.Frag) (mg : Str → Option Value) (base : Heap) (CX : CXT) (k : Nat) (f : Addr) (fd : FuncData) (ps : List Str) (sp : Sp) : Prop where
  size : ∀ us H Q E, sp us H Q E → us.length = ps.length
  go : ∀ (A : Around) (ou : List Env) (s : Shared) (H : Hp) (gs : Args) (us : List Value) (vs : List V) (Q : VK) (E : XK), A.guards = some [] → Room k A →
    Env0 P w K mg base A ou s H → BindsTo s fd gs (ps.zip us) → Vals vs us → sp vs H Q E → codeAny (model P w) A (.call (.ref f) gs) (CR CX ou P w H s Q E) s
theorem Pr.of {P : Program} {w : World} {K : PySem.W.Frag} {mg : Str → Option Value} {base : Heap} {CX : CXT} {k : Nat} {f : Addr} {fd : FuncData} {ps : List Str} {sp : Sp} (F : FnOk P w K mg base CX k f fd ps sp) : Pr P w K mg base CX k f fd ps sp :=
  ⟨F.len, fun A ou s H gs us vs Q E _ => F.run A ou s H gs us vs Q E⟩

theorem pr_of {CX : CXT} {P : Program} {w : World} {K : PySem.W.Frag} {mg : Str → Option Value} {base : Heap} {k : Nat} {f : Addr} {nm qn : Str} {pa : Arguments} {bd : List Stmt} {sc : Scope} {dV kV dc pm cv ct oc : Value} {an od : Option Addr}
    {osl : Array (Option Value)} {N ps : List Str} {sp : Sp} (lk : K.lookup f = some ⟨oc, od, .func (PySem.W.fnOf nm qn pa bd sc dV kV dc pm an cv ct), osl⟩) (hc : PySem.W.codeIn K cv qn = true) (S : FnScope N ps sc)
    (hl : ∀ us H Q E, sp us H Q E → us.length = ps.length)
    (hb : ∀ (A : Around) (ou : List Env) (s : Shared) (H : Hp) (vs : List V) (Q : VK) (E : XK), A.guards = some [] → Room k (A.deeper (envOfC qn sc s.heap.objs.size f cv)) → sp vs H Q E →
      ∃ t, PSs (cxOf CX P w K mg base N qn sc f cv A ou s H E) bd t ∧ t { nx := fun _ H' => Q .non H', rt := Q } (start N vs) H) :
    Pr P w K mg base CX (k + 1) f (PySem.W.fnOf nm qn pa bd sc dV kV dc pm an cv ct) ps sp := by
  constructor
  · exact hl
  intro A ou s H gs us vs Q E hG hR e0 hB hV hS
  have n1 := hl vs H Q E hS
  have inK : K.In s.heap := e0.mod.kin.keeps (fun b o e => (e0.bs b o e).left)
  have noL : s.heap.NoLimit := e0.mod.nolimit.keeps (fun b o e => (e0.bs b o e).left)
  have kinds : ∀ y ∈ ps.zip us, sc.names.lookup y.1 = some .local ∨ (sc.names.lookup y.1 = some .cell ∧ ((cellsFrom (s.heap.objs.size + 1) sc.names []).lookup y.1).isSome = true) := by
    rintro ⟨n, v⟩ hy
    cases S.par n (List.of_mem_zip hy).1 with
    | inl q => exact .inl q
    | inr q => exact .inr ⟨q, PySem.W.cellsFrom_some _ _ _ (.inl q)⟩
  refine codeAny_call_function hR.depth (inK _ _ lk) rfl S.co S.gen rfl (PySem.W.codeRec_of inK hc) (hB _ _ _ _ ?_)
  refine wpAny_newFunctionEnv_cells S.kind kinds fun ev he s2 y => ?_
  subst he
  refine ⟨noL.keeps y.toInCall.keep, codeAny_func ?_⟩
  obtain ⟨t, ht, hq⟩ := hb A ou s H vs Q E hG (hR.deeper _) hS
  have J0 : Inv (cxOf CX P w K mg base N qn sc f cv A ou s H E) [] (start N vs) H s2 := inv_start S hR.hd e0 n1 hV y
  refine wpAny_mono (ht.run [] s2 (start N vs) H _ J0 hq) (fun fl s3 h3 => ?_) fun _ _ z => z
  have fin : ∀ {τ : L2.St} {H' : Hp} {v : V} {u : Value}, Inv (cxOf CX P w K mg base N qn sc f cv A ou s H E) [] τ H' s3 → RelV v u → Q v H' → CE ou P w H s Q u s3 := by
    intro τ H' v u J rv q
    exact ⟨v, H', J.os, J.bare, J.base, J.hok, rv, q⟩
  match fl, h3 with
  | .ret u, ⟨v, τ, H', J, rv, q⟩ => exact fin J rv q
  | .next, ⟨τ, H', J, q⟩ => exact fin (v := V.non) (u := Value.none) J rfl q
  | .brk, ⟨_, _, _, q⟩ => exact False.elim q
  | .cont, ⟨_, _, _, q⟩ => exact False.elim q

section
variable {P : Program} {w : World} {K : PySem.W.Frag} {mg : Str → Option Value} {base : Heap}
/-- a def of the text, by its body -/
theorem okG {x qn : Str} {st : Stmt} {f : Addr} {fd : FuncData} {N ps : List Str} {k : Nat} {sp : Sp} (F : Fun K x qn st f fd) (S : FnScope N ps (defScope st)) (hl : ∀ us H Q E, sp us H Q E → us.length = ps.length)
    (hb : ∀ (cv : Value) (A : Around) (ou : List Env) (s : Shared) (H : Hp) (vs : List V) (Q : VK) (E : XK), A.guards = some [] → Room k (A.deeper (envOfC qn (defScope st) s.heap.objs.size f cv)) → sp vs H Q E →
      ∃ t, PSs (cxOf CX0 P w K mg base N qn (defScope st) f cv A ou s H E).nox (defBody st) t ∧ t { nx := fun _ H' => Q .non H', rt := Q } (start N vs) H) : Pr P w K mg base CX0 (k + 1) f fd ps sp := by
  obtain ⟨oc, od, kV, dc, pm, an, cv, ct, osl, rfl, lk, hc⟩ := F.ex
  refine pr_of lk hc S hl fun A ou s H vs Q E hG hR hS => ?_
  obtain ⟨t, h, q⟩ := hb cv A ou s H vs Q E hG hR hS
  exact ⟨t, h.nox, q⟩
end

section
variable {X : Cx} {CX : CXT} {k : Nat} {f C : Addr} {fd : FuncData} {ps ks : List Str} {sp : Sp} {dvs : List V} {ds : List Value} {E : XK} {x m : Str} {p pos apos : Pos} {e o : Expr} {es : List Expr} {kws : List Keyword} {ta : TE} {t tk : TA}
  {g : List Value → List Value → List Value} {gV : List V → List V → List V}
theorem run_pr {pins : List (Addr × Obj)} {σ : L2.St} {H : Hp} {s : Shared} {Q : VK} {us : List Value} {kw : List (Str × Value)} {ws : List Value} {zs : List V} (F : Pr X.prog X.w X.K X.mg X.base CX k f fd ps sp) (hG : X.A.guards = some []) (hR : Room k X.A) (hx : Passes CX X E)
    (I : Inv X pins σ H s) (hB : BindsTo s fd ⟨us, kw⟩ (ps.zip ws)) (hV : Vals zs ws) (h : sp zs H Q E) : wpAny (model X.prog X.w) X.A (call (.ref f) us kw) (EP X pins σ Q) X.xe s := by
  refine wpAny_call (codeAny_mono (F.go X.A X.stack s H ⟨us, kw⟩ ws zs Q E hG hR I.env0 hB hV h) fun r s' hq => ?_)
  match r, hq with
  | .error e, hq => exact hx pins σ H s e s' I hq
  | .ok (.ret u), hq => exact I.after hq
  | .ok .next, hq => exact False.elim hq
  | .ok .brk, hq => exact False.elim hq
  | .ok .cont, hq => exact False.elim hq
/-- f(e, ..) -/
theorem pe_callG (F : Pr X.prog X.w X.K X.mg X.base CX k f fd ps sp) (hG : X.A.guards = some []) (hR : Room k X.A) (hg : Gl X x) (hm : X.mg x = some (.ref f)) (hk : PySem.W.keepIn X.K (.ref f) = true) (hb : Binds X.K fd ps ds) (hd : Vals dvs ds) (hx : Passes CX X E)
    (ha : PA X (e :: es) t) (hdb : (x == ("__debug__" : Str)) = false := by decide) (he : starEach (e :: es) X.env = (false, eval e X.env) :: starEach es X.env := by rfl) (hpl : (backTo pos (starEach es X.env)).any (·.1) = false := by rfl) :
    PE X (.Call (.Name x p) (e :: es) [] pos) (tCall sp dvs E t) := by
  constructor
  intro pins s σ H Q I h
  refine wpAny_Call_Name_kw (ld_glob I hg hm ?_ hdb)
  refine PySem.W.callWith_K (h₀ := X.base) I.ok.mod.kin hk (thn (ha.run pos pins s σ H _ I h) fun us s2 z2 => ?_) he hpl
  obtain ⟨vs, H2, I2, r2, q2⟩ := z2
  refine ⟨I2.kIn, run_pr F hG hR hx I2 (hb s2 us I2.kIn ?_) (r2.append hd) q2⟩
  rw [← (r2.append hd).length]
  exact F.size _ _ _ _ q2
/-- f(k = v, ..): keywords alone -/
theorem pe_callGK0 (F : Pr X.prog X.w X.K X.mg X.base CX k f fd ps sp) (hG : X.A.guards = some []) (hR : Room k X.A) (hg : Gl X x) (hm : X.mg x = some (.ref f)) (hk : PySem.W.keepIn X.K (.ref f) = true) (hb : KBinds X.K fd ps ks g gV) (hx : Passes CX X E)
    (hkw : PK X kws tk) (hall : (backToKw pos (keywordEach kws X.env)).all (·.1.isSome) = true := by rfl) (hks : (backToKw pos (keywordEach kws X.env)).filterMap (·.1) = ks := by rfl)
    (hdb : (x == ("__debug__" : Str)) = false := by decide)
    (hpl : ((backTo pos (starEach [] X.env)).any (·.1) || (backToKw pos (keywordEach kws X.env)).any (·.1.isNone)) = false := by rfl) :
    PE X (.Call (.Name x p) [] kws pos) (tCallK sp gV E tNil tk) := by
  constructor
  intro pins s σ H Q I h
  refine wpAny_Call_Name_kw (ld_glob I hg hm ?_ hdb)
  refine PySem.W.callWith_KW0 (first := []) (h₀ := X.base) I.ok.mod.kin hk hall (thn (hkw.run pos pins s σ H _ I h) fun us s2 z2 => ?_) hpl
  obtain ⟨zs, H2, I2, r2, q2⟩ := z2
  refine ⟨I2.kIn, ?_⟩
  rw [hks]
  have rr : Vals (gV [] zs) (g [] us) := hb.rel .nil r2
  refine run_pr F hG hR hx I2 (hb.to s2 [] us I2.kIn ?_) rr q2
  rw [← rr.length]
  exact F.size _ _ _ _ q2
end

/-! ### repr of a list or a tuple of plain things -/
def rShow (K : PySem.W.Frag) : List V → Hp → VK → Prop := fun xs H Q => ∃ (a : Addr) (d : PyData), xs = [.ref a] ∧ Dp K H (.ref a) d ∧ d.showable = true ∧ d.hasDict = false ∧ d.depth ≤ 60 ∧ d.shown.length ≤ sizeLine ∧ Q (.str d.shown) H
theorem call_show {X : Cx} (hG : X.A.guards = some []) (hu : X.A.units + 64 < cLine) : CallR X (.builtin "repr") (rShow X.K) := by
  intro pins s σ H xs us Q I r h
  obtain ⟨a, d, rfl, hd, hs, hn, hz, hl, q⟩ := h
  have e1 := Vals.ref1 r
  subst e1
  obtain ⟨as, r1⟩ := Dp.reads I d (.ref a) (.ref a) hd rfl
  exact repr_of_reads' r1 hs (PyData.noDict_hsm hn) hG (by omega) (fun _ _ e => e) (fun h' u tk hk => ⟨.str d.shown, H, I.kept hk, ⟨_, rfl⟩, q⟩) hl

/-! ### a law's end -/
theorem law_go {P : Program} {w : World} {K : PySem.W.Frag} {mg mb : Str → Option Value} {CX : CXT} {k : Nat} {fa a : Addr} {fd : FuncData} {x : Str} {sp : Sp} {s1 : Shared} {vs : List Value} {ns : List Int}
    (KX : K.In s1.heap) (hm : s1.heap.Ns mainGlobals mg) (hb : s1.heap.Ns builtinsNs mb) (hbb : ∀ x : Str, x ≠ "__name__" → mb x = bootBuiltins x) (hlim : s1.heap.NoLimit) (hg : s1.gens = #[])
    (ha : s1.heap.get? a = some { cls := .type "list", data := .seq vs.toArray }) (hi : IntsAre vs ns) (hl : ns.length ≤ sizeLine) (hR : Room k callerA)
    (F : ∀ base : Heap, K.In base → base.Ns mainGlobals mg → Pr P w K mg base CX k fa fd [x] sp) (hbind : ∀ (s : Shared) (u : Value), BindsTo s fd ⟨[u], []⟩ [(x, u)])
    (hsp : ∀ H : Hp, Only H → SqL K H a (ns.map V.int) → sp [.ref a] H (fun v _ => v = .bl true) fun _ _ _ => False)
    (hCX : ∀ H e s', CX [] H s1 (fun _ _ _ => False) e s' → False) :
    codeAny (model P w) callerA (.call (.ref fa) ⟨[.ref a], []⟩) (fun r s' => r = .ok (.ret (.bool true)) ∧ OldK s1.heap s'.heap ∧ s'.os = s1.os ∧ AllBare s'.gens) s1 := by
  have rv := vals_ints hi
  have main : ∀ H : Hp, Only H → SqL K H a (ns.map V.int) → HOk P w H s1.heap → (∀ b, H b ≠ none → b = a) → (H a ≠ none → K.lookup a = none) →
      codeAny (model P w) callerA (.call (.ref fa) ⟨[.ref a], []⟩) (fun r s' => r = .ok (.ret (.bool true)) ∧ OldK s1.heap s'.heap ∧ s'.os = s1.os ∧ AllBare s'.gens) s1 := by
    intro H hO hS hok oa ok
    have only : ∀ {b : Addr}, H b ≠ none → b = a := fun {b} h => oa b h
    have none_of : ∀ {b : Addr}, b ≠ a → H b = none := by
      intro b hb
      rcases hO b with z | ⟨ob, xs, z⟩
      · exact z
      · exact absurd (only (by rw [z]; simp)) hb
    have stay : ∀ {b : Addr} {o : Obj}, s1.heap.get? b = some o → H b = none → (hidT s1.heap H).get? b = some o := fun e n => hidT_get e n
    have ns_of : ∀ {b : Addr} {m : Str → Option Value}, s1.heap.Ns b m → (hidT s1.heap H).Ns b m := by
      rintro b m ⟨o, es, ep, e, d, r⟩
      refine ⟨o, es, ep, stay e (none_of ?_), d, r⟩
      rintro rfl
      rw [ha] at e
      cases e
      exact absurd (show Data.seq vs.toArray 0 = Data.dict es ep from d) (by intro z; cases z)
    have inK : K.In (hidT s1.heap H) := by
      intro b o e
      refine stay (KX b o e) ?_
      rcases hO b with z | ⟨ob, xs, z⟩
      · exact z
      · have nz : H b ≠ none := by rw [z]; simp
        have e' := only nz
        subst e'
        rw [ok nz] at e
        cases e
    obtain ⟨mc, l1, l2⟩ := hlim
    have hM : Mod K mg (hidT s1.heap H) := ⟨inK, ns_of hm, ⟨mb, ns_of hb, hbb⟩, ⟨mc, ns_of l1, l2⟩⟩
    have e0 : Env0 P w K mg (hidT s1.heap H) callerA [] s1 H :=
      ⟨rfl, hM, fun b o e => of_hidT e, Nat.le_of_eq (hidT_size _ _), trivial, fun b z => by simp [frs] at z, hok, .of_eq hg⟩
    refine codeAny_mono ((F _ inK (ns_of hm)).go callerA [] s1 H ⟨[.ref a], []⟩ [.ref a] [.ref a] _ _ rfl hR e0 (hbind s1 (.ref a)) (.cons rfl .nil) (hsp H hO hS)) fun r s2 h => ?_
    match r, h with
    | .error e, h => exact (hCX H e s2 h).elim
    | .ok .next, h => exact False.elim h
    | .ok .brk, h => exact False.elim h
    | .ok .cont, h => exact False.elim h
    | .ok (.ret u), ⟨v, H', os, bare, un, hok', r', q⟩ =>
      have q' : v = .bl true := q
      subst q'
      have r2 : u = Value.bool true := r'
      subst r2
      refine ⟨rfl, OldK.of_keep fun b o e => ?_, os, bare⟩
      rcases hO b with z | ⟨ob, xs, z⟩
      · exact un.keep b o e z (by simp [frs]) (by simp)
      · have z2 := un.frzs b ob _ z
        have g1 := (hok b _ z).1
        have g2 := (hok' b _ z2).1
        rw [e] at g1
        cases g1
        exact g2
  cases hk : K.lookup a with
  | some o =>
    have e := KX a o hk
    rw [ha] at e
    cases e
    exact main (fun _ => none) (fun _ => .inl rfl) (.inr ⟨_, vs.toArray, _, hk, rfl, rfl, rfl, by rw [List.size_toArray, hi.length]; exact hl, by simpa using rv⟩) (fun b u z => by cases (show (none : Option HO) = some u from z)) (fun b z => absurd rfl z) fun z => absurd rfl z
  | none =>
    have at_ : (fun b => if b = a then some (HO.frz { cls := .type "list", data := .seq vs.toArray } (.lst (ns.map V.int))) else none) a = some (HO.frz { cls := .type "list", data := .seq vs.toArray } (.lst (ns.map V.int))) := if_pos rfl
    refine main (fun b => if b = a then some (HO.frz { cls := .type "list", data := .seq vs.toArray } (.lst (ns.map V.int))) else none) (fun b => ?_) (.inl (.inr ⟨_, at_⟩)) (fun b u z => ?_) (fun b z => ?_) fun _ => hk
    · by_cases hb : b = a
      · exact .inr ⟨_, _, if_pos hb⟩
      · exact .inl (if_neg hb)
    · by_cases hb : b = a
      · subst hb
        cases at_.symm.trans z
        exact ⟨ha, by rw [List.length_map]; exact hl, vs, _, rv, ha⟩
      · cases (if_neg hb).symm.trans z
    · by_cases hb : b = a
      · exact hb
      · exact absurd (if_neg hb) z

theorem walk_go {l : PySem.W.OpenLaw} {n k : Nat} {q : Program} {loose : List Str} {XP : (Str → Option Value) → Heap → Prop} {YP : World → Heap → Prop} {d : DefRec} {K : Params → PySem.W.Frag} {x : Str} {sp : PySem.W.Frag → Sp}
    (hn : l.most = some n) (hn2 : n ≤ sizeLine) (hdf : d.params.defaults = []) (hR : Room k callerA)
    (hY : ∀ (w : World) (h : Heap), YP w h → (K w.params).In h)
    (F : ∀ (w : World) (mg : Str → Option Value) (fa : Addr) (h : Heap), (K w.params).In h → h.Ns mainGlobals mg → mg d.name = some (.ref fa) →
      ∃ fd : FuncData, (∀ (s : Shared) (u : Value), BindsTo s fd ⟨[u], []⟩ [(x, u)]) ∧ ∀ base : Heap, (K w.params).In base → base.Ns mainGlobals mg → Pr l.prog w (K w.params) mg base CX0 k fa fd [x] (sp (K w.params)))
    (hsp : ∀ (K : PySem.W.Frag) (H : Hp) (a : Addr) (ns : List Int), ns.length ≤ n → SqL K H a (ns.map V.int) → sp K [.ref a] H (fun v _ => v = .bl true) fun _ _ _ => False) :
    PySem.W.WalkO q loose XP YP l.row.toRowW d [] (fun f vs => PySem.call f vs) := by
  refine Att.attach_call hn hdf fun w s0 s1 mg mb fa o pm cd doc a vs ns G Y ho hd hcd hmg hobj hints hlen hg => ?_
  obtain ⟨fd, hb, hF⟩ := F w mg fa _ (hY w _ Y) G.T.g hmg
  exact law_go (hY w _ Y) G.T.g G.T.b G.T.builtins G.T.nolimit hg hobj hints (Nat.le_trans hlen hn2) hR hF hb (fun H _ hS => hsp _ H a ns hlen hS) fun _ _ _ z => z
end Gd
/-! names: k02 _law_number _law_deal _law_pick -/
set_option Elab.async false
set_option linter.all false
set_option maxRecDepth 100000
set_option maxHeartbeats 4000000
namespace Kx
open PySem PySem.Spec PyProof.Rows L2 Gd
def topS (i : Nat) : Stmt := PySem.Challenge.pw_fivetrees_k04_whole_schema_texts.main.body.getD i (.Pass ⟨0, 0, 0, 0⟩)
abbrev sNum : Stmt := topS 27
abbrev sDeal : Stmt := topS 28
abbrev sPick : Stmt := topS 29
theorem scNum : FnScope ["_law_cells", "_law_k", "_law_mixed", "_law_one", "_law_more"] ["_law_cells", "_law_k"] (defScope sNum) := ⟨rfl, rfl, rfl, by decide +kernel, rfl, by decide +kernel, by decide +kernel⟩
theorem scDeal : FnScope ["_law_number_here"] ["_law_number_here"] (defScope sDeal) := ⟨rfl, rfl, rfl, by decide +kernel, rfl, by decide +kernel, by decide +kernel⟩
theorem scPick : FnScope ["_law_deal_here", "_law_many", "_law_digit", "_law_seed", "_law_turn"] ["_law_deal_here", "_law_many"] (defScope sPick) := ⟨rfl, rfl, rfl, by decide +kernel, rfl, by decide +kernel, by decide +kernel⟩
/-- three ints that deal on -/
def DealAt (H : Hp) (p : Addr) : Prop := ∃ a b c : Int, H p = some (.lst [.int a, .int b, .int c]) ∧ 0 ≤ b ∧ b < 2147483423
/-- all but p stands -/
def Sb (p : Addr) (H H' : Hp) : Prop := ∀ b o, b ≠ p → H b = some o → H' b = some o
theorem Sb.refl {p : Addr} {H : Hp} : Sb p H H := fun _ _ _ e => e
theorem Sb.trans {p : Addr} {H H1 H2 : Hp} (h : Sb p H H1) (h2 : Sb p H1 H2) : Sb p H H2 := fun b o n e => h2 b o n (h b o n e)
theorem Sb.of {p : Addr} {H H1 : Hp} (h : Same H H1) : Sb p H H1 := fun b o _ e => h b o e
theorem Sb.set {p : Addr} {H : Hp} {o : HO} : Sb p H (upd H p o) := fun b x n e => by rw [upd_ne n]; exact e
theorem same_new {H : Hp} {p : Addr} {o : HO} (h : H p = none) : Same H (upd H p o) := fun b x e => by rw [upd_ne (ne_of_none e h)]; exact e
theorem Sb.new {p q : Addr} {H : Hp} {o : HO} (h : H q = none) : Sb p H (upd H q o) := .of (same_new h)
theorem DealAt.keep {H H' : Hp} {p : Addr} (D : DealAt H p) (h : Same H H') : DealAt H' p := by
  obtain ⟨a, b, c, e, l⟩ := D
  exact ⟨a, b, c, h _ _ e, l⟩
/-- a made heap: all that stood but p stands, and a place that was free is free as long as nothing was made there -/
theorem Sb.free {p x : Addr} {H H' : Hp} (h : Sb p H H') (n : x ≠ p) (f : H' x = none) : H x = none := by
  cases e : H x with
  | none => rfl
  | some o =>
    have := h x o n e
    rw [f] at this
    cases this
section
variable {P : Program} {w : World} {K : PySem.W.Frag} {mg : Str → Option Value} {base : Heap}
def spNum (K : PySem.W.Frag) : Sp := fun vs H Q _ => ∃ (a : Addr) (ns : List Int) (k : Nat), vs = [.ref a, .int k] ∧ SqL K H a (ns.map V.int) ∧ ns.length ≤ 63 ∧ ∀ (z : Int) (H' : Hp), Same H H' → Q (.int z) H'
def spDeal : Sp := fun vs H Q _ => ∃ z : Int, vs = [.int z] ∧ ∀ (p : Addr) (H' : Hp), Same H H' → H p = none → DealAt H' p → Q (.ref p) H'
def spPick : Sp := fun vs H Q _ => ∃ (p : Addr) (m : Int), vs = [.ref p, .int m] ∧ DealAt H p ∧ 0 < m ∧ m < 1000000 ∧ ∀ (d : Int) (H' : Hp), 0 ≤ d → d < m → DealAt H' p → Sb p H H' → Q (.int d) H'
theorem ok_num {f : Addr} {fd : FuncData} (F : Fun K "_law_number" "_law_number" sNum f fd) (ml : mg "len" = none) (mi : mg "int" = none) : FnOk P w K mg base CX0 1 f fd ["_law_cells", "_law_k"] (spNum K) := by
  refine F.ok scNum (fun vs H Q E h => ?_) (fun cv A ou s H vs Q E hr h => ?_)
  · obtain ⟨a, ns, k, rfl, _⟩ := h
    rfl
  obtain ⟨a, ns, k, rfl, hS, hl, q⟩ := h
  refine ⟨_, pss_cons (ps_if (pt_cmpR op_lt (pv 1) (pe_callB call_len_seq (by rfl) ml PySem.boot_len (pa_cons (pv 0) pa_nil)) (nomark _))
      (pss_one (ps_ret (pe_callTy call_int1 (by rfl) mi boot_int (pa_cons (pe_ix ix_list (pv 0) (pv 1) (fun _ _ => rfl)) pa_nil)))) pss_nil)
    (pss_cons (ps_set (i := 2) scNum.nd rfl (.inl rfl) (pe_op op_mul pe_int (pe_op op_add (pv 1) pe_int)))
    (pss_cons (ps_for PassesOwn.never rfl (pi_list (pe_slice sl_list (pv 0) po_none (po_some pe_int))) (pg_name (i := 3) scNum.nd rfl (.inl rfl))
      (pss_cons (ps_set (i := 4) scNum.nd rfl (.inl rfl) (pe_op op_mod (pe_callTy call_int1 (by rfl) mi boot_int (pa_cons (pv 3) pa_nil)) pe_int))
      (pss_one (ps_set (i := 2) scNum.nd rfl (.inl rfl) (pe_op op_mod (pe_callTy call_int1 (by rfl) mi boot_int (pa_cons (pe_op op_add (pe_op op_add (pe_op op_mul (pv 2) pe_int) (pv 4)) (pv 1)) pa_nil)) pe_int)))))
    (pss_one (ps_ret (pv 2))))), ?_⟩
  refine ⟨.int k, rfl, .ref a, rfl, a, ns.map V.int, rfl, .inl hS, _, _, rfl, rfl, _, rfl, ite2 (fun e => ?_) (fun e => ?_)⟩
  · have hk : k < ns.length := by
      have := of_decide_eq_true e
      rw [List.length_map] at this
      omega
    refine ⟨.ref a, rfl, .int k, rfl, a, _, _, _, rfl, rfl, hS, atI_nat (j := k) (v := .int (ns[k])) (by rw [List.getElem?_map, List.getElem?_eq_getElem hk]; rfl), .inl ⟨_, rfl, ?_⟩⟩
    exact q _ H fun _ _ e => e
  refine ⟨.int k, rfl, _, _, rfl, rfl, _, _, rfl, rfl, .inl ⟨by decide, by decide⟩, ?_⟩
  refine ⟨.ref a, rfl, 6, rfl, a, _, rfl, hS, fun c nc => ?_⟩
  have s1 : Same H (upd H c (.lst (cutV (ns.map V.int) none (some 6)))) := same_new nc
  have hcut : ∃ ms : List Int, cutV (ns.map V.int) none (some 6) = ms.map V.int := by
    refine ⟨(ns.drop (HT.sIx ns.length 0 none)).take (HT.sIx ns.length ns.length (some 6) - HT.sIx ns.length 0 none), ?_⟩
    unfold cutV
    rw [List.length_map, List.map_take, List.map_drop]
  obtain ⟨ms, ems⟩ := hcut
  rw [ems] at s1 ⊢
  refine ⟨c, rfl, ⟨_, SqL.of upd_same⟩, for_list (K := K) (a := c) (xs := ms.map V.int) (fun i σ H2 => ∃ (z : Int) (o1 o2 : Option V), σ = [some (.ref a), some (.int k), some (.int z), o1, o2] ∧ H2 = upd H c (.lst (ms.map V.int)))
    ⟨_, none, none, rfl, rfl⟩ (fun i σ H2 _ ⟨_, _, _, _, e⟩ => by rw [e]; exact SqL.of upd_same) ?_ ?_⟩
  · rintro i y σ H2 hi ⟨z, o1, o2, rfl, rfl⟩
    obtain ⟨m, rfl⟩ : ∃ m, y = V.int m := by
      rw [List.getElem?_map] at hi
      cases e : ms[i]? with
      | none => rw [e] at hi; cases hi
      | some m => rw [e] at hi; exact ⟨m, (Option.some.inj hi).symm⟩
    refine ⟨.int m, rfl, .inl ⟨_, rfl, _, _, rfl, rfl, (by show (0 : Int) < 999983; decide), ?_⟩⟩
    refine ⟨_, rfl, _, _, rfl, rfl, .inr ⟨by decide, by decide⟩, _, rfl, _, _, rfl, rfl, _, rfl, _, _, rfl, rfl, .inl ⟨_, rfl, _, _, rfl, rfl, (by show (0 : Int) < 2147483423; decide), ?_⟩⟩
    exact ⟨_, _, _, rfl, rfl⟩
  · rintro σ H2 ⟨z, o1, o2, rfl, rfl⟩
    exact ⟨_, rfl, q z _ s1⟩
end
end Kx
set_option Elab.async false
set_option linter.all false
set_option maxRecDepth 100000
set_option maxHeartbeats 4000000
namespace Kx
open PySem PySem.Spec PyProof.Rows L2 Gd
section
variable {P : Program} {w : World} {K : PySem.W.Frag} {mg : Str → Option Value} {base : Heap}
theorem ok_deal {f : Addr} {fd : FuncData} (F : Fun K "_law_deal" "_law_deal" sDeal f fd) (ma : mg "abs" = none) (mi : mg "int" = none) : FnOk P w K mg base CX0 1 f fd ["_law_number_here"] spDeal := by
  refine F.ok scDeal (fun vs H Q E h => ?_) (fun cv A ou s H vs Q E hr h => ?_)
  · obtain ⟨z, rfl, _⟩ := h
    rfl
  obtain ⟨z, rfl, q⟩ := h
  refine ⟨_, pss_one (ps_ret (pe_lst (pa_cons (pe_ifExp (PW.pt (pw_or (pt_cmpR op_lt (pv 0) pe_int (nomark _)) (pw_or1 (pt_cmpR op_ge (pv 0) (pe_op op_pow pe_int pe_int) (nomark _)))))
      (pe_callB call_abs (by rfl) ma boot_abs (pa_cons (pv 0) pa_nil)) pe_int)
    (pa_cons (pe_op op_mod (pe_callTy call_int1 (by rfl) mi boot_int (pa_cons (pv 0) pa_nil)) pe_int) (pa_cons pe_int pa_nil))))), ?_⟩
  have fin : ∀ x : Int, (fun (x : V) (H1 : Hp) => tCons (tOp (rI (fun _ j => 0 < j) fun i j => .int (i % j)) (tCB (fun xs H Q => (∃ i, xs = [.int i] ∧ Q (.int i) H) ∨ ∃ k, xs = [.bl k] ∧ Q (.int (if k then 1 else 0)) H) (tCons (tVar 0) tNil)) (tC (.int 2147483423))) (tCons (tC (.int 0)) tNil) [some (.int z)] H1 fun xs H2 => (x :: xs).length ≤ sizeLine ∧ ∀ p, H2 p = none → Q (.ref p) (upd H2 p (.lst (x :: xs)))) (.int x) H := by
    intro x
    refine ⟨.int z, rfl, .inl ⟨_, rfl, _, _, rfl, rfl, (by show (0 : Int) < 2147483423; decide), (by show 3 ≤ sizeLine; decide), fun p hp => ?_⟩⟩
    exact q p _ (same_new hp) hp ⟨x, z % 2147483423, 0, upd_same, Int.emod_nonneg _ (by decide), Int.emod_lt_of_pos _ (by decide)⟩
  refine ⟨.int z, rfl, _, _, rfl, rfl, _, rfl, ite2 (fun e => iteT ?_) (fun e => ?_)⟩
  · exact ⟨.int z, rfl, _, rfl, fin _⟩
  · refine ⟨.int z, rfl, _, _, rfl, rfl, ⟨by decide, by decide, by decide⟩, _, _, rfl, rfl, _, rfl, ite2 (fun e => ?_) (fun e => ?_)⟩
    · exact ⟨.int z, rfl, _, rfl, fin _⟩
    · exact fin 0
theorem ok_pick {f : Addr} {fd : FuncData} (F : Fun K "_law_pick" "_law_pick" sPick f fd) (mi : mg "int" = none) : FnOk P w K mg base CX0 1 f fd ["_law_deal_here", "_law_many"] spPick := by
  refine F.ok scPick (fun vs H Q E h => ?_) (fun cv A ou s H vs Q E hr h => ?_)
  · obtain ⟨p, m, rfl, _⟩ := h
    rfl
  obtain ⟨p, m, rfl, ⟨a, b, c, hp, hb0, hb1⟩, m0, m1, q⟩ := h
  refine ⟨_, pss_cons (ps_asg (pe_op op_add (pe_ix ix_list (pv 0) pe_int (fun _ _ => rfl)) pe_int) (pg_sub (pv 0) pe_int set_list))
    (pss_cons (ps_if (pt_cmpR op_gt (pe_ix ix_list (pv 0) pe_int (fun _ _ => rfl)) pe_int (nomark _))
      (pss_cons (ps_set (i := 2) scPick.nd rfl (.inl rfl) (pe_op op_mod (pe_callTy call_int1 (by rfl) mi boot_int (pa_cons (pe_ix ix_list (pv 0) pe_int (fun _ _ => rfl)) pa_nil)) (pv 1)))
      (pss_cons (ps_asg (pe_op op_fdiv (pe_ix ix_list (pv 0) pe_int (fun _ _ => rfl)) (pv 1)) (pg_sub (pv 0) pe_int set_list))
      (pss_one (ps_ret (pv 2))))) pss_nil)
    (pss_cons (ps_par (i := 3) (j := 4) (by rfl) scPick.nd rfl rfl (by decide) rfl rfl (pa_cons (pe_callTy call_int1 (by rfl) mi boot_int (pa_cons (pe_ix ix_list (pv 0) pe_int (fun _ _ => rfl)) pa_nil)) (pa_cons (pe_callTy call_int1 (by rfl) mi boot_int (pa_cons (pe_ix ix_list (pv 0) pe_int (fun _ _ => rfl)) pa_nil)) pa_nil)) (by rfl))
    (pss_cons (ps_set (i := 3) scPick.nd rfl (.inl rfl) (pe_op op_mod (pe_callTy call_int1 (by rfl) mi boot_int (pa_cons (pe_op op_add (pe_op op_add (pe_op op_mul (pv 3) (pe_op op_add (pe_op op_add (pv 3) pe_int) (pe_op op_mul pe_int (pv 4)))) (pe_op op_mul pe_int (pv 4))) pe_int) pa_nil)) pe_int))
    (pss_cons (ps_asg (pv 3) (pg_sub (pv 0) pe_int set_list))
    (pss_one (ps_ret (pe_op op_mod (pe_callTy call_int1 (by rfl) mi boot_int (pa_cons (pe_op op_fdiv (pv 3) pe_int) pa_nil)) (pv 1)))))))), ?_⟩
  refine ⟨.ref p, rfl, p, _, _, .int c, rfl, rfl, SqL.of hp, rfl, _, _, rfl, rfl, .ref p, rfl, p, _, _, 2, rfl, rfl, hp, rfl, ?_⟩
  have h1 : upd H p (.lst [V.int a, .int b, .int (c + 1)]) p = some (.lst [V.int a, .int b, .int (c + 1)]) := upd_same
  have b1 : Sb p H (upd H p (.lst [V.int a, .int b, .int (c + 1)])) := .set
  refine ⟨.ref p, rfl, p, _, _, .int a, rfl, rfl, SqL.of h1, rfl, _, _, rfl, rfl, _, rfl, ite2 (fun e => ?_) (fun e => ?_)⟩
  · refine ⟨.ref p, rfl, p, _, _, .int a, rfl, rfl, SqL.of h1, rfl, .inl ⟨_, rfl, .int m, rfl, _, _, rfl, rfl, m0, ?_⟩⟩
    refine ⟨.ref p, rfl, p, _, _, .int a, rfl, rfl, SqL.of h1, rfl, .int m, rfl, _, _, rfl, rfl, ⟨m0, by omega⟩, .ref p, rfl, p, _, _, 0, rfl, rfl, h1, rfl, ?_⟩
    refine ⟨.int (a % m), rfl, ?_⟩
    exact q _ _ (Int.emod_nonneg _ (by omega)) (Int.emod_lt_of_pos _ m0) ⟨a / m, b, c + 1, upd_same, hb0, hb1⟩ (b1.trans .set)
  · refine ⟨.ref p, rfl, p, _, _, .int b, rfl, rfl, SqL.of h1, rfl, .inl ⟨_, rfl, .ref p, rfl, p, _, _, .int (c + 1), rfl, rfl, SqL.of h1, rfl, .inl ⟨_, rfl, _, _, rfl, ?_⟩⟩⟩
    refine ⟨.int b, rfl, .int b, rfl, _, _, rfl, rfl, .int (c + 1), rfl, _, _, rfl, rfl, .inl ⟨by decide, by decide⟩, _, _, rfl, rfl, _, _, rfl, rfl, .inl ⟨by omega, by omega⟩, ?_⟩
    refine ⟨.int (c + 1), rfl, _, _, rfl, rfl, .inl ⟨by decide, by decide⟩, _, _, rfl, rfl, _, _, rfl, rfl, .inl ⟨_, rfl, _, _, rfl, rfl, (by show (0 : Int) < 2147483423; decide), ?_⟩⟩
    refine ⟨_, rfl, .ref p, rfl, p, _, _, 1, rfl, rfl, h1, rfl, ?_⟩
    refine ⟨_, rfl, _, _, rfl, rfl, ⟨by decide, by decide⟩, .inl ⟨_, rfl, .int m, rfl, _, _, rfl, rfl, m0, ?_⟩⟩
    exact q _ _ (Int.emod_nonneg _ (by omega)) (Int.emod_lt_of_pos _ m0) ⟨a, _, c + 1, upd_same, Int.emod_nonneg _ (by decide), Int.emod_lt_of_pos _ (by decide)⟩ (b1.trans .set)
end
end Kx
set_option Elab.async false
set_option linter.all false
set_option maxRecDepth 100000
set_option maxHeartbeats 4000000
namespace Kx
open PySem PySem.Spec PyProof.Rows L2 Gd
abbrev sIs : Stmt := topS 17
theorem scIs : FnScope ["value", "sign"] ["value"] (defScope sIs) := ⟨rfl, rfl, rfl, by decide +kernel, rfl, by decide +kernel, by decide +kernel⟩
def lets : Str := Str.ofString "abcdefghijklmnopqrstuvwxyz"
def signs : Str := Str.ofString "abcdefghijklmnopqrstuvwxyz0123456789"
def digs : Str := Str.ofString "0123456789"
def inL (c : Nat) : Bool := decide (c ∈ lets.cps.toList)
def inN (c : Nat) : Bool := decide (c ∈ signs.cps.toList)
def inD (c : Nat) : Bool := decide (c ∈ digs.cps.toList)
theorem signs_eq : signs.cps.toList = lets.cps.toList ++ digs.cps.toList := by decide +kernel
theorem inN_eq (c : Nat) : inN c = (inL c || inD c) := by
  unfold inN inL inD
  rw [signs_eq]
  by_cases h1 : c ∈ lets.cps.toList <;> by_cases h2 : c ∈ digs.cps.toList <;> simp [h1, h2]
def nmL : List Nat → Bool
  | [] => false
  | c :: r => decide ((c :: r).length ≤ 8) && inL c && (c :: r).all inN
def nmS (z : Str) : Bool := nmL z.cps.toList
theorem len_list (z : Str) : z.cps.toList.length = z.length := by simp [Str.length]
theorem nmL_cons (c : Nat) (r : List Nat) : nmL (c :: r) = (decide ((c :: r).length ≤ 8) && inL c && (c :: r).all inN) := rfl
theorem nm_long {z : Str} (h : ¬ z.length ≤ 8) : nmS z = false := by
  have ez := len_list z
  unfold nmS
  cases ec : z.cps.toList with
  | nil => rfl
  | cons c r => rw [nmL_cons, ← ec, ez, decide_eq_false h]; rfl
theorem nm_short {z : Str} {c : Nat} {r : List Nat} (ec : z.cps.toList = c :: r) (h : z.length ≤ 8) : nmS z = (inL c && z.cps.toList.all inN) := by
  have ez := len_list z
  unfold nmS
  rw [ec, nmL_cons, ← ec, ez, decide_eq_true h]; rfl
theorem nm_empty {z : Str} (h : z.length = 0) : nmS z = false := by
  have ez := len_list z
  unfold nmS
  cases ec : z.cps.toList with
  | nil => rfl
  | cons c r => rw [ec] at ez; simp at ez; omega
theorem ne_cons {z : Str} (h : 1 ≤ z.length) : ∃ c r, z.cps.toList = c :: r := by
  have ez := len_list z
  cases ec : z.cps.toList with
  | nil => rw [ec] at ez; simp at ez; omega
  | cons c r => exact ⟨c, r, rfl⟩
/-- a comprehension over a text's signs -/
theorem lc_str {x : Str} {g : TG} {tt : TT} {te : TE} {vs : List Nat} {σ : L2.St} {H1 : Hp} {D : Addr} {Qd : Hp → Prop} (Pv : Nat → Hp → Prop) (h0 : Pv 0 (upd H1 D (.lst [])))
    (hs : ∀ i c H, x.cps.toList[i]? = some c → Pv i H → g (.str ⟨#[c]⟩) (wipe σ vs) H fun τ H2 => wipe τ vs = wipe σ vs ∧ tt τ H2 fun b H3 =>
      if b = true then te τ H3 fun y H4 => ∃ acc, H4 D = some (.lst acc) ∧ acc.length < sizeLine ∧ Pv (i + 1) (upd H4 D (.lst (acc ++ [y]))) else Pv (i + 1) H3) (hd : ∀ H, Pv x.cps.toList.length H → Qd H) :
    ∃ W : Nat → Nat → Hp → Prop, (∃ m, W 0 m (upd H1 D (.lst []))) ∧ ∀ i m H, W i m H →
      ((Its x).stop i H ∧ Qd H) ∨ ((Its x).go i H ∧ ∃ Nx : Hp → Prop, (∀ H', Nx H' → ∃ m', m' < m ∧ W (i + 1) m' H') ∧ ∀ v H', (Its x).yld i H v H' → g v (wipe σ vs) H' fun τ H2 => wipe τ vs = wipe σ vs ∧ tt τ H2 fun b H3 =>
        if b = true then te τ H3 fun y H4 => ∃ acc, H4 D = some (.lst acc) ∧ acc.length < sizeLine ∧ Nx (upd H4 D (.lst (acc ++ [y]))) else Nx H3) := by
  have el : x.cps.toList.length = x.cps.size := Array.length_toList
  refine ⟨fun i m H => i + m = x.cps.toList.length ∧ Pv i H, ⟨_, Nat.zero_add _, h0⟩, fun i m H ⟨e, p⟩ => ?_⟩
  cases m with
  | zero =>
    have e2 : i = x.cps.toList.length := e
    exact .inl ⟨(by show x.cps.size ≤ i; omega), hd H (e2 ▸ p)⟩
  | succ m =>
    refine .inr ⟨(by show i < x.cps.size; omega), Pv (i + 1), fun H' p' => ⟨m, Nat.lt_succ_self m, by omega, p'⟩, ?_⟩
    rintro v H' ⟨rfl, c, hc, rfl⟩
    exact hs i c _ (by rw [Array.getElem?_toList]; exact hc) p
theorem yes_of {σ : L2.St} {H : Hp} {Q : Bool → Hp → Prop} (h : Q true H) : tYes σ H Q := h
theorem yes_if {σ : L2.St} {H : Hp} {A B : Hp → Prop} (h : A H) : tYes σ H (fun b H3 => if b = true then A H3 else B H3) := yes_of (iteT (A := A H) (B := B H) h)
/-- the same: one name as the target, no test -/
theorem lc_strY {x : Str} {j : Nat} {te : TE} {vs : List Nat} {σ : L2.St} {H1 : Hp} {D : Addr} {Qd : Hp → Prop} (Pv : Nat → Hp → Prop) (hw : ∀ v, wipe ((wipe σ vs).set j (some v)) vs = wipe σ vs) (h0 : Pv 0 (upd H1 D (.lst [])))
    (hs : ∀ i c H, x.cps.toList[i]? = some c → Pv i H → te ((wipe σ vs).set j (some (.str ⟨#[c]⟩))) H fun y H4 => ∃ acc, H4 D = some (.lst acc) ∧ acc.length < sizeLine ∧ Pv (i + 1) (upd H4 D (.lst (acc ++ [y]))))
    (hd : ∀ H, Pv x.cps.toList.length H → Qd H) : ∃ W : Nat → Nat → Hp → Prop, (∃ m, W 0 m (upd H1 D (.lst []))) ∧ ∀ i m H, W i m H →
      ((Its x).stop i H ∧ Qd H) ∨ ((Its x).go i H ∧ ∃ Nx : Hp → Prop, (∀ H', Nx H' → ∃ m', m' < m ∧ W (i + 1) m' H') ∧ ∀ v H', (Its x).yld i H v H' → gName j v (wipe σ vs) H' fun τ H2 => wipe τ vs = wipe σ vs ∧ tYes τ H2 fun b H3 =>
        if b = true then te τ H3 fun y H4 => ∃ acc, H4 D = some (.lst acc) ∧ acc.length < sizeLine ∧ Nx (upd H4 D (.lst (acc ++ [y]))) else Nx H3) :=
  lc_str Pv h0 (fun i c H e p => ⟨hw _, yes_if (hs i c H e p)⟩) hd
section
variable {P : Program} {w : World} {K : PySem.W.Frag} {mg : Str → Option Value} {base : Heap}
/-- what the top holds that is_name reads -/
structure TI0 (mg : Str → Option Value) : Prop where
  isi : mg "isinstance" = none
  str : mg "str" = none
  len : mg "len" = none
  all : mg "all" = none
  LET : ∃ t, mg "LETTERS" = some (.str lets t)
  SIG : ∃ t, mg "NAME_SIGNS" = some (.str signs t)
  LON : ∃ t, mg "LONGEST_NAME" = some (.int 8 t)
def spIs (K : PySem.W.Frag) : Sp := fun vs H Q _ => ∃ v, vs = [v] ∧
  ((∃ z, v = .str z ∧ z.length ≤ 1000 ∧ ∀ H', Same H H' → Q (.bl (nmS z)) H') ∨ (∃ t, TyX K H v t ∧ PySem.W.kitOne K t (.type "str") = some false ∧ Q (.bl false) H))
theorem ok_is {f : Addr} {fd : FuncData} (F : Fun K "is_name" "is_name" sIs f fd) (T : TI0 mg) : FnOk P w K mg base CX0 1 f fd ["value"] (spIs K) := by
  refine F.ok scIs (fun vs H Q E h => ?_) (fun cv A ou s H vs Q E hr h => ?_)
  · obtain ⟨v, rfl, _⟩ := h
    rfl
  obtain ⟨v, rfl, h⟩ := h
  obtain ⟨t1, mL⟩ := T.LET
  obtain ⟨t2, mS⟩ := T.SIG
  obtain ⟨t3, mN⟩ := T.LON
  refine ⟨_, pss_cons (ps_if (PW.pt (pw_or (pt_not (pt_val (pe_callB call_isi (by rfl) T.isi boot_isinstance (pa_cons (pv 0) (pa_cons (pe_bltn (v := .ty "str") (by rfl) T.str boot_str rfl) pa_nil)))))
        (pw_or1 (pt_not (pt_chain op_le op_le pe_int (pe_callB call_len_str (by rfl) T.len PySem.boot_len (pa_cons (pv 0) pa_nil)) (pe_glob (v := .int 8) (by rfl) mN ⟨_, rfl⟩))))))
      (pss_one (ps_ret pe_bl)) pss_nil)
    (pss_one (ps_ret (pe_and (pe_cmpR op_in_sign (pe_ix ix_str (pv 0) pe_int (fun _ _ => rfl)) (pe_glob (v := .str lets) (by rfl) mL ⟨_, rfl⟩) rfl)
      (pe_one (pe_callB (cr_all rfl) (by rfl) T.all boot_all (pa_cons (pe_lc (own := [("sign", 1)]) (g := gName 1) (tt := tYes) rfl scIs.nd (pi_str (pv 0)) (blkOk_by (own := [("sign", 1)]) (N := ["value", "sign"]) (sc := defScope sIs) (by decide +kernel))
        (fun _ _ _ _ _ => pg_name (i := 1) scIs.nd rfl (Or.inl rfl)) (fun _ _ _ _ _ => pts_nil) (fun _ _ _ _ _ => pe_cmpR op_in_sign (pv 1) (pe_glob (v := .str signs) (by rfl) mS ⟨_, rfl⟩) rfl)) pa_nil)))))), ?_⟩
  rcases h with ⟨z, rfl, hz, q⟩ | ⟨t, ty, ek, q⟩
  · refine ⟨.str z, rfl, .str z, .ty "str", _, _, true, rfl, .ty "str", .base (.str z), kit_ty (by decide +kernel), _, rfl, iteF ?_⟩
    have ez := len_list z
    refine ⟨.str z, rfl, z, rfl, small1000 hz |> Nat.le_of_lt, ?_⟩
    refine ⟨_, _, rfl, rfl, _, rfl, ite2 (fun e1 => ?_) (fun e1 => ?_)⟩
    · have h1 : 1 ≤ z.length := by have := of_decide_eq_true e1; omega
      refine ⟨_, _, rfl, rfl, _, rfl, ite2 (fun e2 => ?_) (fun e2 => ?_)⟩
      · -- longer than eight
        have h2 : ¬ z.length ≤ 8 := fun h => by
          have e3 : decide ((z.length : Int) ≤ 8) = true := decide_eq_true (by omega)
          rw [e3] at e2
          cases e2
        have eq : nmS z = false := nm_long h2
        have q2 := q H fun _ _ e => e
        rw [eq] at q2
        exact q2
      · have h2 : z.length ≤ 8 := by
          by_cases h : z.length ≤ 8
          · exact h
          · refine absurd ?_ e2
            rw [decide_eq_false (show ¬ (z.length : Int) ≤ 8 by omega)]
            rfl
        obtain ⟨c, r, ec⟩ := ne_cons h1
        have en : nmS z = (inL c && z.cps.toList.all inN) := nm_short ec h2
        refine ⟨.str z, rfl, z, 0, c, rfl, rfl, Nat.le_of_lt (small1000 hz), atI_nat (j := 0) (by rw [ec]; rfl), c, lets, rfl, rfl, _, rfl, ite2 (fun e3 => ?_) (fun e3 => ?_)⟩
        · refine ⟨.str z, rfl, z, rfl, fun D nD => lc_strY (x := z) (fun i H2 => Same H H2 ∧ H2 D = some (.lst ((z.cps.toList.take i).map fun c => V.bl (inN c)))) (fun _ => rfl) ⟨same_new nD, upd_same⟩ ?_ ?_⟩
          · rintro i y H2 hi ⟨s2, eD⟩
            refine ⟨_, rfl, y, signs, rfl, rfl, _, eD, ?_, ?_, ?_⟩
            · rw [List.length_map, List.length_take]
              exact small1000 (by omega)
            · intro b o e
              rw [upd_ne (ne_of_none e nD)]
              exact s2 b o e
            · rw [upd_same, List.take_add_one, hi]
              simp [inN]
          · rintro H2 ⟨s2, eD⟩
            rw [List.take_length] at eD
            refine ⟨D, z.cps.toList.map inN, rfl, SqL.of (by rw [eD, List.map_map]; rfl), ?_⟩
            have q2 := q H2 s2
            rw [en] at q2
            have : (inL c && z.cps.toList.all inN) = (z.cps.toList.map inN).all id := by
              rw [show inL c = true from e3, Bool.true_and, List.all_map]
              rfl
            rw [this] at q2
            exact q2
        · have q2 := q H fun _ _ e => e
          rw [en, show inL c = false from Bool.eq_false_iff.mpr e3, Bool.false_and] at q2
          exact q2
    · have h1 : z.length = 0 := by
        by_cases h : z.length = 0
        · exact h
        · exact absurd (decide_eq_true (by omega)) e1
      have eq : nmS z = false := nm_empty h1
      have q2 := q H fun _ _ e => e
      rw [eq] at q2
      exact ⟨_, rfl, iteT q2⟩
  · refine ⟨v, rfl, v, .ty "str", t, .type "str", false, rfl, .ty "str", ty, ek, _, rfl, iteT (iteT q)⟩
end
end Kx
/-! names: k02 _law_word -/
set_option Elab.async false
set_option linter.all false
set_option maxRecDepth 100000
set_option maxHeartbeats 4000000
namespace Kx
open PySem PySem.Spec PyProof.Rows L2 Gd
abbrev sWord : Stmt := topS 30
theorem scWord : FnScope ["_law_deal_here", "_law_taken", "_law_letters", "_law_way", "_law_word_here", "_law_k", "_law_tail"] ["_law_deal_here", "_law_taken"] (defScope sWord) := ⟨rfl, rfl, rfl, by decide +kernel, rfl, by decide +kernel, by decide +kernel⟩
/-! ### names -/
theorem str_app (x y : Str) : (x ++ y).cps.toList = x.cps.toList ++ y.cps.toList := by rw [PySem.Str.cps_append, Array.toList_append]
theorem nm_of {z : Str} {c : Nat} {r : List Nat} (e : z.cps.toList = c :: r) (hc : inL c = true) (hr : ∀ d ∈ r, inN d = true) (hl : r.length ≤ 7) : nmS z = true := by
  unfold nmS
  rw [e, nmL_cons, hc, List.all_cons, inN_eq c, hc, Bool.true_or, List.all_eq_true.mpr hr, decide_eq_true (by rw [List.length_cons]; omega)]
  rfl
theorem nm_len {z : Str} (h : nmS z = true) : 1 ≤ z.length ∧ z.length ≤ 8 := by
  refine ⟨?_, ?_⟩
  · by_cases h0 : z.length = 0
    · rw [nm_empty h0] at h
      cases h
    · omega
  · by_cases h8 : z.length ≤ 8
    · exact h8
    · rw [nm_long h8] at h
      cases h
def wk (k : Nat) : Str := Str.ofString "w" ++ ((toString (k : Int) : String) : Str)
theorem wk_nm : ∀ k : _root_.Fin 50, nmS (wk k.1) = true := by decide +kernel
theorem wk_len : ∀ k : _root_.Fin 50, (wk k.1).length ≤ 3 ∧ ((toString ((k.1 : Nat) : Int) : String) : Str).length ≤ 3 := by decide +kernel
theorem wk_nd : ((List.range 50).map wk).Nodup := by decide +kernel
theorem nd_le : ∀ (l ts : List Str), l.Nodup → (∀ x ∈ l, x ∈ ts) → l.length ≤ ts.length
  | [], _, _, _ => Nat.zero_le _
  | x :: r, ts, nd, h => by
    have hx : x ∈ ts := h x (List.mem_cons_self ..)
    have nd2 := List.nodup_cons.mp nd
    have := nd_le r (ts.erase x) nd2.2 fun y hy => (List.mem_erase_of_ne (fun e => nd2.1 (by rw [← e]; exact hy))).mpr (h y (List.mem_cons_of_mem _ hy))
    rw [List.length_erase_of_mem hx] at this
    have p : 0 < ts.length := List.length_pos_of_mem hx
    rw [List.length_cons]
    omega
theorem wk_new {ts : List Str} (hl : ts.length ≤ 40) (h : ∀ j, j < ts.length → wk j ∈ ts) : wk ts.length ∉ ts := by
  intro hm
  have nd : ((List.range (ts.length + 1)).map wk).Nodup := by
    have e : (List.range 50).map wk = (List.range (ts.length + 1)).map wk ++ ((List.range' (ts.length + 1) (49 - ts.length)).map wk) := by
      rw [← List.map_append]
      congr 1
      have : (50 : Nat) = (ts.length + 1) + (49 - ts.length) := by omega
      rw [this, List.range_eq_range', List.range_eq_range', ← List.range'_append_1]
      simp
    have n := wk_nd
    rw [e] at n
    exact (List.nodup_append.mp n).1
  have := nd_le _ ts nd fun x hx => by
    obtain ⟨j, hj, rfl⟩ := List.mem_map.mp hx
    have hj := List.mem_range.mp hj
    by_cases e : j = ts.length
    · rw [e]; exact hm
    · exact h j (by omega)
  rw [List.length_map, List.length_range] at this
  omega
theorem inV_str (z : Str) (ts : List Str) : inV (.str z) (ts.map V.str) = decide (z ∈ ts) := by
  unfold inV
  rw [List.any_map]
  induction ts with
  | nil => rfl
  | cons t r ih =>
    rw [List.any_cons, ih]
    by_cases e : t = z
    · subst e
      simp [eqV]
    · have : ¬ z = t := fun q => e q.symm
      simp [eqV, e, this]
theorem all_flat (ts : List Str) : (ts.map V.str).all flatV = true := by
  rw [List.all_map, List.all_eq_true]
  intro x _
  rfl
def words7 : List Str := [Str.ofString "kind", Str.ofString "make", Str.ofString "a", Str.ofString "b", Str.ofString "ab", Str.ofString "one", Str.ofString "x0"]
theorem words7_nm : ∀ z ∈ words7, nmS z = true := by decide +kernel
theorem sign_L : ∀ d : _root_.Fin 26, ∃ c, signs.cps.toList[d.1]? = some c ∧ inL c = true := by decide +kernel
theorem sign_N {d : Nat} (h : d < 36) : ∃ c, signs.cps.toList[d]? = some c ∧ inN c = true := by
  have hl : d < signs.cps.toList.length := by
    rw [show signs.cps.toList.length = 36 by decide +kernel]
    exact h
  exact ⟨_, List.getElem?_eq_getElem hl, decide_eq_true (List.getElem_mem hl)⟩
theorem join_signs : ∀ cs : List Nat, (Txt.join (Str.ofString "") (cs.map fun c => (⟨#[c]⟩ : Str))).cps.toList = cs := by
  intro cs
  rw [TL.join_eq]
  induction cs with
  | nil => rfl
  | cons c r ih =>
    cases r with
    | nil => rfl
    | cons d r =>
      show (((⟨#[c]⟩ : Str) ++ Str.ofString "") ++ Str.join (Str.ofString "") (((d :: r).map fun c => (⟨#[c]⟩ : Str)))).cps.toList = _
      rw [str_app, ih]
      rfl
theorem ones_sum : ∀ cs : List Nat, ((cs.map fun c => (⟨#[c]⟩ : Str)).map (·.length)).sum = cs.length
  | [] => rfl
  | c :: r => by
    rw [List.map_cons, List.map_cons, List.sum_cons, ones_sum r]
    show 1 + r.length = r.length + 1
    omega
end Kx
set_option Elab.async false
set_option linter.all false
set_option maxRecDepth 100000
set_option maxHeartbeats 4000000
namespace Kx
open PySem PySem.Spec PyProof.Rows L2 Gd
/-- a comprehension over a range: one name as the target, no test -/
theorem lc_rangeY {n j : Nat} {te : TE} {vs : List Nat} {σ : L2.St} {H1 : Hp} {D : Addr} {Qd : Hp → Prop} (Pv : Nat → Hp → Prop) (hw : ∀ v, wipe ((wipe σ vs).set j (some v)) vs = wipe σ vs) (h0 : Pv 0 (upd H1 D (.lst [])))
    (hs : ∀ i H, i < n → Pv i H → te ((wipe σ vs).set j (some (.int (0 + (i : Int))))) H fun y H4 => ∃ acc, H4 D = some (.lst acc) ∧ acc.length < sizeLine ∧ Pv (i + 1) (upd H4 D (.lst (acc ++ [y]))))
    (hd : ∀ H, Pv n H → Qd H) : ∃ W : Nat → Nat → Hp → Prop, (∃ m, W 0 m (upd H1 D (.lst []))) ∧ ∀ i m H, W i m H →
      ((Itr 0 n).stop i H ∧ Qd H) ∨ ((Itr 0 n).go i H ∧ ∃ Nx : Hp → Prop, (∀ H', Nx H' → ∃ m', m' < m ∧ W (i + 1) m' H') ∧ ∀ v H', (Itr 0 n).yld i H v H' → gName j v (wipe σ vs) H' fun τ H2 => wipe τ vs = wipe σ vs ∧ tYes τ H2 fun b H3 =>
        if b = true then te τ H3 fun y H4 => ∃ acc, H4 D = some (.lst acc) ∧ acc.length < sizeLine ∧ Nx (upd H4 D (.lst (acc ++ [y]))) else Nx H3) :=
  lc_range Pv h0 (fun i H e p => ⟨hw _, yes_if (hs i H e p)⟩) hd
/-- what follows a statement, shown once -/
theorem seq_join {t u : TS} {D : Ends} {σ : L2.St} {H : Hp} (R : L2.St → Hp → Prop) (hR : ∀ σ H, R σ H → u D σ H) (h : (∀ σ H, R σ H → u D σ H) → t { D with nx := u D } σ H) : tSeq t u D σ H := h hR
section
variable {P : Program} {w : World} {K : PySem.W.Frag} {mg : Str → Option Value} {base : Heap}
structure TW0 (mg : Str → Option Value) : Prop where
  len : mg "len" = none
  str : mg "str" = none
  range : mg "range" = none
def spWord : Sp := fun vs H Q _ => ∃ (p q : Addr) (ts : List Str), vs = [.ref p, .ref q] ∧ DealAt H p ∧ H q = some (.lst (ts.map V.str)) ∧ q ≠ p ∧ ts.length ≤ 40 ∧
  ∀ (z : Str) (H' : Hp), nmS z = true → z ∉ ts → DealAt H' p → Sb p H H' → Q (.str z) H'
theorem ok_word {f fp : Addr} {fd fdp : FuncData} (F : Fun K "_law_word" "_law_word" sWord f fd) (T : TW0 mg) (GP : FnOk P w K mg base CX0 1 fp fdp ["_law_deal_here", "_law_many"] spPick) (kp : PySem.W.keepIn K (.ref fp) = true)
    (bP : Binds K fdp ["_law_deal_here", "_law_many"] []) (gP : mg "_law_pick" = some (.ref fp)) : FnOk P w K mg base CX0 2 f fd ["_law_deal_here", "_law_taken"] spWord := by
  refine F.ok scWord (fun vs H Q E h => ?_) (fun cv A ou s H vs Q E hr h => ?_)
  · obtain ⟨p, q, ts, rfl, _⟩ := h
    rfl
  obtain ⟨p, q, ts, rfl, hD, hq, nqp, hl, k⟩ := h
  refine ⟨_, pss_cons (ps_set (i := 2) scWord.nd rfl (.inr rfl) pe_str)
    (pss_cons (ps_par (i := 3) (j := 4) (by rfl) scWord.nd rfl rfl (by decide) rfl rfl
      (pa_cons (pe_call GP hr (by rfl) gP kp bP .nil pass0 (pa_cons (pv 0) (pa_cons pe_int pa_nil)))
      (pa_cons (pe_ix ix_list (pe_lst (pa_cons pe_str (pa_cons pe_str (pa_cons pe_str (pa_cons pe_str (pa_cons pe_str (pa_cons pe_str (pa_cons pe_str pa_nil))))))))
        (pe_call GP hr (by rfl) gP kp bP .nil pass0 (pa_cons (pv 0) (pa_cons pe_int pa_nil))) (fun _ _ => rfl)) pa_nil)) (by rfl))
    (pss_cons (ps_if (pt_cmpR op_gt (pv 3) pe_int (nomark _))
      (pss_cons (ps_setLc (i := 6) (own := [("_law_k", 5)]) (g := gName 5) (tt := tYes) (by rfl) scWord.nd rfl rfl (sw_true rfl rfl rfl (by decide +kernel))
          (pi_range1 rfl T.range (pa_cons (pe_ix ix_list (pe_lst (pa_cons pe_int (pa_cons pe_int (pa_cons pe_int pa_nil)))) (pe_op op_sub (pv 3) pe_int) (fun _ _ => rfl)) pa_nil))
          (blkOk_by (own := [("_law_k", 5)]) (N := ["_law_deal_here", "_law_taken", "_law_letters", "_law_way", "_law_word_here", "_law_k", "_law_tail"]) (sc := defScope sWord) (by decide +kernel))
          (fun _ _ _ _ _ => pg_name (i := 5) scWord.nd rfl (Or.inl rfl)) (fun _ _ _ _ _ => pts_nil)
          (fun _ _ _ _ _ => pe_ix ix_str (pv 2) (pe_call GP hr (by rfl) gP kp bP .nil pass0 (pa_cons (pv 0) (pa_cons pe_int pa_nil))) (fun _ _ => rfl)))
      (pss_one (ps_set (i := 4) scWord.nd rfl (.inl rfl) (pe_op op_add_str (pe_ix ix_str (pv 2) (pe_call GP hr (by rfl) gP kp bP .nil pass0 (pa_cons (pv 0) (pa_cons pe_int pa_nil))) (fun _ _ => rfl)) (pe_join pe_str (pv 6)))))) pss_nil)
    (pss_cons (ps_for PassesOwn.never rfl (pi_range1 rfl T.range (pa_cons (pe_op op_add (pe_callB call_len_seq (by rfl) T.len PySem.boot_len (pa_cons (pv 1) pa_nil)) pe_int) pa_nil)) (pg_name (i := 5) scWord.nd rfl (.inl rfl))
      (pss_cons (ps_if (pt_cmpR op_notIn_seq (pv 4) (pv 1) (by rfl)) (pss_one (ps_ret (pv 4))) pss_nil)
      (pss_one (ps_set (i := 4) scWord.nd rfl (.inl rfl) (pe_op op_add_str pe_str (pe_callTy call_str_int (by rfl) T.str boot_str (pa_cons (pv 5) pa_nil)))))))
    (pss_one (ps_ret (pv 4)))))), ?_⟩
  refine ⟨.ref p, rfl, p, 4, rfl, hD, by decide, by decide, fun d1 H1 l1 u1 D1 b1 => ?_⟩
  have q1 : H1 q = some (.lst (ts.map V.str)) := b1 q _ nqp hq
  refine ⟨(by show 7 ≤ sizeLine; decide), fun L nL => ?_⟩
  have nLp : L ≠ p := by
    obtain ⟨_, _, _, e, _⟩ := D1
    exact fun e2 => by rw [e2, e] at nL; cases nL
  have s1 : Same H1 (upd H1 L (.lst [V.str "kind", .str "make", .str "a", .str "b", .str "ab", .str "one", .str "x0"])) := same_new nL
  refine ⟨.ref p, rfl, p, 7, rfl, D1.keep s1, by decide, by decide, fun d2 H2 l2 u2 D2 b2 => ?_⟩
  have L2 : H2 L = some (.lst [V.str "kind", .str "make", .str "a", .str "b", .str "ab", .str "one", .str "x0"]) := b2 L _ nLp upd_same
  have q2 : H2 q = some (.lst (ts.map V.str)) := b2 q _ nqp (s1 q _ q1)
  have B2 : Sb p H H2 := b1.trans ((Sb.of s1).trans b2)
  obtain ⟨z0, e0, h0⟩ : ∃ z, ([V.str "kind", .str "make", .str "a", .str "b", .str "ab", .str "one", .str "x0"])[d2.toNat]? = some (V.str z) ∧ nmS z = true := by
    have hd : d2.toNat < words7.length := by show d2.toNat < 7; omega
    refine ⟨words7[d2.toNat], ?_, words7_nm _ (List.getElem_mem hd)⟩
    show (words7.map V.str)[d2.toNat]? = _
    rw [List.getElem?_map, List.getElem?_eq_getElem hd]
    rfl
  refine ⟨L, _, d2, .str z0, rfl, rfl, SqL.of L2, at_of (j := d2.toNat) (by omega) e0, V.int d1, .str z0, rfl, ?_⟩
  dsimp only
  refine seq_join (fun σ H3 => ∃ (z : Str) (o5 o6 : Option V), σ = [some (.ref p), some (.ref q), some (.str signs), some (.int d1), some (.str z), o5, o6] ∧ nmS z = true ∧ DealAt H3 p ∧ Sb p H H3) ?_ fun rest => ?_
  · rintro σ H3 ⟨z, o5, o6, rfl, hz, D3, B3⟩
    have q3 := B3 q _ nqp hq
    refine ⟨.ref q, rfl, q, ts.map V.str, rfl, .inl (SqL.of q3), _, _, rfl, rfl, _, rfl, ?_, ?_, ?_⟩
    · rw [List.length_map]; omega
    · rw [List.length_map]; omega
    have en : (((ts.map V.str).length : Int) + 1).toNat = ts.length + 1 := by rw [List.length_map]; omega
    rw [en]
    refine for_range (n := ts.length + 1) (fun i σ H' => ∃ (z : Str) (o5 : Option V), σ = [some (.ref p), some (.ref q), some (.str signs), some (.int d1), some (.str z), o5, o6] ∧ nmS z = true ∧ H' = H3 ∧ (i = 0 ∨ z = wk (i - 1)) ∧ ∀ j, j + 1 < i → wk j ∈ ts)
      ⟨z, o5, rfl, hz, rfl, .inl rfl, fun j h => by omega⟩ ?_ ?_
    · rintro i σ H' hi ⟨z, o5, rfl, hz, rfl, hw, hj⟩
      refine ⟨.str z, rfl, .ref q, rfl, q, ts.map V.str, rfl, .inl (SqL.of q3), rfl, all_flat ts, _, rfl, ?_⟩
      rw [inV_str]
      by_cases hm : z ∈ ts
      · rw [decide_eq_true hm]
        have hi2 : i < 50 := by omega
        have n3 : (Str.ofString (toString (i : Int))).length ≤ 3 := (wk_len ⟨i, hi2⟩).2
        refine iteF ⟨_, rfl, _, rfl, ?_, _, _, rfl, rfl, ?_, wk i, some (.int (0 + (i : Int))), ?_, wk_nm ⟨i, hi2⟩, rfl, .inr rfl, fun j h => ?_⟩
        · have : ((0 : Int) + i).natAbs = i := by omega
          rw [this]
          exact Nat.lt_of_le_of_lt (Nat.log2_le_self i) (by omega)
        · rw [Int.zero_add]
          exact Nat.le_of_lt (small1000 (by show 1 + _ ≤ 1000; omega))
        · rw [Int.zero_add]
          rfl
        · by_cases e : j + 1 < i
          · exact hj j e
          · have e2 : j = i - 1 := by omega
            subst e2
            rcases hw with h0 | hw
            · omega
            · rw [← hw]; exact hm
      · rw [decide_eq_false hm]
        exact iteT ⟨.str z, rfl, k z _ hz hm D3 B3⟩
    · rintro σ H' ⟨z, o5, rfl, hz, rfl, hw, hj⟩
      have ez : z = wk ts.length := by
        rcases hw with h | h
        · omega
        · exact h
      subst ez
      exact ⟨_, rfl, k _ _ hz (wk_new hl fun j h => hj j (by omega)) D3 B3⟩
  refine ⟨_, rfl, _, _, rfl, rfl, _, rfl, ite2 (fun e => ?_) (fun e => ?_)⟩
  · have hd1 : 0 < d1 := of_decide_eq_true e
    -- the range's length
    refine ⟨(by show 3 ≤ sizeLine; decide), fun M nM => ?_⟩
    have nMp : M ≠ p := by
      obtain ⟨_, _, _, e, _⟩ := D2
      exact fun e2 => by rw [e2, e] at nM; cases nM
    have s3 : Same H2 (upd H2 M (.lst [V.int 1, .int 2, .int 7])) := same_new nM
    obtain ⟨n, en, hn⟩ : ∃ n : Nat, ([V.int 1, .int 2, .int 7])[(d1 - 1).toNat]? = some (V.int n) ∧ n ≤ 7 := by
      have : d1 = 1 ∨ d1 = 2 ∨ d1 = 3 := by omega
      rcases this with rfl | rfl | rfl
      · exact ⟨1, rfl, by omega⟩
      · exact ⟨2, rfl, by omega⟩
      · exact ⟨7, rfl, by omega⟩
    refine ⟨.int d1, rfl, _, _, rfl, rfl, M, _, d1 - 1, .int n, rfl, rfl, SqL.of upd_same, at_of (j := (d1 - 1).toNat) (by omega) en, _, rfl, by omega, by omega, fun D nD => ?_⟩
    have nDp : D ≠ p := by
      obtain ⟨_, _, _, e, _⟩ := D2
      exact fun e2 => by rw [e2, s3 _ _ e] at nD; cases nD
    have B3 : Sb p H (upd (upd H2 M (.lst [V.int 1, .int 2, .int 7])) D (.lst [])) := B2.trans ((Sb.of s3).trans (.new nD))
    refine lc_rangeY (n := n) (fun i H4 => ∃ cs : List Nat, DealAt H4 p ∧ Sb p H H4 ∧ H4 D = some (.lst ((cs.map fun c => (⟨#[c]⟩ : Str)).map V.str)) ∧ cs.length = i ∧ ∀ c ∈ cs, inN c = true) (fun _ => rfl)
      ⟨[], (D2.keep s3).keep (same_new nD), B3, upd_same, rfl, fun c h => by cases h⟩ ?_ ?_
    · rintro i H4 hi ⟨cs, D4, B4, e4, l4, n4⟩
      refine ⟨.str signs, rfl, .ref p, rfl, p, 36, rfl, D4, by decide, by decide, fun d5 H5 l5 u5 D5 b5 => ?_⟩
      obtain ⟨c, ec, nc⟩ := sign_N (d := d5.toNat) (by omega)
      have e5 := b5 D _ nDp e4
      refine ⟨signs, d5, c, rfl, rfl, by decide +kernel, by rw [show d5 = ((d5.toNat : Nat) : Int) by omega]; exact atI_nat ec, _, e5, ?_, cs ++ [c], ?_, ?_, ?_, ?_, ?_⟩
      · rw [List.length_map, List.length_map]
        exact small1000 (by omega)
      · obtain ⟨x, y, u, e, l⟩ := D5
        exact ⟨x, y, u, by rw [upd_ne nDp.symm]; exact e, l⟩
      · intro b o n e
        by_cases eb : b = D
        · subst eb
          exact absurd (B2.trans (Sb.of s3) b o n e) (by rw [nD]; simp)
        · rw [upd_ne eb]
          exact b5 b o n (B4 b o n e)
      · rw [upd_same, List.map_append, List.map_append]
        rfl
      · rw [List.length_append, l4]
        rfl
      · intro x hx
        rcases List.mem_append.mp hx with h | h
        · exact n4 x h
        · rw [List.mem_singleton.mp h]; exact nc
    · rintro H4 ⟨cs, D4, B4, e4, l4, n4⟩
      refine ⟨.str signs, rfl, .ref p, rfl, p, 26, rfl, D4, by decide, by decide, fun d5 H5 l5 u5 D5 b5 => ?_⟩
      obtain ⟨c, ec, nc⟩ := sign_L ⟨d5.toNat, by omega⟩
      have e5 := b5 D _ nDp e4
      refine ⟨signs, d5, c, rfl, rfl, by decide +kernel, by rw [show d5 = ((d5.toNat : Nat) : Int) by omega]; exact atI_nat ec, ⟨_, rfl⟩, .ref D, rfl, _, D, _, rfl, rfl, .inl (SqL.of e5), ?_, _, _, rfl, rfl, ?_, ?_⟩
      · rw [ones_sum, List.length_map]
        show cs.length + cs.length * 0 ≤ 16777216
        omega
      · have := len_list (Txt.join (Str.ofString "") (cs.map fun c => (⟨#[c]⟩ : Str)))
        rw [join_signs] at this
        rw [← this]
        exact Nat.le_of_lt (small1000 (by show 1 + _ ≤ 1000; omega))
      · refine rest _ _ ⟨_, _, _, rfl, nm_of (c := c) (r := cs) ?_ nc n4 (by omega), D5, B4.trans b5⟩
        rw [str_app, join_signs]
        rfl
  · exact rest _ _ ⟨z0, none, none, rfl, h0, D2, B2⟩
end
end Kx
set_option Elab.async false
set_option linter.all false
set_option maxRecDepth 100000
set_option maxHeartbeats 4000000
/-! Exceptions of own classes as values: made (by place and by name), their fields read, their classes asked. -/
namespace Gd
open PySem PySem.Spec PyProof.Rows L2
open PySem.W (excInitIn excOver excTail)

/-- what is asked of an exception class of one's own over the built-in class B -/
structure XC (K : PySem.W.Frag) (C : Addr) : Prop where
  base : ∃ (B nid iid : String) (tl : List Value), ExcBaseFacts B nid iid tl ∧ StoreFacts B tl "object.__setattr__" "object" ∧ excInitIn K C tl nid = true ∧ excOver K C tl = true
  hd : PySem.W.hasDictIn K C = true
  sa : PySem.W.findIn K (.ref C) "__setattr__" = some (some (.builtin "object.__setattr__"))
  ga : PySem.W.findIn K (.ref C) "__getattribute__" = some (some (.builtin "BaseException.__getattribute__"))
  gg : PySem.W.findIn K (.ref C) "__getattr__" = some none
  sB : PySem.W.subIn K (.ref C) (.type "BaseException") = some true
  ca : PySem.W.findIn K (.ref C) "__class__" = some (some (.builtin "object.__class__"))
  cn : PySem.W.specialIn K (.builtin "object.__class__") "__get__" = some (some (.builtin "getset_descriptor.__get__"))
  ct : PySem.W.takesIn K (.builtin "object.__class__") = some true
  mo : PySem.W.mroIn K C (.type "object") = some true
  kp : PySem.W.keepIn K (.ref C) = true
/-- its instance at a, with these fields -/
def ErrAt (H : Hp) (a C : Addr) (fs : List (Str × V)) : Prop := ∃ d, H a = some (exo a C (some d)) ∧ H d = some (exd d fs)
theorem ErrAt.keep {H H' : Hp} {a C : Addr} {fs : List (Str × V)} (h : ErrAt H a C fs) (s : Same H H') : ErrAt H' a C fs := by
  obtain ⟨d, h1, h2⟩ := h
  exact ⟨d, s _ _ h1, s _ _ h2⟩

/-! ### the first store of a field, a further one -/
section
variable {prog : Program} {w : World} {A : Around} {E : Value → Shared → Prop} {R : Result → Shared → Prop} {hp : Heap} {g : Array GenState} {d : Drawn} {t : Nat} {os : OsState}
theorem store_first {K : PySem.W.Frag} {name : Str} {tk : Tok} {v : Value} {x C t1 : Addr} {B : String} {tl : List Value} (SF : StoreFacts B tl "object.__setattr__" "object") (X : K.In hp)
    (hx : hp.get? x = some { cls := .ref C, data := .fields #[.ref t1, .none, .none, .none, .bool false, .none] }) (ho : excOver K C tl = true) (hd : PySem.W.hasDictIn K C = true) (ht : PySem.W.takerIn K C name = some none)
    (hq : ∀ h' tk' dx, (∀ b o, b ≠ x → hp.get? b = some o → h'.get? b = some o) → hp.objs.size ≤ dx → dx ≠ x → h'.get? x = some { cls := .ref C, dict := some dx, data := .fields #[.ref t1, .none, .none, .none, .bool false, .none] } →
      h'.Ns1 dx (fun y => if y = name then some v else none) → R (.ok (.ret .none)) ⟨h', g, d, tk', os⟩) :
    codeAny (model prog w) A (.call (.builtin "object.__setattr__") ⟨[.ref x, .str name tk, v], []⟩) R ⟨hp, g, d, t, os⟩ := by
  refine PySem.W.osa_openX (od := none) SF X ⟨hx, rfl, rfl, trivial⟩ ho ht fun b => ?_
  obtain ⟨cd, hc, hd'⟩ := PySem.W.any_some hd
  have hxs : x ≠ hp.objs.size := Nat.ne_of_lt (Heap.lt_size hx)
  refine wpAny_bind (wpAny_pure (wpAny_bind (PySem.W.instanceDict_exc (c2 := .none) hx (PySem.W.looks_clsIn X hc) hd' ?_)))
  show wpAny _ _ (Builtin.ObjectAttr.storeInDict hp.objs.size (.str name tk) name v) _ _ _
  refine HandSPX.store_in_new ?_ ?_
  · exact ⟨_, #[], _, (Heap.get?_update_ne _ _ _ _ hxs.symm).trans (Heap.get?_push_at rfl rfl), rfl, fun e he => absurd he (by simp), fun _ => rfl⟩
  · intro h' tk' hn' hs
    have hx2 : (hp.push (PySem.W.dictOf [] 0)).get? x = some { cls := .ref C, data := .fields #[.ref t1, .none, .none, .none, .bool false, .none] } := Heap.get?_push_of_some _ hx
    refine hq h' tk' hp.objs.size (fun b o hb q => ?_) (Nat.le_refl _) hxs.symm ?_ hn'
    · exact (hs.2 b (Nat.ne_of_lt (Heap.lt_size q))).trans ((Heap.get?_update_ne _ _ _ _ hb).trans (Heap.get?_push_of_some _ q))
    · exact (hs.2 x hxs).trans (Heap.get?_update_self _ hx2 rfl)
end

section
variable {X : Cx} {pins : List (Addr × Obj)} {σ : L2.St} {H : Hp} {s : Shared} {a C dx : Addr} {f : Str} {y : V} {u : Value} {fs : List (Str × V)} {Q : Unit → Shared → Prop} {E : Value → Shared → Prop} {A : Around}
/-- self.f = y on an exception without a dict -/
theorem est_first (T : XC X.K C) (I : Inv X pins σ H s) (e : H a = some (exo a C none)) (ht : PySem.W.takerIn X.K C f = some none) (ry : RelV y u)
    (h : ∀ dx s', H dx = none → dx ≠ a → Inv X pins σ (upd (upd H dx (exd dx [(f, y)])) a (exo a C (some dx))) s' → Q () s') : wpAny (model X.prog X.w) A (setAttr (.ref a) f u) Q E s := by
  obtain ⟨B, nid, iid, tl, FB, SF, hin, hov⟩ := T.base
  obtain ⟨t1, ho⟩ := exo_at I.hok e
  obtain ⟨hp, g, d, t, os⟩ := s
  refine PySem.W.set_plain I.kIn (ox := { cls := .ref C, dict := none, data := .fields #[.ref t1, .none, .none, .none, .bool false, .none] }) (od := none) ⟨ho, rfl, rfl, trivial⟩ T.sa ?_
  refine store_first SF I.kIn ho hov T.hd ht fun h' tk' dx k dn dne hx hn => ?_
  have n1 : H dx = none := I.hok.fresh dn
  have old : ∀ {b : Addr} {o : Obj}, hp.get? b = some o → b ≠ dx := by
    intro b o q z
    have := Heap.lt_size q
    rw [z] at this
    exact absurd dn (Nat.not_le.mpr this)
  have offA : ∀ {b : Addr}, H b = none → b ≠ a := by
    intro b n z
    rw [z, e] at n
    cases n
  have onA : ∀ {b : Addr} {o : HO}, H b = some o → o ≠ exo a C none → b ≠ a := by
    intro b o q n z
    rw [z, e] at q
    exact n (Option.some.inj q).symm
  have un : Un X.fs [] H (upd (upd H dx (exd dx [(f, y)])) a (exo a C (some dx))) hp h' := by
    constructor
    · intro b o q n _ _
      exact k b o (offA n) q
    · intro b o q n _ _
      exact ⟨o.slots, k b o (offA n) q⟩
    · intro b o q n _
      rw [upd_ne (offA n), upd_ne (old q)]
      exact n
    · intro b o q _
      by_cases hb : b = a
      · subst hb
        exact ⟨_, hx⟩
      · exact ⟨o, k b o hb q⟩
    · intro b xs q
      rw [upd_ne (onA q (fun z => exo_tup z.symm)), upd_ne (ne_of_none q n1)]
      exact q
    · intro b o v q
      rw [upd_ne (onA q (fun z => exo_frz z.symm)), upd_ne (ne_of_none q n1)]
      exact q
    · intro b ps q
      refine ⟨#[], ?_⟩
      rw [upd_ne (onA q (fun z => exo_tbl z.symm)), upd_ne (ne_of_none q n1), q]
      simp
  refine h dx _ n1 dne (I.un (t' := tk') un fun b o q => ?_)
  by_cases hb : b = a
  · subst hb
    rw [upd_same] at q
    cases q
    exact exo_ok hx
  rw [upd_ne hb] at q
  by_cases hd : b = dx
  · subst hd
    rw [upd_same] at q
    cases q
    exact exd_ok hn (relO_put (fs := []) ry fun g => True.intro)
  rw [upd_ne hd] at q
  refine (I.hok b o q).stay (fun c v hc z => k c v ?_ z) (fun c hc => ?_) fun c xs hc => ?_
  · rcases hc with hc | hc
    · rw [hc]
      exact hb
    · exact onA hc (fun z => exo_own z.symm)
  · rw [upd_ne (onA hc (fun z => exo_own z.symm)), upd_ne (ne_of_none hc n1)]
    exact hc
  · rw [upd_ne (onA hc (fun z => exo_tup z.symm)), upd_ne (ne_of_none hc n1)]
    exact hc
end
end Gd
set_option Elab.async false
set_option linter.all false
set_option maxRecDepth 100000
set_option maxHeartbeats 4000000
namespace PySem
namespace Gk
open PySem.W PySem.Calls PyProof.Rows PySem.HandSPX
open Builtin Builtin.ObjectAttr
section
variable {M : Model} {A : Around} {E : Value → Shared → Prop} {h : Heap} {g : Array GenState} {d : Drawn} {t : Nat} {os : OsState}
variable {nm q : Str} {C N : Addr} {bs bm bmB : List Value} {hdct : Bool} {sn : List Str} {sub : List Value} {ab : Bool} {col : Option Bool} {dd : Option Addr} {k0 k1 k2 k3 k5 : Option Value} {B newId initId : String}
theorem check_kw (F : ExcBaseFacts B newId initId bmB) (hT : ∀ X : String, bm.contains (.type X) = bmB.contains (.type X)) {rest : List Value} {kw : List (Str × Value)} {Q : Unit → Shared → Prop}
    (hC : h.get? C = some (excClassObj nm q C N bs bm hdct sn sub ab col dd k0 k1 k2 k3 k5 newId)) (hq : Q () ⟨h, g, d, t, os⟩) : wpAny M A (checkBuiltinCall newId ⟨.ref C :: rest, kw⟩) Q E ⟨h, g, d, t, os⟩ := by
  have c1 : (Value.ref C :: bm).contains (.type B) = true := by rw [List.contains_cons, hT, F.hasB, Bool.or_true]
  have c2 := F.noStar
  simp only [checkBuiltinCall, F.newKind, F.newSplit, F.newRow]
  repeat (first | refine wpAny_loadPart_at hC ?_ | (refine wpAny_isSubtype_exc hC ?_; rw [c1]) | refine wpAny_staticBase_exc hC ?_ | refine wpAny_madeBy_exc hC ?_ | simp only [bne_self_eq_false, Bool.false_eq_true, if_false] | wp_step)
  exact hq
end
section
variable {prog : Program} {w : World} {A : Around} {E : Value → Shared → Prop} {R : Result → Shared → Prop} {h : Heap} {g : Array GenState} {d : Drawn} {t : Nat} {os : OsState}
variable {nm q : Str} {C N : Addr} {bs bm bmB : List Value} {hdct : Bool} {sn : List Str} {sub : List Value} {ab : Bool} {col : Option Bool} {dd : Option Addr} {k0 k1 k2 k3 k5 : Option Value} {B newId initId : String}
theorem new_kw (F : ExcBaseFacts B newId initId bmB) (hT : ∀ X : String, bm.contains (.type X) = bmB.contains (.type X)) {rest : List Value} {kw : List (Str × Value)}
    (hC : h.get? C = some (excClassObj nm q C N bs bm hdct sn sub ab col dd k0 k1 k2 k3 k5 newId))
    (hq : R (.ok (.ret (.ref (h.objs.size + 1)))) ⟨(h.push (PySem.W.kdv_tup rest)).push (excO C h.objs.size), g, d, t, os⟩) (hrest : rest.length ≤ sizeLine) :
    codeAny (model prog w) A (.builtin newId ⟨.ref C :: rest, kw⟩) R ⟨h, g, d, t, os⟩ := by
  have e0 := F.ends
  have c1 : (Value.ref C :: bm).contains (.type B) = true := by rw [List.contains_cons, hT, F.hasB, Bool.or_true]
  have c2 : (Value.ref C :: bm).contains (.type "AttributeError") = false := by rw [List.contains_cons, hT, F.noAttr]; rfl
  have c3 : (Value.ref C :: bm).contains (.type "NameError") = false := by rw [List.contains_cons, hT, F.noName]; rfl
  refine codeAny_builtinAt F.entry ?_
  unfold Builtin.«BaseException.__new__»
  refine wpAt_bind ?_
  show wpAt _ _ _ (stack >>= _) _ _ _
  refine wpAt_bind (wpAt_stack fun p below => wpAt_of_wpAny ?_)
  wp_walk
  refine wpAt_of_wpAny ?_
  rw [F.owner]
  repeat (first | with_reducible refine wpAny_madeHere_exc F.canon hC ?_ | with_reducible refine wpAny_loadPart_at hC ?_ | (with_reducible refine wpAny_isSubtype_exc hC ?_; first | rw [c1] | rw [c2] | rw [c3]) | wp_step)
  show R _ _
  rw [Heap.size_push]
  exact hq
theorem type_call_kw (F : ExcBaseFacts B newId initId bmB) (hT : ∀ X : String, bm.contains (.type X) = bmB.contains (.type X)) {rest : List Value} {kw : List (Str × Value)} {fI : Addr} {Q : Fin → Shared → Prop}
    (hC : h.get? C = some (excClassObj nm q C N bs bm hdct sn sub ab col dd k0 k1 k2 k3 k5 newId))
    (hi : W.Looks (model prog w) h (typeLookup (.ref C) "__init__") (some (.ref fI))) (hb : ∀ self, W.Looks (model prog w) h (bindSpecial (.ref fI) self) (.ref fI, [self])) (hrest : rest.length ≤ sizeLine)
    (hq : codeAny (model prog w) A (.call (.ref fI) ⟨.ref (h.objs.size + 1) :: rest, kw⟩)
      (fun r s' => match r with | .ok (.ret v) => v = .none ∧ Q (.done (.ret (.ref (h.objs.size + 1)))) s' | .ok _ => False | .error e => E e s')
      ⟨(h.push (W.kdv_tup rest)).push (excO C h.objs.size), g, d, t, os⟩) :
    wpAny (model prog w) A (Builtin.«type.__call__» ⟨.ref C :: rest, kw⟩) Q E ⟨h, g, d, t, os⟩ := by
  repeat (first | with_reducible refine wpAny_loadPart_at hC ?_ | with_reducible refine wpAny_madeBy_exc hC ?_ | wp_step)
  refine codeAny_call_builtin_code (Code.quiet_builtin _ F.quiet) (check_kw F hT hC ?_)
  refine new_kw F hT hC ?_ hrest
  show wpAny _ _ _ _ _ _
  have k : ∀ b o, h.get? b = some o → ((h.push (W.kdv_tup rest)).push (excO C h.objs.size)).get? b = some o := fun b o e => Heap.get?_push_of_some _ (Heap.get?_push_of_some _ e)
  have g1 := k _ _ hC
  have g2 : ((h.push (W.kdv_tup rest)).push (excO C h.objs.size)).get? (h.objs.size + 1) = some (excO C h.objs.size) := by heap_get
  have c1 : (Value.ref C :: bm).contains (.ref C) = true := by simp
  have i1 := hi.keeps k
  have b1 := (hb (.ref (h.objs.size + 1))).keeps k
  unfold isInstance
  repeat (first | with_reducible refine wpAny_loadPart_at g2 ?_ | (with_reducible refine wpAny_isSubtype_exc g1 ?_; rw [c1]) | wp_step)
  show wpAny _ _ (typeLookup (.ref C) _) _ _ _
  refine i1.at ?_
  refine wpAny_holding (wpAny_bind (b1.at ?_))
  refine wpAny_bind (wpAny_call (codeAny_mono hq fun r s' z => ?_))
  rcases r with e | (v | _ | _ | _) <;> first | exact z | exact z.elim | skip
  obtain ⟨rfl, z⟩ := z
  first
    | exact wpAny_pure (wpAny_pure z)
    | (wp_walk; exact z)
theorem call_kw (F : ExcBaseFacts B newId initId bmB) (hT : ∀ X : String, bm.contains (.type X) = bmB.contains (.type X)) {rest : List Value} {kw : List (Str × Value)} {fI : Addr}
    (hC : h.get? C = some (excClassObj nm q C N bs bm hdct sn sub ab col dd k0 k1 k2 k3 k5 newId))
    (hi : W.Looks (model prog w) h (typeLookup (.ref C) "__init__") (some (.ref fI))) (hb : ∀ self, W.Looks (model prog w) h (bindSpecial (.ref fI) self) (.ref fI, [self])) (hrest : rest.length ≤ sizeLine)
    (hq : codeAny (model prog w) (A.under (.builtin "type.__call__" ⟨.ref C :: rest, kw⟩)) (.call (.ref fI) ⟨.ref (h.objs.size + 1) :: rest, kw⟩) (W.InitBack (h.objs.size + 1) R)
      ⟨(h.push (W.kdv_tup rest)).push (excO C h.objs.size), g, d, t, os⟩) :
    codeAny (model prog w) A (.call (.ref C) ⟨rest, kw⟩) R ⟨h, g, d, t, os⟩ := by
  have f1 := tc_lookup
  have f2 := tc_bind (.ref C)
  have hTy : (⟨h, g, d, t, os⟩ : Shared).TypeIs (.ref C) "type" := ⟨_, hC, rfl⟩
  refine codeAny_of_tree ?_
  show wpAny _ _ (callAny (.ref C) _) _ _ _
  repeat (any_goals (first | assumption | with_reducible refine wpAny_loadPart_at hC ?_ | wp_step))
  refine ⟨rfl, ?_⟩
  refine codeAny_call_builtin_at (Code.quiet_builtin _ (by decide +kernel)) entry_typeCall (wpAny_check_type_call_sub hC (type_call_kw F hT hC hi hb hrest ?_))
  refine codeAny_mono hq fun r s' z => ?_
  rcases r with e | (v | _ | _ | _) <;> exact z
end
end Gk
end PySem
set_option Elab.async false
set_option linter.all false
set_option maxRecDepth 100000
set_option maxHeartbeats 4000000
namespace Gd
open PySem PySem.Spec PyProof.Rows L2
open PySem.W (excInitIn excOver excTail)
section
variable {X : Cx} {pins : List (Addr × Obj)} {σ : L2.St} {H : Hp} {s : Shared} {a C dx : Addr} {f : Str} {y : V} {u : Value} {fs : List (Str × V)} {E : Value → Shared → Prop} {A : Around}
/-- self.f = y, a further field -/
theorem est_more {Q : Unit → Shared → Prop} (T : XC X.K C) (I : Inv X pins σ H s) (e : H a = some (exo a C (some dx))) (ed : H dx = some (exd dx fs)) (hl : fs.length ≤ 900) (ht : PySem.W.takerIn X.K C f = some none) (ry : RelV y u)
    (h : ∀ s', Inv X pins σ (upd H dx (exd dx ((f, y) :: fs))) s' → Q () s') : wpAny (model X.prog X.w) A (setAttr (.ref a) f u) Q E s := by
  obtain ⟨B, nid, iid, tl, FB, SF, hin, hov⟩ := T.base
  obtain ⟨t1, ho⟩ := exo_at I.hok e
  obtain ⟨mA, hns, rel⟩ := exd_at I.hok ed
  have hw := within_of rel
  obtain ⟨hp, g, d, t, os⟩ := s
  obtain ⟨oD, _, _, hoD, _, _⟩ := hns.count hw
  have inst : PySem.W.InstAt hp a { cls := .ref C, dict := some dx, data := .fields #[.ref t1, .none, .none, .none, .bool false, .none] } C (some oD) := ⟨ho, rfl, rfl, hoD⟩
  refine PySem.W.set_plain I.kIn inst T.sa ?_
  refine PySem.W.osa_openX (s := ⟨hp, g, d, t + 1, os⟩) SF I.kIn inst hov ht fun b => ?_
  obtain ⟨cd, hc, hd'⟩ := PySem.W.any_some T.hd
  refine wpAny_bind (wpAny_pure (wpAny_bind (wpAny_bind (wpAny_loadPart ho (wpAny_bind ((PySem.W.looks_clsIn (h := hp) I.kIn hc).at ?_))))))
  rw [hd']
  refine wpAny_pure (a := some dx) ?_
  refine PySem.OEX.store_in_old hns hw (by rw [List.length_map]; omega) fun h' tk' hn hs => ?_
  have hd : ∃ o, h'.get? dx = some o := by
    obtain ⟨o, _, _, e', _⟩ := hn
    exact ⟨o, e'⟩
  exact h _ (I.write (t' := tk') (x := dx) (e := dx) (o := exd dx ((f, y) :: fs)) (by rw [ed]; exact True.intro) (.inl rfl) (fun b o hb ho => (hs.2 b hb).trans ho) hd (exd_ok hn (relO_put ry rel)))
end
/-- self.f = e in an exception's __init__ -/
def tEst (K : PySem.W.Frag) (f : Str) (to te : TE) : TS := fun D σ H => te σ H fun y H1 => to σ H1 fun x H2 => ∃ a C : Addr, x = .ref a ∧ XC K C ∧ PySem.W.takerIn K C f = some none ∧
  ((H2 a = some (exo a C none) ∧ ∀ dx, H2 dx = none → dx ≠ a → D.nx σ (upd (upd H2 dx (exd dx [(f, y)])) a (exo a C (some dx)))) ∨
    ∃ (dx : Addr) (fs : List (Str × V)), H2 a = some (exo a C (some dx)) ∧ H2 dx = some (exd dx fs) ∧ fs.length ≤ 900 ∧ D.nx σ (upd H2 dx (exd dx ((f, y) :: fs))))
theorem ps_est {X : Cx} {o e : Expr} {to te : TE} {f : Str} {p' pos : Pos} (ho : PE X o to) (he : PE X e te) (hs : swapsWith e (some (.Attribute o f p')) pos.line X.env = pure false := by rfl) : PS X (.Assign [.Attribute o f p'] e pos) (tEst X.K f to te) := by
  constructor
  intro pins s σ H D I h
  refine plainObj_wpAny_Assign_Attribute (thn (he.run pins s σ H _ I h) fun v s1 z1 => ?_) hs
  obtain ⟨y, H1, I1, r1, q1⟩ := z1
  refine thn (ho.run pins s1 σ H1 _ I1 q1) fun u s2 z2 => ?_
  obtain ⟨x, H2, I2, r2, a, C, ex, T, ht, q⟩ := z2
  subst ex
  have eu : u = Value.ref a := r2
  subst eu
  rcases q with ⟨ea, q⟩ | ⟨dx, fs, ea, ed, hl, q⟩
  · exact est_first T I2 ea ht r1 fun dx s' n ne J => ⟨σ, _, J, q dx n ne⟩
  · exact est_more T I2 ea ed hl ht r1 fun s' J => ⟨σ, _, J, q⟩

/-! ### C(e, ..), C(k = v, ..): the instance as a value -/
section
variable {X : Cx} {CX : CXT} {k : Nat} {f C : Addr} {fd : FuncData} {ps ks : List Str} {sp : Sp} {E : XK} {x : Str} {p pos : Pos} {e : Expr} {es : List Expr} {kws : List Keyword} {t tk : TA}
/-- C(..) whose __init__ is the def at f -/
structure Ini (K : PySem.W.Frag) (C f : Addr) : Prop where
  xc : XC K C
  at_ : PySem.W.findIn K (.ref C) "__init__" = some (some (.ref f))
  ty : PySem.W.typeIn K (.ref f) = some (.type "function")
def tErr (C : Addr) (sp : Sp) (dvs : List V) (E : XK) (t : TA) : TE := fun σ H Q => t σ H fun vs H1 => vs.length ≤ 1000 ∧ ∀ a, H1 a = none → sp (.ref a :: (vs ++ dvs)) (upd H1 a (exo a C none)) (fun v H2 => v = .non ∧ Q (.ref a) H2) E
theorem run_err {pins : List (Addr × Obj)} {σ : L2.St} {H : Hp} {s : Shared} {Q : VK} {us ws : List Value} {kw : List (Str × Value)} {zs : List V} (N : Ini X.K C f) (F : FnOk X.prog X.w X.K X.mg X.base CX k f fd ps sp) (hR : Room (k + 1) X.A) (hx : Passes CX X E)
    (I : Inv X pins σ H s) (hl : us.length ≤ sizeLine) (hB : ∀ (s' : Shared) (self : Value), X.K.In s'.heap → BindsTo s' fd ⟨self :: us, kw⟩ (ps.zip (self :: ws))) (hV : Vals zs ws)
    (h : ∀ a, H a = none → sp (.ref a :: zs) (upd H a (exo a C none)) (fun v H2 => v = .non ∧ Q (.ref a) H2) E) : wpAny (model X.prog X.w) X.A (call (.ref C) us kw) (EP X pins σ Q) X.xe s := by
  obtain ⟨B, nid, iid, tl, FB, SF, hin, hov⟩ := N.xc.base
  obtain ⟨hp, g, dr, t0, os⟩ := s
  obtain ⟨nm, N', qn, bs, bm, hdct, sn, sub, ab, col, dd, k0, k1, k2, k3, k5, hC, hT⟩ := PySem.W.excInit_of I.kIn hin
  have le1 : hp.objs.size ≤ hp.objs.size + 1 := Nat.le_succ _
  have n1 : H (hp.objs.size + 1) = none := I.hok.fresh le1
  have q1 := h (hp.objs.size + 1) n1
  have kk : ∀ b o, hp.get? b = some o → ((hp.push (PySem.W.kdv_tup us)).push (PySem.HandSPX.excO C hp.objs.size)).get? b = some o := fun b o e => Heap.get?_push_of_some _ (Heap.get?_push_of_some _ e)
  have g1 : ((hp.push (PySem.W.kdv_tup us)).push (PySem.HandSPX.excO C hp.objs.size)).get? (hp.objs.size + 1) = some (PySem.HandSPX.excO C hp.objs.size) := by heap_get
  have I2 : Inv X pins σ (upd H (hp.objs.size + 1) (exo (hp.objs.size + 1) C none)) ⟨(hp.push (PySem.W.kdv_tup us)).push (PySem.HandSPX.excO C hp.objs.size), g, dr, t0, os⟩ :=
    I.laid (t' := t0) (a := hp.objs.size + 1) (o := exo (hp.objs.size + 1) C none) (h' := (hp.push (PySem.W.kdv_tup us)).push (PySem.HandSPX.excO C hp.objs.size)) kk le1 (exo_ok g1)
  have r2 : Vals (V.ref (hp.objs.size + 1) :: zs) (Value.ref (hp.objs.size + 1) :: ws) := .cons rfl hV
  have hR2 : Room k (X.A.under (.builtin "type.__call__" ⟨.ref C :: us, kw⟩)) := by
    have d1 : (X.A.under (.builtin "type.__call__" ⟨.ref C :: us, kw⟩)).depth = X.A.depth + 1 := by
      first | rfl | simp [Around.under, Code.weight, Code.isCreation, Code.isGuard, Code.isCaller, Code.frames, Code.isFrame, guardIds]
    have d2 : (X.A.under (.builtin "type.__call__" ⟨.ref C :: us, kw⟩)).units = X.A.units + 1 := by
      first | rfl | simp [Around.under, Code.cUnits, Code.frames, Code.isFrame]
    exact ⟨hR.hd, by have := hR.dp; rw [d1]; omega, by have := hR.un; rw [d2]; omega⟩
  have e0 := I2.env0
  have e1 : Env0 X.prog X.w X.K X.mg X.base (X.A.under (.builtin "type.__call__" ⟨.ref C :: us, kw⟩)) X.stack ⟨(hp.push (PySem.W.kdv_tup us)).push (PySem.HandSPX.excO C hp.objs.size), g, dr, t0, os⟩ (upd H (hp.objs.size + 1) (exo (hp.objs.size + 1) C none)) :=
    ⟨by first | exact e0.frames | (simpa [Around.under, Code.envs, Code.isFrame, pushEnvs] using e0.frames), e0.mod, e0.bs, e0.bsz, e0.funs, e0.frf, e0.hok, e0.bare⟩
  refine wpAny_call (PySem.Gk.call_kw FB hT hC (PySem.W.looks_findIn I.kIn N.at_) (fun self => PySem.W.bind_fn I.kIn self N.ty) hl
    (codeAny_mono (F.run _ X.stack _ _ ⟨Value.ref (hp.objs.size + 1) :: us, kw⟩ (Value.ref (hp.objs.size + 1) :: ws) _ _ E hR2 e1 (hB _ _ I2.kIn) r2 q1) fun r s' hq' => ?_))
  match r, hq' with
  | .error er, hq' => exact hx pins σ _ _ er s' I2 hq'
  | .ok (.ret u), hq' =>
    obtain ⟨v, H', I3, rv, ev, q3⟩ := I2.after hq'
    subst ev
    exact ⟨rv, ⟨V.ref (hp.objs.size + 1), H', I3, rfl, q3⟩⟩
  | .ok .next, hq' => exact False.elim hq'
  | .ok .brk, hq' => exact False.elim hq'
  | .ok .cont, hq' => exact False.elim hq'
theorem pe_err (N : Ini X.K C f) (F : FnOk X.prog X.w X.K X.mg X.base CX k f fd ps sp) (hR : Room (k + 1) X.A) (hg : Gl X x) (hm : X.mg x = some (.ref C)) (hb : Binds X.K fd ps []) (hx : Passes CX X E)
    (ha : PA X (e :: es) t) (hdb : (x == ("__debug__" : Str)) = false := by decide) (he : starEach (e :: es) X.env = (false, eval e X.env) :: starEach es X.env := by rfl) (hpl : (backTo pos (starEach es X.env)).any (·.1) = false := by rfl) :
    PE X (.Call (.Name x p) (e :: es) [] pos) (tErr C sp [] E t) := by
  constructor
  intro pins s σ H Q I h
  refine wpAny_Call_Name_kw (ld_glob I hg hm ?_ hdb)
  refine PySem.W.callWith_K (h₀ := X.base) I.ok.mod.kin N.xc.kp (thn (ha.run pos pins s σ H _ I h) fun us s2 z2 => ?_) he hpl
  obtain ⟨vs, H2, I2, r2, hz, q2⟩ := z2
  have el : us.length ≤ sizeLine := by
    rw [← Paired.length r2, sizeLine_eq]
    omega
  refine ⟨I2.kIn, ?_⟩
  have len : ∀ self : Value, ((self :: us) ++ ([] : List Value)).length = ps.length := fun self => by
    have q3 := F.len _ _ _ _ (q2 _ (I2.hok.fresh (Nat.le_refl _)))
    rw [List.append_nil] at q3 ⊢
    rw [← q3, List.length_cons, List.length_cons, ← Paired.length r2]
  refine run_err (ws := us) (zs := vs ++ []) N F hR hx I2 el (fun s' self ki => ?_) (by rw [List.append_nil]; exact r2) q2
  have := hb s' (self :: us) ki (len self)
  rw [List.append_nil] at this
  exact this
/-- how the keywords of C(k = v, ..) reach the parameters behind self -/
structure SBinds (K : PySem.W.Frag) (fd : FuncData) (ps ks : List Str) (g : List Value → List Value) (gV : List V → List V) : Prop where
  to : ∀ (s : Shared) (self : Value) (ws : List Value), K.In s.heap → ws.length = ks.length → BindsTo s fd ⟨[self], ks.zip ws⟩ (ps.zip (self :: g ws))
  rel : ∀ {zs : List V} {ws : List Value}, Vals zs ws → Vals (gV zs) (g ws)
def tErrK (C : Addr) (sp : Sp) (n : Nat) (gV : List V → List V) (E : XK) (tk : TA) : TE := fun σ H Q => tk σ H fun zs H1 => zs.length = n ∧ ∀ a, H1 a = none → sp (.ref a :: gV zs) (upd H1 a (exo a C none)) (fun v H2 => v = .non ∧ Q (.ref a) H2) E
theorem pe_errK {g : List Value → List Value} {gV : List V → List V} (N : Ini X.K C f) (F : FnOk X.prog X.w X.K X.mg X.base CX k f fd ps sp) (hR : Room (k + 1) X.A) (hg : Gl X x) (hm : X.mg x = some (.ref C)) (hb : SBinds X.K fd ps ks g gV) (hx : Passes CX X E)
    (hkw : PK X kws tk) (hall : (backToKw pos (keywordEach kws X.env)).all (·.1.isSome) = true := by rfl) (hks : (backToKw pos (keywordEach kws X.env)).filterMap (·.1) = ks := by rfl)
    (hdb : (x == ("__debug__" : Str)) = false := by decide)
    (hpl : ((backTo pos (starEach [] X.env)).any (·.1) || (backToKw pos (keywordEach kws X.env)).any (·.1.isNone)) = false := by rfl) :
    PE X (.Call (.Name x p) [] kws pos) (tErrK C sp ks.length gV E tk) := by
  constructor
  intro pins s σ H Q I h
  refine wpAny_Call_Name_kw (ld_glob I hg hm ?_ hdb)
  refine PySem.W.callWith_KW0 (first := []) (h₀ := X.base) I.ok.mod.kin N.xc.kp hall (thn (hkw.run pos pins s σ H _ I h) fun us s2 z2 => ?_) hpl
  obtain ⟨zs, H2, I2, r2, hz, q2⟩ := z2
  refine ⟨I2.kIn, ?_⟩
  rw [hks]
  have el : us.length = ks.length := by rw [← Paired.length r2]; exact hz
  exact run_err (us := []) (ws := g us) (zs := gV zs) N F hR hx I2 (Nat.zero_le _) (fun s' self ki => hb.to s' self us ki el) (hb.rel r2) q2
end
end Gd
set_option Elab.async false
set_option linter.all false
set_option maxRecDepth 100000
set_option maxHeartbeats 4000000
namespace Gd
open PySem PySem.Spec PyProof.Rows L2
open PySem.W (excInitIn excOver excTail)
theorem ErrAt.obj {P : Program} {w : World} {H : Hp} {h : Heap} {a C : Addr} {fs : List (Str × V)} (hok : HOk P w H h) (e : ErrAt H a C fs) :
    ∃ (ox od : Obj) (mA : Str → Option Value), PySem.W.InstAt h a ox C (some od) ∧ (∀ name, PySem.W.lookIn name od = some (mA name)) ∧ ∀ f, RelO (fs.lookup f) (mA f) := by
  obtain ⟨d, e1, e2⟩ := e
  obtain ⟨t1, ho⟩ := exo_at hok e1
  obtain ⟨mA, hns, rel⟩ := exd_at hok e2
  obtain ⟨od, hod, hl⟩ := lookIn_ns hns
  exact ⟨_, od, mA, ⟨ho, rfl, rfl, hod⟩, hl, rel⟩
/-- e.f of such an instance -/
def tEf (K : PySem.W.Frag) (f : Str) (te : TE) : TE := fun σ H Q => te σ H fun x H1 => ∃ (a C : Addr) (fs : List (Str × V)) (v : V), x = .ref a ∧ XC K C ∧ PySem.W.findIn K (.ref C) f = some none ∧ ErrAt H1 a C fs ∧ fs.lookup f = some v ∧ Q v H1
theorem pe_ef {X : Cx} {e : Expr} {te : TE} {pos : Pos} {f : Str} (he : PE X e te) (hb : attributeBase e f X.env (eval e X.env) = eval e X.env := by rfl) : PE X (.Attribute e f pos) (tEf X.K f te) := by
  constructor
  intro pins s σ H Q I h
  refine attr_of hb (thn (he.run pins s σ H _ I h) fun u s1 z => ?_)
  obtain ⟨x, H1, I1, rx, a, C, fs, v, ex, T, hno, ea, l, q⟩ := z
  subst ex
  have eu : u = Value.ref a := rx
  subst eu
  obtain ⟨ox, od, mA, J, hl, rel⟩ := ea.obj I1.hok
  obtain ⟨u2, hu, ru⟩ := RelO.some_of (v := v) (o := mA f) (by rw [← l]; exact rel f)
  exact HandSPX.exc_get I1.kIn J T.ga T.gg T.sB (PySem.W.findObj_own T.hd hno rfl (by rw [hl, hu])) (handed_of ru) ⟨v, H1, I1.tok _, ru, q⟩
/-- isinstance(e, c) of such an instance, or of one without fields -/
def rIsX (K : PySem.W.Frag) : List V → Hp → VK → Prop := fun xs H Q => ∃ (a C : Addr) (c : V) (u : Value) (b : Bool), xs = [.ref a, c] ∧ ClsV c u ∧ XC K C ∧ ((∃ fs, ErrAt H a C fs) ∨ H a = some (ExO (.ref C) a)) ∧ PySem.W.kitOne K (.ref C) u = some b ∧ Q (.bl b) H
theorem call_isX {X : Cx} : CallR X (.builtin "isinstance") (rIsX X.K) := by
  intro pins s σ H xs us Q I r h
  obtain ⟨a, C, c, u, b, rfl, k, T, ea, e, q⟩ := h
  obtain ⟨u1, u2, rfl, r1, r2⟩ := vals2 r
  have e2 := k.eq r2
  subst e2
  have e1 : u1 = Value.ref a := r1
  subst e1
  have hcl : (PySem.W.clsIn X.K C).isSome = true := by
    obtain ⟨cd, hc, _⟩ := PySem.W.any_some T.hd
    rw [hc]
    rfl
  rcases ea with ⟨fs, ea⟩ | ea
  · obtain ⟨ox, od, mA, J, hl, rel⟩ := ea.obj I.hok
    exact PySem.W.kia_one (PySem.W.kitx_exc hcl T.ga T.gg T.sB T.ca T.cn T.ct T.mo) I.kIn J e (fun z => nomatch z) fun tk => ⟨.bl b, H, I.tok tk, rfl, q⟩
  · obtain ⟨⟨oe, vs, ho, hz, hd, _⟩, _, _⟩ := (show ObjOk X.prog X.w H s.heap a (ExO (.ref C) a) from I.hok a _ ea)
    have J : PySem.W.InstAt s.heap a oe C none := by
      obtain ⟨oc, od, oda, osl⟩ := oe
      obtain ⟨h1, h2⟩ := hz
      dsimp only at h1 h2 hd
      subst h1 h2 hd
      exact ⟨ho, rfl, rfl, trivial⟩
    exact PySem.W.kia_one (PySem.W.kitx_exc hcl T.ga T.gg T.sB T.ca T.cn T.ct T.mo) I.kIn J e (fun z => nomatch z) fun tk => ⟨.bl b, H, I.tok tk, rfl, q⟩
/-- C() of a class without an __init__ of its own -/
theorem pe_err0 {X : Cx} {C : Addr} {bmB : List Value} {B nid iid : String} {x : Str} {p pos : Pos} (F : ExcBaseFacts B nid iid bmB) (q : PySem.W.excIn X.K C bmB nid = true) (gC : X.mg x = some (.ref C)) (kC : PySem.W.keepIn X.K (.ref C) = true) (hg : Gl X x)
    (hdb : (x == ("__debug__" : Str)) = false := by decide) : PE X (.Call (.Name x p) [] [] pos) (fun _ H Q => ∀ a, H a = none → Q (.ref a) (upd H a (ExO (.ref C) a))) := by
  constructor
  intro pins s σ H Q I h
  refine wpAny_Call_Name_kw (ld_glob I hg gC ?_ hdb)
  refine PySem.W.callWith_K0 I.kIn kC ?_
  show wpAny _ _ (call (.ref C) []) _ _ _
  obtain ⟨bm, N, nm, qn, bs, hdct, sn, sub, ab, col, dd, k0, k1, k2, k3, k5, mN, hC, hN, hni, T⟩ := exc_obj I.kIn q
  refine wpAny_call_exc_subT F T hC hN hni (fun h' a hm => ?_) (Nat.zero_le _)
  have hn : H a = none := I.hok.gone hm.new
  obtain ⟨t, ht, _, _⟩ := hm.there
  exact ⟨.ref a, upd H a (ExO (.ref C) a), I.laidN hm.keeps hm.new hn (exO_ok ht ⟨rfl, rfl⟩ rfl rfl rfl (show 4 < 6 by decide)), rfl, h a hn⟩
/-! ### list.count of a bool among bools -/
theorem countU {us : List Value} {bs : List Bool} (r : Vals (bs.map V.bl) us) : us.countP (eqU (.bl true)) = bs.count true := by
  induction bs generalizing us with
  | nil => cases r; rfl
  | cons b bs ih =>
    cases r with
    | cons r1 r2 =>
      rw [List.countP_cons, List.count_cons, ih r2, eqU_of r1 rfl]
      cases b <;> rfl
theorem mt_bcount {X : Cx} : MtR X "list.count" (fun x xs H Q => ∃ (p : Addr) (bs : List Bool), x = .ref p ∧ xs = [.bl true] ∧ SqL X.K H p (bs.map V.bl) ∧ Q (.int (bs.count true : Nat)) H) := by
  intro pins s σ H x xs v us Q I rx rxs h
  obtain ⟨p, bs, rfl, rfl, hs, q⟩ := h
  cases rx
  obtain ⟨u, rfl, ru⟩ := rxs.one
  obtain ⟨its, rv, ⟨⟨cls, dd, data, sl⟩, n, ho, hc, hdn, hd⟩, hlen⟩ := I.list hs
  simp only at hc hd
  subst hc hd
  have fl : (bs.map V.bl).all flatV = true := by
    rw [List.all_map, List.all_eq_true]
    intro b _
    rfl
  refine call_meets PySem.F.slot_list_count ⟨_, ho, rfl⟩ PySem.F.entry_list_count (PySem.F.args_list_count_2 _ _)
    (SeqAt.list_countAt p its.toArray n dd sl u (eqU (.bl true))) ⟨ho, fun y hy => mem_eqAt ru rfl rv fl y (by simpa using hy), ?_⟩
  have ec : its.toArray.toList.countP (eqU (.bl true)) = bs.count true := countU rv
  refine ⟨.int (bs.count true : Nat), H, I.tok _, ⟨s.toks, ?_⟩, q⟩
  show Value.int ((its.toArray.toList.countP (eqU (.bl true)) : Nat) : Int) s.toks = Value.int ((bs.count true : Nat) : Int) s.toks
  rw [ec]
end Gd
set_option Elab.async false
set_option linter.all false
set_option maxRecDepth 100000
set_option maxHeartbeats 4000000
namespace Gd
open PySem PySem.Spec PyProof.Rows L2
theorem PE.imp {X : Cx} {e : Expr} {t t' : TE} (h : PE X e t) (q : ∀ σ H Q, t' σ H Q → t σ H Q) : PE X e t' := ⟨fun pins s σ H Q I z => h.run pins s σ H Q I (q σ H Q z)⟩
theorem PA.imp {X : Cx} {es : List Expr} {t t' : TA} (h : PA X es t) (q : ∀ σ H Q, t' σ H Q → t σ H Q) : PA X es t' := ⟨fun pos pins s σ H Q I z => h.run pos pins s σ H Q I (q σ H Q z)⟩
theorem same_rfl {H : Hp} : Same H H := fun _ _ e => e

/-! ### a class with one field, with two -/
def spI1 (C : Addr) (f : Str) : Sp := fun vs H Q _ => ∃ (a : Addr) (v : V), vs = [.ref a, v] ∧ H a = some (exo a C none) ∧ ∀ d, H d = none → d ≠ a → Q .non (upd (upd H d (exd d [(f, v)])) a (exo a C (some d)))
def spI2 (C : Addr) (f g : Str) : Sp := fun vs H Q _ => ∃ (a : Addr) (v u : V), vs = [.ref a, v, u] ∧ H a = some (exo a C none) ∧ ∀ d, H d = none → d ≠ a → Q .non (upd (upd (upd H d (exd d [(f, v)])) a (exo a C (some d))) d (exd d [(g, u), (f, v)]))
section
variable {P : Program} {w : World} {K : PySem.W.Frag} {mg : Str → Option Value} {base : Heap}
theorem ok_i1 {qn f : Str} {st : Stmt} {fa C : Addr} {fd : FuncData} {p1 p2 p3 p4 : Pos} (F : Fun K "__init__" qn st fa fd) (S : FnScope ["self", f] ["self", f] (defScope st)) (hb : defBody st = [.Assign [.Attribute (.Name "self" p1) f p2] (.Name f p3) p4])
    (hd : (f == ("__debug__" : Str)) = false) (hc : (f == ("__classdict__" : Str)) = false) (hs : ∀ env : Env, swapsWith (.Name f p3) (some (.Attribute (.Name "self" p1) f p2)) p4.line env = pure false) (T : XC K C) (ht : PySem.W.takerIn K C f = some none) : FnOk P w K mg base CX0 1 fa fd ["self", f] (spI1 C f) := by
  refine F.ok S (fun vs H Q E h => ?_) (fun cv A ou s H vs Q E hr h => ?_)
  · obtain ⟨a, v, rfl, _⟩ := h
    rfl
  obtain ⟨a, v, rfl, ea, q⟩ := h
  rw [hb]
  refine ⟨_, pss_one (ps_est (pe_var (i := 0) rfl ((S.par "self" (List.Mem.head _)).elim (fun z => .inl z) (fun z => .inr (.inl z)))) (pe_var (i := 1) rfl ((S.par f (.tail _ (List.Mem.head _))).elim (fun z => .inl z) (fun z => .inr (.inl z))) hd hc) (hs _)), ?_⟩
  exact ⟨v, rfl, .ref a, rfl, a, C, rfl, T, ht, .inl ⟨ea, q⟩⟩
theorem ok_i2 {qn f g : Str} {st : Stmt} {fa C : Addr} {fd : FuncData} {p1 p2 p3 p4 p5 p6 p7 p8 : Pos} (F : Fun K "__init__" qn st fa fd) (S : FnScope ["self", f, g] ["self", f, g] (defScope st))
    (hb : defBody st = [.Assign [.Attribute (.Name "self" p1) f p2] (.Name f p3) p4, .Assign [.Attribute (.Name "self" p5) g p6] (.Name g p7) p8])
    (hd : (f == ("__debug__" : Str)) = false) (hc : (f == ("__classdict__" : Str)) = false) (hd2 : (g == ("__debug__" : Str)) = false) (hc2 : (g == ("__classdict__" : Str)) = false)
    (hs : ∀ env : Env, swapsWith (.Name f p3) (some (.Attribute (.Name "self" p1) f p2)) p4.line env = pure false) (hs2 : ∀ env : Env, swapsWith (.Name g p7) (some (.Attribute (.Name "self" p5) g p6)) p8.line env = pure false)
    (T : XC K C) (ht : PySem.W.takerIn K C f = some none) (ht2 : PySem.W.takerIn K C g = some none) : FnOk P w K mg base CX0 1 fa fd ["self", f, g] (spI2 C f g) := by
  refine F.ok S (fun vs H Q E h => ?_) (fun cv A ou s H vs Q E hr h => ?_)
  · obtain ⟨a, v, u, rfl, _⟩ := h
    rfl
  obtain ⟨a, v, u, rfl, ea, q⟩ := h
  have v0 : ∀ {x : Str}, x ∈ (["self", f, g] : List Str) → Vis (defScope st) x := fun h => (S.par _ h).elim (fun z => .inl z) (fun z => .inr (.inl z))
  rw [hb]
  refine ⟨_, pss_cons (ps_est (pe_var (i := 0) rfl (v0 (by simp))) (pe_var (i := 1) rfl (v0 (by simp)) hd hc) (hs _)) (pss_one (ps_est (pe_var (i := 0) rfl (v0 (by simp))) (pe_var (i := 2) rfl (v0 (by simp)) hd2 hc2) (hs2 _))), ?_⟩
  refine ⟨v, rfl, .ref a, rfl, a, C, rfl, T, ht, .inl ⟨ea, fun d hd hda => ?_⟩⟩
  refine ⟨u, rfl, .ref a, rfl, a, C, rfl, T, ht2, .inr ⟨d, [(f, v)], upd_same, ?_, Nat.le_of_ble_eq_true rfl, q d hd hda⟩⟩
  rw [upd_ne hda, upd_same]
/-- what the law knows of a class with one field (two) -/
structure One (P : Program) (w : World) (K : PySem.W.Frag) (mg : Str → Option Value) (base : Heap) (nm f : Str) (C : Addr) : Prop where
  gl : mg nm = some (.ref C)
  ini : ∃ (fa : Addr) (fd : FuncData), Ini K C fa ∧ FnOk P w K mg base CX0 1 fa fd ["self", f] (spI1 C f) ∧ Binds K fd ["self", f] [] ∧ SBinds K fd ["self", f] [f] (fun x => x) (fun x => x)
  no : PySem.W.findIn K (.ref C) f = some none
structure Two (P : Program) (w : World) (K : PySem.W.Frag) (mg : Str → Option Value) (base : Heap) (nm f g : Str) (C : Addr) : Prop where
  gl : mg nm = some (.ref C)
  ini : ∃ (fa : Addr) (fd : FuncData), Ini K C fa ∧ FnOk P w K mg base CX0 1 fa fd ["self", f, g] (spI2 C f g) ∧ Binds K fd ["self", f, g] [] ∧ SBinds K fd ["self", f, g] [g, f] (fun x => x.reverse) (fun x => x.reverse)
  nof : PySem.W.findIn K (.ref C) f = some none
  nog : PySem.W.findIn K (.ref C) g = some none
theorem One.xc {nm f : Str} {C : Addr} (O : One P w K mg base nm f C) : XC K C := by
  obtain ⟨_, _, N, _⟩ := O.ini
  exact N.xc
theorem Two.xc {nm f g : Str} {C : Addr} (O : Two P w K mg base nm f g C) : XC K C := by
  obtain ⟨_, _, N, _⟩ := O.ini
  exact N.xc
end
theorem made1 {H : Hp} {a d C : Addr} {f : Str} {v : V} (ha : H a = none) (hd : upd H a (exo a C none) d = none) (n : d ≠ a) :
    Same H (upd (upd (upd H a (exo a C none)) d (exd d [(f, v)])) a (exo a C (some d))) ∧ ErrAt (upd (upd (upd H a (exo a C none)) d (exd d [(f, v)])) a (exo a C (some d))) a C [(f, v)] := by
  rw [upd_ne n] at hd
  refine ⟨fun b o e => ?_, d, upd_same, ?_⟩
  · rw [upd_ne (ne_of_none e ha), upd_ne (ne_of_none e hd), upd_ne (ne_of_none e ha)]
    exact e
  · rw [upd_ne n, upd_same]
theorem made2 {H : Hp} {a d C : Addr} {f g : Str} {v u : V} (ha : H a = none) (hd : upd H a (exo a C none) d = none) (n : d ≠ a) :
    Same H (upd (upd (upd (upd H a (exo a C none)) d (exd d [(f, v)])) a (exo a C (some d))) d (exd d [(g, u), (f, v)])) ∧ ErrAt (upd (upd (upd (upd H a (exo a C none)) d (exd d [(f, v)])) a (exo a C (some d))) d (exd d [(g, u), (f, v)])) a C [(g, u), (f, v)] := by
  rw [upd_ne n] at hd
  refine ⟨fun b o e => ?_, d, ?_, upd_same⟩
  · rw [upd_ne (ne_of_none e hd), upd_ne (ne_of_none e ha), upd_ne (ne_of_none e hd), upd_ne (ne_of_none e ha)]
    exact e
  · rw [upd_ne n.symm, upd_same]
/-- C(x), C(f = x), x a name: a new instance -/
def tOne (C : Addr) (f : Str) (j : Nat) : TE := fun σ H Q => ∃ v, σ[j]? = some (some v) ∧ ∀ a H', Same H H' → H a = none → ErrAt H' a C [(f, v)] → Q (.ref a) H'
def tTwo (C : Addr) (f g : Str) (i j : Nat) : TE := fun σ H Q => ∃ v u, σ[i]? = some (some v) ∧ σ[j]? = some (some u) ∧ ∀ a H', Same H H' → H a = none → ErrAt H' a C [(g, u), (f, v)] → Q (.ref a) H'
section
variable {X : Cx} {nm f g : Str} {C : Addr} {e e2 : Expr} {i j : Nat} {p pos k1 k2 : Pos}
theorem pe_one (O : One X.prog X.w X.K X.mg X.base nm f C) (hR : Room 2 X.A) (hg : Gl X nm) (he : PE X e (tVar j)) (hdb : (nm == ("__debug__" : Str)) = false := by decide) (hs : starEach [e] X.env = (false, eval e X.env) :: starEach [] X.env := by rfl)
    (hpl : (backTo pos (starEach [] X.env)).any (·.1) = false := by rfl) : PE X (.Call (.Name nm p) [e] [] pos) (tOne C f j) := by
  obtain ⟨fa, fd, N, F, b, sb⟩ := O.ini
  refine PE.imp (pe_err N F hR hg O.gl b pass0 (pa_cons he pa_nil hs) hdb hs hpl) fun σ H Q z => ?_
  obtain ⟨v, hv, q⟩ := z
  refine ⟨v, hv, Nat.le_of_ble_eq_true rfl, fun a ha => ⟨a, v, rfl, upd_same, fun d hd hda => ⟨rfl, ?_⟩⟩⟩
  obtain ⟨m1, m2⟩ := made1 (f := f) (v := v) ha hd hda
  exact q a _ m1 ha m2
theorem pe_oneK (O : One X.prog X.w X.K X.mg X.base nm f C) (hR : Room 2 X.A) (hg : Gl X nm) (he : PE X e (tVar j)) (hdb : (nm == ("__debug__" : Str)) = false := by decide)
    (hall : (backToKw pos (keywordEach [⟨some f, e, k1⟩] X.env)).all (·.1.isSome) = true := by rfl) (hks : (backToKw pos (keywordEach [⟨some f, e, k1⟩] X.env)).filterMap (·.1) = [f] := by rfl)
    (hpl : ((backTo pos (starEach [] X.env)).any (·.1) || (backToKw pos (keywordEach [⟨some f, e, k1⟩] X.env)).any (·.1.isNone)) = false := by rfl) : PE X (.Call (.Name nm p) [] [⟨some f, e, k1⟩] pos) (tOne C f j) := by
  obtain ⟨fa, fd, N, F, b, sb⟩ := O.ini
  refine PE.imp (pe_errK N F hR hg O.gl sb pass0 (pk_cons he pk_nil) hall hks hdb hpl) fun σ H Q z => ?_
  obtain ⟨v, hv, q⟩ := z
  refine ⟨v, hv, rfl, fun a ha => ⟨a, v, rfl, upd_same, fun d hd hda => ⟨rfl, ?_⟩⟩⟩
  obtain ⟨m1, m2⟩ := made1 (f := f) (v := v) ha hd hda
  exact q a _ m1 ha m2
theorem pe_two (O : Two X.prog X.w X.K X.mg X.base nm f g C) (hR : Room 2 X.A) (hg : Gl X nm) (he : PE X e (tVar i)) (he2 : PE X e2 (tVar j)) (hdb : (nm == ("__debug__" : Str)) = false := by decide) (hs : starEach [e, e2] X.env = (false, eval e X.env) :: starEach [e2] X.env := by rfl)
    (hs2 : starEach [e2] X.env = (false, eval e2 X.env) :: starEach [] X.env := by rfl) (hpl : (backTo pos (starEach [e2] X.env)).any (·.1) = false := by rfl) : PE X (.Call (.Name nm p) [e, e2] [] pos) (tTwo C f g i j) := by
  obtain ⟨fa, fd, N, F, b, sb⟩ := O.ini
  refine PE.imp (pe_err N F hR hg O.gl b pass0 (pa_cons he (pa_cons he2 pa_nil hs2) hs) hdb hs hpl) fun σ H Q z => ?_
  obtain ⟨v, u, hv, hu, q⟩ := z
  refine ⟨v, hv, u, hu, Nat.le_of_ble_eq_true rfl, fun a ha => ⟨a, v, u, rfl, upd_same, fun d hd hda => ⟨rfl, ?_⟩⟩⟩
  obtain ⟨m1, m2⟩ := made2 (f := f) (g := g) (v := v) (u := u) ha hd hda
  exact q a _ m1 ha m2
theorem pe_twoK (O : Two X.prog X.w X.K X.mg X.base nm f g C) (hR : Room 2 X.A) (hg : Gl X nm) (he : PE X e (tVar i)) (he2 : PE X e2 (tVar j)) (hdb : (nm == ("__debug__" : Str)) = false := by decide)
    (hall : (backToKw pos (keywordEach [⟨some g, e2, k1⟩, ⟨some f, e, k2⟩] X.env)).all (·.1.isSome) = true := by rfl) (hks : (backToKw pos (keywordEach [⟨some g, e2, k1⟩, ⟨some f, e, k2⟩] X.env)).filterMap (·.1) = [g, f] := by rfl)
    (hpl : ((backTo pos (starEach [] X.env)).any (·.1) || (backToKw pos (keywordEach [⟨some g, e2, k1⟩, ⟨some f, e, k2⟩] X.env)).any (·.1.isNone)) = false := by rfl) : PE X (.Call (.Name nm p) [] [⟨some g, e2, k1⟩, ⟨some f, e, k2⟩] pos) (tTwo C f g i j) := by
  obtain ⟨fa, fd, N, F, b, sb⟩ := O.ini
  refine PE.imp (pe_errK N F hR hg O.gl sb pass0 (pk_cons he2 (pk_cons he pk_nil)) hall hks hdb hpl) fun σ H Q z => ?_
  obtain ⟨v, u, hv, hu, q⟩ := z
  refine ⟨u, hu, v, hv, rfl, fun a ha => ⟨a, v, u, rfl, upd_same, fun d hd hda => ⟨rfl, ?_⟩⟩⟩
  obtain ⟨m1, m2⟩ := made2 (f := f) (g := g) (v := v) (u := u) ha hd hda
  exact q a _ m1 ha m2
end
/-! ### a row of such: instances of Cs with the field f holding v -/
abbrev Er (H : Hp) (f : Str) (v : V) (x : V) (C : Addr) : Prop := ∃ a, x = .ref a ∧ ErrAt H a C [(f, v)]
abbrev Errs (H : Hp) (f : Str) (v : V) (xs : List V) (Cs : List Addr) : Prop := Paired (Er H f v) xs Cs
theorem Errs.keep {H H' : Hp} {f : Str} {v : V} {xs : List V} {Cs : List Addr} (h : Errs H f v xs Cs) (s : Same H H') : Errs H' f v xs Cs :=
  Paired.mapP h fun x C ⟨a, e, k⟩ => ⟨a, e, k.keep s⟩
theorem Errs.app {H : Hp} {f : Str} {v : V} : ∀ {xs : List V} {Cs : List Addr} {ys : List V} {Ds : List Addr}, Errs H f v xs Cs → Errs H f v ys Ds → Errs H f v (xs ++ ys) (Cs ++ Ds)
  | _, _, _, _, .nil, h => h
  | _, _, _, _, .cons r t, h => .cons r (Errs.app t h)
def tOnes (f : Str) (j : Nat) (Cs : List Addr) : TA := fun σ H Q => ∃ v, σ[j]? = some (some v) ∧ ∀ xs H', Same H H' → Errs H' f v xs Cs → Q xs H'
theorem po_nil1 {X : Cx} {f : Str} {j : Nat} : PA X [] (tOnes f j []) := PA.imp pa_nil fun σ H Q ⟨v, _, q⟩ => q [] H same_rfl .nil
theorem po_cons1 {X : Cx} {f : Str} {j : Nat} {C : Addr} {Cs : List Addr} {e : Expr} {es : List Expr} (he : PE X e (tOne C f j)) (hr : PA X es (tOnes f j Cs)) (hs : starEach (e :: es) X.env = (false, eval e X.env) :: starEach es X.env := by rfl) :
    PA X (e :: es) (tOnes f j (C :: Cs)) :=
  PA.imp (pa_cons he hr hs) fun σ H Q ⟨v, hv, q⟩ => ⟨v, hv, fun a H1 s1 n1 e1 => ⟨v, hv, fun xs H2 s2 e2 => q _ H2 (s1.trans s2) (.cons ⟨a, rfl, e1.keep s2⟩ e2)⟩⟩
/-! ### isinstance asked of one name, for a row of classes -/
def IsAt (K : PySem.W.Frag) (H : Hp) (x : V) (C : Addr) : Prop := ∃ a, x = .ref a ∧ XC K C ∧ ((∃ fs, ErrAt H a C fs) ∨ H a = some (ExO (.ref C) a))
theorem IsAt.keep {K : PySem.W.Frag} {H H' : Hp} {x : V} {C : Addr} (h : IsAt K H x C) (s : Same H H') : IsAt K H' x C := by
  obtain ⟨a, e, T, q⟩ := h
  refine ⟨a, e, T, ?_⟩
  rcases q with ⟨fs, q⟩ | q
  · exact .inl ⟨fs, q.keep s⟩
  · exact .inr (s _ _ q)
def tIss (K : PySem.W.Frag) (j : Nat) (us : List Value) : TA := fun σ H Q => ∃ (x : V) (C : Addr) (bs : List Bool), σ[j]? = some (some x) ∧ IsAt K H x C ∧ us.map (PySem.W.kitOne K (.ref C)) = bs.map some ∧ Q (bs.map V.bl) H
theorem pi_nil1 {X : Cx} {j : Nat} : PA X [] (tIss X.K j []) := PA.imp pa_nil fun σ H Q ⟨x, C, bs, _, _, e, q⟩ => by
  cases bs with
  | nil => exact q
  | cons b r => cases e
theorem pi_cons1 {X : Cx} {j : Nat} {e c : Expr} {cv : V} {u : Value} {us : List Value} {es : List Expr} {p pos : Pos} (hg : Gl X "isinstance") (hm : X.mg "isinstance" = none) (he : PE X e (tVar j)) (hc : PE X c (tC cv)) (k : ClsV cv u) (hr : PA X es (tIss X.K j us))
    (hs : starEach (.Call (.Name "isinstance" p) [e, c] [] pos :: es) X.env = (false, eval (.Call (.Name "isinstance" p) [e, c] [] pos) X.env) :: starEach es X.env := by rfl) (hs1 : starEach [e, c] X.env = (false, eval e X.env) :: starEach [c] X.env := by rfl) (hs2 : starEach [c] X.env = (false, eval c X.env) :: starEach [] X.env := by rfl) (hpl : (backTo pos (starEach [c] X.env)).any (·.1) = false := by rfl) :
    PA X (.Call (.Name "isinstance" p) [e, c] [] pos :: es) (tIss X.K j (u :: us)) :=
  PA.imp (pa_cons (pe_callB call_isX hg hm boot_isinstance (pa_cons he (pa_cons hc pa_nil hs2) hs1) (by decide) (by decide) hs1 hpl) hr hs) fun σ H Q ⟨x, C, bs, hx, hi, e, q⟩ => by
    cases bs with
    | nil => cases e
    | cons b r =>
      have e1 : PySem.W.kitOne X.K (.ref C) u = some b := (List.cons.inj e).1
      have e2 : us.map (PySem.W.kitOne X.K (.ref C)) = r.map some := (List.cons.inj e).2
      obtain ⟨a, ea, T, z⟩ := hi
      subst ea
      exact ⟨.ref a, hx, a, C, cv, u, b, rfl, k, T, z, e1, .ref a, C, r, hx, ⟨a, rfl, T, z⟩, e2, q⟩
end Gd
set_option Elab.async false
set_option linter.all false
set_option maxRecDepth 100000
set_option maxHeartbeats 4000000
namespace Gd
open PySem PySem.Spec PyProof.Rows L2
theorem yes_of {σ : L2.St} {H : Hp} {Q : Bool → Hp → Prop} (h : Q true H) : tYes σ H Q := h
theorem yes_if {σ : L2.St} {H : Hp} {A B : Hp → Prop} (h : A H) : tYes σ H (fun b H3 => if b = true then A H3 else B H3) := yes_of (iteT (A := A H) (B := B H) h)
/-- a comprehension over a list: one name as the target, no test -/
theorem lc_listY {K : PySem.W.Frag} {a : Addr} {xs : List V} {j : Nat} {te : TE} {vs : List Nat} {σ : L2.St} {H1 : Hp} {D : Addr} {Qd : Hp → Prop} (Pv : Nat → Hp → Prop) (hw : ∀ v, wipe ((wipe σ vs).set j (some v)) vs = wipe σ vs) (h0 : Pv 0 (upd H1 D (.lst []))) (hl : ∀ i H, i ≤ xs.length → Pv i H → SqL K H a xs)
    (hs : ∀ (i : Nat) (x : V) (H : Hp), xs[i]? = some x → Pv i H → te ((wipe σ vs).set j (some x)) H fun y H4 => ∃ acc, H4 D = some (.lst acc) ∧ acc.length < sizeLine ∧ Pv (i + 1) (upd H4 D (.lst (acc ++ [y]))))
    (hd : ∀ H, Pv xs.length H → Qd H) : ∃ W : Nat → Nat → Hp → Prop, (∃ m, W 0 m (upd H1 D (.lst []))) ∧ ∀ i m H, W i m H →
      ((Itl K a).stop i H ∧ Qd H) ∨ ((Itl K a).go i H ∧ ∃ Nx : Hp → Prop, (∀ H', Nx H' → ∃ m', m' < m ∧ W (i + 1) m' H') ∧ ∀ v H', (Itl K a).yld i H v H' → gName j v (wipe σ vs) H' fun τ H2 => wipe τ vs = wipe σ vs ∧ tYes τ H2 fun b H3 =>
        if b = true then te τ H3 fun y H4 => ∃ acc, H4 D = some (.lst acc) ∧ acc.length < sizeLine ∧ Nx (upd H4 D (.lst (acc ++ [y]))) else Nx H3) :=
  lc_list Pv h0 hl (fun i x H e p => ⟨hw _, yes_if (hs i x H e p)⟩) hd
/-- the same, each element worth the same thing y, what stood stands -/
theorem lc_same {K : PySem.W.Frag} {a : Addr} {xs : List V} {y : V} {j : Nat} {te : TE} {vs : List Nat} {σ : L2.St} {H1 : Hp} {D : Addr} {Qd : Hp → Prop} (hw : ∀ v, wipe ((wipe σ vs).set j (some v)) vs = wipe σ vs) (nD : H1 D = none) (hx : SqL K H1 a xs) (hz : xs.length ≤ 1000)
    (hs : ∀ (i : Nat) (x : V) (H : Hp), xs[i]? = some x → Same H1 H → ∀ q : VK, (∀ H4, Same H H4 → q y H4) → te ((wipe σ vs).set j (some x)) H q)
    (hd : ∀ H, Same H1 H → H D = some (.lst (List.replicate xs.length y)) → Qd H) : ∃ W : Nat → Nat → Hp → Prop, (∃ m, W 0 m (upd H1 D (.lst []))) ∧ ∀ i m H, W i m H →
      ((Itl K a).stop i H ∧ Qd H) ∨ ((Itl K a).go i H ∧ ∃ Nx : Hp → Prop, (∀ H', Nx H' → ∃ m', m' < m ∧ W (i + 1) m' H') ∧ ∀ v H', (Itl K a).yld i H v H' → gName j v (wipe σ vs) H' fun τ H2 => wipe τ vs = wipe σ vs ∧ tYes τ H2 fun b H3 =>
        if b = true then te τ H3 fun y H4 => ∃ acc, H4 D = some (.lst acc) ∧ acc.length < sizeLine ∧ Nx (upd H4 D (.lst (acc ++ [y]))) else Nx H3) := by
  refine lc_listY (fun i H => i ≤ xs.length ∧ Same H1 H ∧ H D = some (.lst (List.replicate i y))) hw ⟨Nat.zero_le _, fun b o e => ?_, upd_same⟩ (fun i H _ p => p.2.1.seq hx) ?_ fun H p => hd H p.2.1 p.2.2
  · rw [upd_ne (ne_of_none e nD)]
    exact e
  · rintro i x H e ⟨hi, s, eD⟩
    have hlt : i < xs.length := (List.getElem?_eq_some_iff.mp e).1
    refine hs i x H e s _ fun H4 s4 => ⟨_, s4 _ _ eD, ?_, hlt, fun b o e2 => ?_, ?_⟩
    · rw [List.length_replicate]
      exact small1000 (by omega)
    · rw [upd_ne (ne_of_none e2 nD)]
      exact s4 _ _ (s _ _ e2)
    · rw [upd_same, List.replicate_succ']
/-! ### how long a list is shown -/
theorem textFrom_le : ∀ (ts : List Str) (k : Nat) (acc : Str) (b : Nat), (∀ t ∈ ts, t.length ≤ b) → (textFrom k acc ts).length ≤ acc.length + ts.length * (b + 2)
  | [], k, acc, b, _ => by show acc.length ≤ _; omega
  | t :: r, k, acc, b, h => by
    have ih := textFrom_le r (k + 1) (acc ++ (if k > 0 then ", " else "" : String) ++ t) b fun x hx => h x (List.mem_cons_of_mem _ hx)
    have ht := h t (List.mem_cons_self ..)
    have e : (acc ++ ((if k > 0 then ", " else "" : String) : Str) ++ t).length ≤ acc.length + 2 + t.length := by
      rw [Str.length_append, Str.length_append]
      have : (((if k > 0 then ", " else "" : String) : Str)).length ≤ 2 := by split <;> decide +kernel
      omega
    show (textFrom (k + 1) (acc ++ (if k > 0 then ", " else "" : String) ++ t) r).length ≤ _
    rw [List.length_cons, Nat.add_mul, Nat.one_mul]
    omega
theorem listText_le {ts : List Str} {b : Nat} (h : ∀ t ∈ ts, t.length ≤ b) : (listText ts).length ≤ 2 + ts.length * (b + 2) := by
  have := textFrom_le ts 0 "[" b h
  have e1 : (Str.ofString "[").length = 1 := by decide +kernel
  have e2 : (Str.ofString "]").length = 1 := by decide +kernel
  show (textFrom 0 "[" ts ++ "]").length ≤ _
  rw [Str.length_append]
  have e3 : (textFrom 0 (Str.ofString "[") ts).length ≤ (Str.ofString "[").length + ts.length * (b + 2) := this
  show (textFrom 0 (Str.ofString "[") ts).length + (Str.ofString "]").length ≤ _
  omega
/-- a thing that is shown in few signs -/
structure Sh (K : PySem.W.Frag) (H : Hp) (v : V) (d : PyData) : Prop where
  at_ : Dp K H v d
  sh : d.showable = true
  nd : d.hasDict = false
  dp : d.depth ≤ 20
  ln : d.shown.length ≤ 100
theorem shownAll_map : ∀ ds : List PyData, PyData.shownAll ds = ds.map PyData.shown
  | [] => rfl
  | d :: r => by rw [PyData.shownAll, shownAll_map r]; rfl
theorem sh_list {ds : List PyData} (h : ∀ d ∈ ds, d.showable = true ∧ d.hasDict = false ∧ d.depth ≤ 20 ∧ d.shown.length ≤ 100) (hl : ds.length ≤ 100) :
    (PyData.list ds).showable = true ∧ (PyData.list ds).hasDict = false ∧ (PyData.list ds).depth ≤ 60 ∧ (PyData.list ds).shown.length ≤ sizeLine := by
  have h1 : ∀ ds : List PyData, (∀ d ∈ ds, d.showable = true) → PyData.showableAll ds = true := by
    intro ds h
    induction ds with
    | nil => rfl
    | cons d r ih => rw [PyData.showableAll, h d (List.mem_cons_self ..), ih fun x hx => h x (List.mem_cons_of_mem _ hx)]; rfl
  have h2 : ∀ ds : List PyData, (∀ d ∈ ds, d.hasDict = false) → PyData.hasDictAll ds = false := by
    intro ds h
    induction ds with
    | nil => rfl
    | cons d r ih => rw [PyData.hasDictAll, h d (List.mem_cons_self ..), ih fun x hx => h x (List.mem_cons_of_mem _ hx)]; rfl
  have h3 : ∀ ds : List PyData, (∀ d ∈ ds, d.depth ≤ 20) → PyData.depthAll ds ≤ 21 := by
    intro ds h
    induction ds with
    | nil => show 0 ≤ _; omega
    | cons d r ih =>
      have a := h d (List.mem_cons_self ..)
      have b := ih fun x hx => h x (List.mem_cons_of_mem _ hx)
      rw [PyData.depthAll]
      omega
  refine ⟨?_, ?_, ?_, ?_⟩
  · rw [PyData.showable]
    exact h1 ds fun d hd => (h d hd).1
  · rw [PyData.hasDict]
    exact h2 ds fun d hd => (h d hd).2.1
  · have := h3 ds fun d hd => (h d hd).2.2.1
    rw [PyData.depth]
    omega
  · rw [PyData.shown]
    have := listText_le (ts := PyData.shownAll ds) (b := 100) (by
      rw [shownAll_map]
      intro t ht
      obtain ⟨d, hd, rfl⟩ := List.mem_map.mp ht
      exact (h d hd).2.2.2)
    rw [shownAll_map, List.length_map] at this
    have z : ds.length * 102 ≤ 100 * 102 := Nat.mul_le_mul_right _ hl
    have w := sizeLine_eq
    rw [shownAll_map]
    omega
theorem sh_rep {K : PySem.W.Frag} {H : Hp} {v : V} {d : PyData} (S : Sh K H v d) : ∀ n, DpAll K H (List.replicate n v) (List.replicate n d)
  | 0 => .nil
  | n + 1 => .cons S.at_ (sh_rep S n)
end Gd
set_option Elab.async false
set_option linter.all false
set_option maxRecDepth 100000
set_option maxHeartbeats 4000000
/-! comprehensions over a tuple, a list: one name as the target, a test, each element's answer and value known -/
namespace Gd
open PySem PySem.Spec PyProof.Rows L2
theorem asTE {X : Cx} {e : Expr} {te te' : TE} (h : PE X e te') (q : te' = te) : PE X e te := q ▸ h
def picked (zs : List (Bool × V)) : List V := (zs.filter (·.1)).map (·.2)
theorem picked_take {zs : List (Bool × V)} {i : Nat} {z : Bool × V} (h : zs[i]? = some z) : picked (zs.take (i + 1)) = picked (zs.take i) ++ (if z.1 = true then [z.2] else []) := by
  unfold picked
  rw [List.take_add_one, h, List.filter_append, List.map_append]
  congr 1
  cases hb : z.1 <;> simp [hb]
theorem picked_len (zs : List (Bool × V)) : (picked zs).length ≤ zs.length := by
  unfold picked
  rw [List.length_map]
  exact List.length_filter_le ..
theorem picked_all {zs : List V} : picked (zs.map fun z => (true, z)) = zs := by
  unfold picked
  induction zs with
  | nil => rfl
  | cons z r ih => simpa using ih
section
variable {K : PySem.W.Frag} {a : Addr} {xs : List V} {zs : List (Bool × V)} {j : Nat} {tt : TT} {te : TE} {vs : List Nat} {σ : L2.St} {H1 : Hp} {D : Addr} {Qd : Hp → Prop}
theorem sel_step (hw : ∀ v, wipe ((wipe σ vs).set j (some v)) vs = wipe σ vs) (nD : H1 D = none) (hz : xs.length ≤ 1000) (hl : zs.length = xs.length)
    (hs : ∀ (i : Nat) (x : V) (z : Bool × V) (H : Hp), xs[i]? = some x → zs[i]? = some z → Same H1 H → ∀ q : Bool → Hp → Prop, (∀ H3, Same H H3 → q z.1 H3) → tt ((wipe σ vs).set j (some x)) H q)
    (he : ∀ (i : Nat) (x : V) (z : Bool × V) (H : Hp), xs[i]? = some x → zs[i]? = some z → z.1 = true → Same H1 H → ∀ q : VK, (∀ H4, Same H H4 → q z.2 H4) → te ((wipe σ vs).set j (some x)) H q)
    (i : Nat) (x : V) (H : Hp) (hx : xs[i]? = some x) (p : i ≤ xs.length ∧ Same H1 H ∧ H D = some (.lst (picked (zs.take i)))) :
    gName j x (wipe σ vs) H fun τ H2 => wipe τ vs = wipe σ vs ∧ tt τ H2 fun b H3 =>
      if b = true then te τ H3 fun y H4 => ∃ acc, H4 D = some (.lst acc) ∧ acc.length < sizeLine ∧ (fun i H => i ≤ xs.length ∧ Same H1 H ∧ H D = some (.lst (picked (zs.take i)))) (i + 1) (upd H4 D (.lst (acc ++ [y])))
      else (fun i H => i ≤ xs.length ∧ Same H1 H ∧ H D = some (.lst (picked (zs.take i)))) (i + 1) H3 := by
  obtain ⟨hi, s, eD⟩ := p
  have hlt : i < xs.length := (List.getElem?_eq_some_iff.mp hx).1
  obtain ⟨z, hzi⟩ : ∃ z, zs[i]? = some z := ⟨_, List.getElem?_eq_getElem (by omega)⟩
  have pt := picked_take hzi
  refine ⟨hw _, hs i x z H hx hzi s _ fun H3 s3 => ?_⟩
  cases hb : z.1 with
  | true =>
    rw [hb] at pt
    refine iteT (he i x z H3 hx hzi hb (s.trans s3) _ fun H4 s4 => ⟨_, s4 _ _ (s3 _ _ eD), ?_, hlt, fun b o e2 => ?_, ?_⟩)
    · have := picked_len (zs.take i)
      rw [List.length_take] at this
      exact small1000 (by omega)
    · rw [upd_ne (ne_of_none e2 nD)]
      exact s4 _ _ (s3 _ _ (s _ _ e2))
    · rw [upd_same, pt]
      rfl
  | false =>
    rw [hb] at pt
    refine iteF ⟨hlt, s.trans s3, ?_⟩
    rw [pt]
    show H3 D = some (.lst (picked (zs.take i) ++ []))
    rw [List.append_nil]
    exact s3 _ _ eD
theorem lc_selT (hw : ∀ v, wipe ((wipe σ vs).set j (some v)) vs = wipe σ vs) (nD : H1 D = none) (hx : SqT K H1 a xs) (hz : xs.length ≤ 1000) (hl : zs.length = xs.length)
    (hs : ∀ (i : Nat) (x : V) (z : Bool × V) (H : Hp), xs[i]? = some x → zs[i]? = some z → Same H1 H → ∀ q : Bool → Hp → Prop, (∀ H3, Same H H3 → q z.1 H3) → tt ((wipe σ vs).set j (some x)) H q)
    (he : ∀ (i : Nat) (x : V) (z : Bool × V) (H : Hp), xs[i]? = some x → zs[i]? = some z → z.1 = true → Same H1 H → ∀ q : VK, (∀ H4, Same H H4 → q z.2 H4) → te ((wipe σ vs).set j (some x)) H q)
    (hd : ∀ H, Same H1 H → H D = some (.lst (picked zs)) → Qd H) : ∃ W : Nat → Nat → Hp → Prop, (∃ m, W 0 m (upd H1 D (.lst []))) ∧ ∀ i m H, W i m H →
      ((Itt K a).stop i H ∧ Qd H) ∨ ((Itt K a).go i H ∧ ∃ Nx : Hp → Prop, (∀ H', Nx H' → ∃ m', m' < m ∧ W (i + 1) m' H') ∧ ∀ v H', (Itt K a).yld i H v H' → gName j v (wipe σ vs) H' fun τ H2 => wipe τ vs = wipe σ vs ∧ tt τ H2 fun b H3 =>
        if b = true then te τ H3 fun y H4 => ∃ acc, H4 D = some (.lst acc) ∧ acc.length < sizeLine ∧ Nx (upd H4 D (.lst (acc ++ [y]))) else Nx H3) :=
  lc_tup (fun i H => i ≤ xs.length ∧ Same H1 H ∧ H D = some (.lst (picked (zs.take i)))) ⟨Nat.zero_le _, fun b o e => by rw [upd_ne (ne_of_none e nD)]; exact e, upd_same⟩ (fun i H _ p => SqT.ext hx p.2.1)
    (sel_step hw nD hz hl hs he) fun H p => hd H p.2.1 (by have := p.2.2; rw [← hl, List.take_length] at this; exact this)
theorem lc_selL (hw : ∀ v, wipe ((wipe σ vs).set j (some v)) vs = wipe σ vs) (nD : H1 D = none) (hx : SqL K H1 a xs) (hz : xs.length ≤ 1000) (hl : zs.length = xs.length)
    (hs : ∀ (i : Nat) (x : V) (z : Bool × V) (H : Hp), xs[i]? = some x → zs[i]? = some z → Same H1 H → ∀ q : Bool → Hp → Prop, (∀ H3, Same H H3 → q z.1 H3) → tt ((wipe σ vs).set j (some x)) H q)
    (he : ∀ (i : Nat) (x : V) (z : Bool × V) (H : Hp), xs[i]? = some x → zs[i]? = some z → z.1 = true → Same H1 H → ∀ q : VK, (∀ H4, Same H H4 → q z.2 H4) → te ((wipe σ vs).set j (some x)) H q)
    (hd : ∀ H, Same H1 H → H D = some (.lst (picked zs)) → Qd H) : ∃ W : Nat → Nat → Hp → Prop, (∃ m, W 0 m (upd H1 D (.lst []))) ∧ ∀ i m H, W i m H →
      ((Itl K a).stop i H ∧ Qd H) ∨ ((Itl K a).go i H ∧ ∃ Nx : Hp → Prop, (∀ H', Nx H' → ∃ m', m' < m ∧ W (i + 1) m' H') ∧ ∀ v H', (Itl K a).yld i H v H' → gName j v (wipe σ vs) H' fun τ H2 => wipe τ vs = wipe σ vs ∧ tt τ H2 fun b H3 =>
        if b = true then te τ H3 fun y H4 => ∃ acc, H4 D = some (.lst acc) ∧ acc.length < sizeLine ∧ Nx (upd H4 D (.lst (acc ++ [y]))) else Nx H3) :=
  lc_list (fun i H => i ≤ xs.length ∧ Same H1 H ∧ H D = some (.lst (picked (zs.take i)))) ⟨Nat.zero_le _, fun b o e => by rw [upd_ne (ne_of_none e nD)]; exact e, upd_same⟩ (fun i H _ p => SqL.ext hx p.2.1)
    (sel_step hw nD hz hl hs he) fun H p => hd H p.2.1 (by have := p.2.2; rw [← hl, List.take_length] at this; exact this)
/-- without a test -/
theorem lc_funT {ys : List V} (hw : ∀ v, wipe ((wipe σ vs).set j (some v)) vs = wipe σ vs) (nD : H1 D = none) (hx : SqT K H1 a xs) (hz : xs.length ≤ 1000) (hl : ys.length = xs.length)
    (he : ∀ (i : Nat) (x y : V) (H : Hp), xs[i]? = some x → ys[i]? = some y → Same H1 H → ∀ q : VK, (∀ H4, Same H H4 → q y H4) → te ((wipe σ vs).set j (some x)) H q)
    (hd : ∀ H, Same H1 H → H D = some (.lst ys) → Qd H) : ∃ W : Nat → Nat → Hp → Prop, (∃ m, W 0 m (upd H1 D (.lst []))) ∧ ∀ i m H, W i m H →
      ((Itt K a).stop i H ∧ Qd H) ∨ ((Itt K a).go i H ∧ ∃ Nx : Hp → Prop, (∀ H', Nx H' → ∃ m', m' < m ∧ W (i + 1) m' H') ∧ ∀ v H', (Itt K a).yld i H v H' → gName j v (wipe σ vs) H' fun τ H2 => wipe τ vs = wipe σ vs ∧ tYes τ H2 fun b H3 =>
        if b = true then te τ H3 fun y H4 => ∃ acc, H4 D = some (.lst acc) ∧ acc.length < sizeLine ∧ Nx (upd H4 D (.lst (acc ++ [y]))) else Nx H3) := by
  refine lc_selT (zs := ys.map fun y => (true, y)) hw nD hx hz (by rw [List.length_map, hl]) (fun i x z H _ e _ q k => ?_) (fun i x z H ex e _ s q k => ?_) fun H s e => hd H s (by rw [picked_all] at e; exact e)
  · rw [List.getElem?_map] at e
    cases ey : ys[i]? with
    | none => rw [ey] at e; cases e
    | some y =>
      rw [ey] at e
      cases e
      exact k H fun _ _ e => e
  · rw [List.getElem?_map] at e
    cases ey : ys[i]? with
    | none => rw [ey] at e; cases e
    | some y =>
      rw [ey] at e
      cases e
      exact he i x y H ex ey s q k
theorem lc_funL {ys : List V} (hw : ∀ v, wipe ((wipe σ vs).set j (some v)) vs = wipe σ vs) (nD : H1 D = none) (hx : SqL K H1 a xs) (hz : xs.length ≤ 1000) (hl : ys.length = xs.length)
    (he : ∀ (i : Nat) (x y : V) (H : Hp), xs[i]? = some x → ys[i]? = some y → Same H1 H → ∀ q : VK, (∀ H4, Same H H4 → q y H4) → te ((wipe σ vs).set j (some x)) H q)
    (hd : ∀ H, Same H1 H → H D = some (.lst ys) → Qd H) : ∃ W : Nat → Nat → Hp → Prop, (∃ m, W 0 m (upd H1 D (.lst []))) ∧ ∀ i m H, W i m H →
      ((Itl K a).stop i H ∧ Qd H) ∨ ((Itl K a).go i H ∧ ∃ Nx : Hp → Prop, (∀ H', Nx H' → ∃ m', m' < m ∧ W (i + 1) m' H') ∧ ∀ v H', (Itl K a).yld i H v H' → gName j v (wipe σ vs) H' fun τ H2 => wipe τ vs = wipe σ vs ∧ tYes τ H2 fun b H3 =>
        if b = true then te τ H3 fun y H4 => ∃ acc, H4 D = some (.lst acc) ∧ acc.length < sizeLine ∧ Nx (upd H4 D (.lst (acc ++ [y]))) else Nx H3) := by
  refine lc_selL (zs := ys.map fun y => (true, y)) hw nD hx hz (by rw [List.length_map, hl]) (fun i x z H _ e _ q k => ?_) (fun i x z H ex e _ s q k => ?_) fun H s e => hd H s (by rw [picked_all] at e; exact e)
  · rw [List.getElem?_map] at e
    cases ey : ys[i]? with
    | none => rw [ey] at e; cases e
    | some y =>
      rw [ey] at e
      cases e
      exact k H fun _ _ e => e
  · rw [List.getElem?_map] at e
    cases ey : ys[i]? with
    | none => rw [ey] at e; cases e
    | some y =>
      rw [ey] at e
      cases e
      exact he i x y H ex ey s q k
end
end Gd
set_option Elab.async false
set_option linter.all false
set_option maxRecDepth 100000
set_option maxHeartbeats 4000000
/-! a tuple that tuple(..) has made, its object known: its methods may be called -/
namespace Gd
open PySem PySem.Spec PyProof.Rows L2
def FzT (H : Hp) (a : Addr) (xs : List V) : Prop := ∃ o : Obj, H a = some (.frz o (.tup xs)) ∧ o.cls = .type "tuple" ∧ o.dict = none
theorem FzT.sq {K : PySem.W.Frag} {H : Hp} {a : Addr} {xs : List V} (h : FzT H a xs) : SqT K H a xs := by
  obtain ⟨o, e, _⟩ := h
  exact .inl (.inr ⟨o, e⟩)
theorem FzT.keep {H H' : Hp} {a : Addr} {xs : List V} (h : FzT H a xs) (s : Same H H') : FzT H' a xs := by
  obtain ⟨o, e, r⟩ := h
  exact ⟨o, s _ _ e, r⟩
theorem FzT.ty {K : PySem.W.Frag} {H : Hp} {a : Addr} {xs : List V} (h : FzT H a xs) : TyX K H (.ref a) (.type "tuple") := by
  obtain ⟨o, e, r⟩ := h
  exact .fTuple e
section
variable {X : Cx} {ta : TE} {a : Expr}
/-- tuple(x), x a list: a new tuple, known -/
def kTupF (K : PySem.W.Frag) (x : V) (H : Hp) (Q : VK) : Prop := ∃ p xs, x = .ref p ∧ SqL K H p xs ∧ ∀ q H', H q = none → Same H H' → FzT H' q xs → Q (.ref q) H'
theorem rl_tupF (pins : List (Addr × Obj)) (s : Shared) (σ : L2.St) (H : Hp) (x : V) (v : Value) (Q : VK) (I : Inv X pins σ H s) (r : RelV x v) (h : kTupF X.K x H Q) : wpAny (model X.prog X.w) X.A (call (.type "tuple") [v]) (EP X pins σ Q) X.xe s := by
  obtain ⟨p, xs, rfl, hs, q⟩ := h
  obtain rfl : v = .ref p := r
  obtain ⟨its, rv, pl, hz⟩ := I.list hs
  refine call_tuple_list pl.isList (fun h' hk => ?_) (by rw [List.size_toArray, ← rv.length]; exact hz)
  have J : Inv X pins σ H { s with heap := h' } := I.kept (t' := s.toks) hk
  have hf : H h'.objs.size = none := J.hok.fresh (Nat.le_refl _)
  have J2 : Inv X pins σ (upd H h'.objs.size (.frz { cls := .type "tuple", data := .seq its.toArray } (.tup xs))) { s with heap := h'.push { cls := .type "tuple", data := .seq its.toArray } } :=
    J.laid (t' := s.toks) (fun b o e => Heap.get?_push_of_some _ e) (Nat.le_refl _) ⟨Heap.get?_push_size _ rfl, hz, its, rv, IsTup.new _ _⟩
  exact ⟨.ref h'.objs.size, _, J2, rfl, q _ _ hf (fun b o e => by rw [upd_ne (ne_of_none e hf)]; exact e) ⟨_, upd_same, rfl, rfl⟩⟩
theorem pe_tupF {p pos : Pos} (hg : Gl X "tuple") (hm : X.mg "tuple" = none) (ha : PE X a ta) (na : starEach [a] X.env = (false, eval a X.env) :: starEach [] X.env := by rfl) : PE X (.Call (.Name "tuple" p) [a] [] pos) (tThen ta (kTupF X.K)) :=
  ⟨fun pins s σ H Q I h => Call_ (ld_blt I hg hm boot_tuple (PyProof.Rows.callWith_type1 (one_arg ha I h (fun v s2 x H2 I2 r q => rl_tupF pins s2 σ H2 x v Q I2 r q) na) na))⟩
/-- t.m(e, ..), t such a tuple -/
def tBMf (r : V → List V → Hp → VK → Prop) (to : TE) (t : TA) : TE := fun σ H Q => to σ H fun x H1 => (∃ b xs, x = .ref b ∧ FzT H1 b xs) ∧ t σ H1 fun xs H2 => r x xs H2 Q
theorem pe_bmf {o e : Expr} {es : List Expr} {to : TE} {t : TA} {name : Str} {apos cpos : Pos} {id : String} {r : V → List V → Hp → VK → Prop} (slot : Slot "tuple" name id) (hty : typeOf (.builtin id) = pure (.type "method_descriptor")) (hm : MtR X id r) (ho : PE X o to) (ha : PA X (e :: es) t)
    (hbase : attributeBase o name X.env (eval o X.env) = eval o X.env := by rfl)
    (hfew : ((backTo cpos (starEach (e :: es) X.env)).all (fun x => !x.1) && (backToKw cpos (keywordEach [] X.env)).all (fun x => x.1.isSome) && decide ((e :: es).length + ([] : List Keyword).length + (if ([] : List Keyword).isEmpty then 0 else 1) < 30)) = true := by rfl)
    (hline : (apos.endLine == cpos.line) = true := by rfl) (hs : starEach (e :: es) X.env = (false, eval e X.env) :: starEach es X.env := by rfl) (hplain : (backTo cpos (starEach es X.env)).any (·.1) = false := by rfl) :
    PE X (.Call (.Attribute o name apos) (e :: es) [] cpos) (tBMf r to t) := by
  constructor
  intro pins s σ H Q I h
  refine wpAny_Call_method_late hbase hfew hline rfl (thn (ho.run pins s σ H _ I h) fun v s1 z => ?_)
  obtain ⟨x, H1, I1, r1, ⟨b, xs, ex, ob, e1, c1, d1⟩, q1⟩ := z
  subst ex
  have ev : v = Value.ref b := r1
  subst ev
  obtain ⟨g1, _⟩ := I1.hok b _ e1
  refine ⟨"tuple", id, PySem.F.plainAttrs_tuple, slot, hty, ⟨ob, g1, c1⟩, fun a ea => ?_, ?_⟩
  · cases ea
    exact ⟨ob, g1, d1⟩
  have hA := ha.run cpos pins s1 σ H1 _ I1 q1
  rw [hs] at hA ⊢
  refine Calls.callWith_builtin (by show (false || (backTo cpos (starEach es X.env)).any (·.1)) = false; rw [hplain] <;> rfl) (Calls.evalArgs_plain ?_)
  exact thn hA fun us s2 ⟨vs, H2, I2, r2, q2⟩ => hm pins s2 σ H2 (.ref b) vs (.ref b) us Q I2 rfl r2 q2
end
end Gd
set_option Elab.async false
set_option linter.all false
set_option maxRecDepth 100000
set_option maxHeartbeats 4000000
/-! enumerate(t), t a tuple -/
namespace Gd
open PySem PySem.Spec PyProof.Rows L2
/-- the tuple at t, each item in a new pair with its place -/
def Iet (K : PySem.W.Frag) (t : Addr) : It where
  go i H := ∃ (vs : List V) (v : V), SqT K H t vs ∧ vs[i]? = some v
  yld i H y H' := ∃ (p : Addr) (v : V), y = .ref p ∧ H p = none ∧ H' = upd H p (.tup [.int (i : Nat), v]) ∧ ∀ vs, SqT K H t vs → vs[i]? = some v
  stop i H := ∃ vs : List V, SqT K H t vs ∧ vs.length ≤ i
theorem turn_et {P : Program} {w : World} {K : PySem.W.Frag} {es : List Expr} {n : Nat} {ps : Pos} (t e j : Addr) :
    Turn P w K (.Tuple es n ps) (Iet K t) [e, j] e (fun i g => (∃ o, IsEnum g e j ((i : Nat) : Int) o) ∧ g.IsTupleIter j t i ∧ e ≠ j) := by
  refine ⟨List.mem_cons_self .., fun i g st b hb => ?_, fun i g g' st k => ?_, ?_, ?_, fun A i s Q E st q => ?_⟩
  · obtain ⟨⟨o, he⟩, ⟨oj, hj, cj, dj⟩, _⟩ := st
    rcases List.mem_cons.mp hb with rfl | hb
    · exact ⟨_, he, fun v q => nomatch q⟩
    · rw [List.mem_singleton.mp hb]
      exact ⟨oj, hj, fun v q => by rw [dj] at q; cases q⟩
  · obtain ⟨⟨o, he⟩, hj, ne⟩ := st
    exact ⟨⟨o, k e (List.mem_cons_self ..) _ he⟩, hj.at fun o q => k j (by simp) o q, ne⟩
  · intro X hP hw hK hc i pins s σ H E I hf st hg
    subst hP hw hK
    obtain ⟨⟨old, he⟩, hj, ne⟩ := st
    obtain ⟨vs, v, hq, hv⟩ := hg
    obtain ⟨its, rv, ht, _⟩ := I.tuple hq
    obtain ⟨u, hu, ru⟩ := rv.get hv
    have le : e < s.heap.objs.size := Heap.lt_size he
    have lj : j < s.heap.objs.size := by obtain ⟨_, q, _⟩ := hj; exact Heap.lt_size q
    have tup : s.heap.IsTuple t its.toArray := ht
    have nt : e ≠ t := fun q => by
      obtain ⟨o, ho, hcl, _⟩ := tup
      rw [← q, he] at ho
      cases ho
      exact absurd (Value.type.inj hcl) (by decide)
    have njt : t ≠ j := fun q => by
      obtain ⟨o, ho, hcl, _⟩ := tup
      obtain ⟨o2, ho2, hcl2, _⟩ := hj
      rw [q, ho2] at ho
      cases ho
      rw [hcl2] at hcl
      exact absurd (Value.type.inj hcl) (by decide)
    have D := Draws.tuple (prog := X.prog) (w := X.w) (A := X.A.in1) (show X.A.in1.handled = none from I.ok.hd hc) j t njt its.toArray
    have hlt : i < its.toArray.size := by
      have := (List.getElem?_eq_some_iff.mp hu).1
      simpa using this
    refine wpAny_pyNext_enum_itemD D he ⟨hj, tup⟩ hlt ne (by simp [ne, nt]) fun x h1 tk hx out st1 hT hsz hk => ?_
    have ex : x = u := by
      have h2 : its[i]? = some x := by simpa using hx
      rw [hu] at h2
      exact (Option.some.inj h2).symm
    subst ex
    refine ⟨_, rfl, wpAny_letOwnedTupleGo_enum (s := { s with heap := h1, toks := tk + 1 }) out fun h2 he2 sb => ?_⟩
    have T2 : h2.get? s.heap.objs.size = some { cls := .type "tuple", data := .seq #[.int i tk, x] } := (sb.2 _ (Nat.ne_of_gt le)).trans hT
    have new : ObjOk X.prog X.w (upd H s.heap.objs.size (.tup [.int (i : Nat), v])) h2 s.heap.objs.size (.tup [.int (i : Nat), v]) := by
      refine ⟨?_, [.int i tk, x], .cons ⟨_, rfl⟩ (.cons ru .nil), _, T2, rfl, _, rfl⟩
      show 2 ≤ sizeLine
      decide
    have in2 : ∀ b : Addr, b ∈ [e, j] → b = e ∨ b = j := fun b hb => by simpa using hb
    have J : Inv X pins σ (upd H s.heap.objs.size (.tup [.int (i : Nat), v])) { s with heap := h2, toks := tk + 1 } := by
      refine I.turnedNew (ch := [e, j]) (fun b o hb q => ?_) hf (Nat.le_refl _) new
      have n1 : b ≠ e := fun z => hb (by simp [z])
      have n2 : b ≠ j := fun z => hb (by simp [z])
      exact (sb.2 b n1).trans (hk b o n1 n2 q)
    refine ⟨.ref s.heap.objs.size, _, J, rfl, ⟨_, v, rfl, I.hok.fresh (Nat.le_refl _), rfl, fun ys hy => ?_⟩, ⟨⟨x, ?_⟩, st1.1.at fun o q => (sb.2 j (Ne.symm ne)).trans q, ne⟩, fun b hb => ?_⟩
    · rw [I.tuple_inj hy hq]
      exact hv
    · have q : ((i + 1 : Nat) : Int) = (i : Int) + 1 := by omega
      rw [q]
      exact he2
    · have lb : b < s.heap.objs.size := by rcases in2 b hb with z | z <;> rw [z] <;> assumption
      rw [upd_ne (Nat.ne_of_lt lb)]
      exact (hf b hb).1
  · intro X hP hw hK hc i pins s σ H E I hf st hg
    subst hP hw hK
    obtain ⟨⟨old, he⟩, hj, ne⟩ := st
    obtain ⟨vs, hq, hv⟩ := hg
    obtain ⟨its, rv, ht, _⟩ := I.tuple hq
    have tup : s.heap.IsTuple t its.toArray := ht
    obtain ⟨f0, f1, f2, f3, f4, f5⟩ := hf j (by simp)
    have ln := rv.length
    have njt : t ≠ j := fun q => by
      obtain ⟨o, ho, hcl, _⟩ := tup
      obtain ⟨o2, ho2, hcl2, _⟩ := hj
      rw [q, ho2] at ho
      cases ho
      rw [hcl2] at hcl
      exact absurd (Value.type.inj hcl) (by decide)
    refine wpAny_bind (wpAny_attempt (wpAny_callSpecial?_slot (name := Str.ofString "__next__") (T := "enumerate") ⟨_, he, rfl⟩ F.slot_enumerate_next (wpAny_call_entry F.slot_enumerate_next ⟨_, he, rfl⟩ F.entry_enumerate_next ?_ (F.args_enumerate_next_1 _))))
    show wpAny _ _ (field (.ref e) 2 >>= _) _ _ _
    refine wpAny_bind (wpAny_field he rfl (x := .ref j) rfl ?_)
    refine wpAny_bind (PySem.wpAny_nextOf_tuple_end (show X.A.in1.handled = none from I.ok.hd hc) hj tup (by simp; omega) fun h1 y sb hy => ?_)
    obtain ⟨o, ho, hcl⟩ := hy
    refine wpAny_bind (wpAny_isInstance (T := "StopIteration") (b := true) ⟨o, ho, hcl⟩ isSubtype_stop ?_)
    exact wpAny_pure ⟨rfl, I.turned (t' := s.toks) (fun b o hb q => sb b o hb q) f0 f1 f3 f4 f5⟩
  · obtain ⟨⟨_, he⟩, _⟩ := st
    exact wpAny_pyIter_enum he q
/-- enumerate.__new__ over what begins -/
theorem meets_enum1 {v : Value} {o : Obj} {S : Heap → Prop} (B : Begins v o S) :
    Meets (Builtin.«enumerate.__new__» ⟨[.type "enumerate", v], []⟩) (fun _ R s => S s.heap ∧
      R (.ok (.ret (.ref (s.heap.push o).objs.size))) { s with heap := (s.heap.push o).push { cls := .type "enumerate", data := .fields #[.none, .bool false, .ref s.heap.objs.size, rawInt 0, .none, .none] } }) := by
  refine .of_wp fun prog w A R s z => ?_
  obtain ⟨hp, gs, dr, tk, os⟩ := s
  obtain ⟨z1, z2⟩ := z
  have sub := sub_enumerate
  have it : ∀ {A' : Around} {E Q : Value → Shared → Prop}, Q (.ref hp.objs.size) ⟨hp.push o, gs, dr, tk, os⟩ → wpAny (model prog w) A' (pyIter v) Q E ⟨hp, gs, dr, tk, os⟩ := fun q => B.iter prog w _ _ ⟨hp, gs, dr, tk, os⟩ _ z1 q
  wp_walk using it
  refine wpAny_stack_any fun _ => wpAny_pure ?_
  split
  · rename_i c _ _ _ _ _
    cases (c == Value.type "enumerate") <;> (wp_walk using it; exact ⟨_, rfl, z2⟩)
  · wp_walk using it
    exact ⟨_, rfl, z2⟩
theorem call_enumT {M : Program} {w : World} {A : Around} {E : Value → Shared → Prop} {s : Shared} {t : Addr} {items : Array Value} {Q : Value → Shared → Prop} (ht : s.heap.IsTuple t items)
    (q : ∀ h', IsEnum h' (s.heap.objs.size + 1) s.heap.objs.size 0 .none → h'.IsTupleIter s.heap.objs.size t 0 → (∀ b o, s.heap.get? b = some o → h'.get? b = some o) → Q (.ref (s.heap.objs.size + 1)) { s with heap := h' }) :
    wpAny (model M w) A (call (.type "enumerate") [.ref t]) Q E s := by
  refine callType_new F.called_enumerate (by decide) (F.typeCall_enumerate_1 _) (F.newCall_enumerate_1 _) (fun obj => F.args_object_init_2 obj _) F.entry_enumerate_new (meets_enum1 (begins_tuple t items)) ⟨ht, ?_⟩
  have sz : (s.heap.push { cls := .type "tuple_iterator", data := .fields #[.ref t, .int 0 0] }).objs.size = s.heap.objs.size + 1 := Heap.size_push ..
  show _ ∧ _
  rw [sz]
  have he : IsEnum ((s.heap.push { cls := .type "tuple_iterator", data := .fields #[.ref t, .int 0 0] }).push { cls := .type "enumerate", data := .fields #[.none, .bool false, .ref s.heap.objs.size, rawInt 0, .none, .none] }) (s.heap.objs.size + 1) s.heap.objs.size 0 .none := by
    have z := Heap.get?_push_size (s.heap.push { cls := .type "tuple_iterator", data := .fields #[.ref t, .int 0 0] }) (o := { cls := .type "enumerate", data := .fields #[.none, .bool false, .ref s.heap.objs.size, rawInt 0, .none, .none] }) rfl
    rw [sz] at z
    exact z
  exact ⟨⟨_, he, rfl⟩, q _ he ⟨_, Heap.get?_push_of_some _ (Heap.get?_push_size _ rfl), rfl, rfl⟩ fun b o x => Heap.get?_push_of_some _ (Heap.get?_push_of_some _ x)⟩
def iEnT (K : PySem.W.Frag) (ta : TA) : TI := fun σ H R => ta σ H fun vs H1 => ∃ (t : Addr) (xs : List V), vs = [.ref t] ∧ SqT K H1 t xs ∧ R (Iet K t) H1
theorem pi_enT {X : Cx} {e : Expr} {ta : TA} {p pos tpos : Pos} {es : List Expr} {n : Nat} (hg : Gl X "enumerate") (hm : X.mg "enumerate" = none) (ha : PA X [e] ta) (hs : starEach [e] X.env = [(false, eval e X.env)] := by rfl) :
    PI X (.Tuple es n tpos) (.Call (.Name "enumerate" p) [e] [] pos) (iEnT X.K ta) := by
  constructor
  intro pins s σ H R I h
  refine Call_ (ld_blt I hg hm boot_enumerate (PyProof.Rows.callWith_type1 (thn (ha.run pos pins s σ H _ I h) fun us s1 z1 => ?_) hs rfl))
  obtain ⟨vs, H1, I1, r1, t, xs, ex, hq, q⟩ := z1
  subst ex
  have eu := Vals.ref1 r1
  subst eu
  obtain ⟨its, rv, ht, _⟩ := I1.tuple hq
  refine call_enumT (items := its.toArray) ht fun h' he hj hk => wpAny_pyIter_enum he ?_
  have I2 : Inv X pins σ H1 { s1 with heap := h' } := I1.kept (t' := s1.toks) hk
  refine ⟨s1.heap.objs.size + 1, [s1.heap.objs.size + 1, s1.heap.objs.size], _, _, H1, rfl, I2, turn_et t (s1.heap.objs.size + 1) s1.heap.objs.size, ⟨⟨.none, he⟩, hj, Nat.succ_ne_self _⟩, fun b hb => ?_, q⟩
  have lb : s1.heap.objs.size ≤ b := by
    rcases List.mem_cons.mp hb with z | z
    · rw [z]
      exact Nat.le_succ _
    · rw [List.mem_singleton.mp z]
      exact Nat.le_refl _
  exact I1.fpOk lb (I1.hok.fresh lb)
/-- for i, x in enumerate(t) -/
theorem for_enT {K : PySem.W.Frag} {t : Addr} {xs : List V} {g : TG} {tb : TS} {D : Ends} {σ : L2.St} {H : Hp} (Pv : Nat → L2.St → Hp → Prop) (h0 : Pv 0 σ H) (hl : ∀ i σ H, i ≤ xs.length → Pv i σ H → SqT K H t xs)
    (hs : ∀ i x σ H p, xs[i]? = some x → Pv i σ H → H p = none → g (.ref p) σ (upd H p (.tup [.int (i : Nat), x])) fun σ2 H2 => tb { D with nx := Pv (i + 1), ct := Pv (i + 1), bk := D.nx } σ2 H2) (hd : ∀ σ H, Pv xs.length σ H → D.nx σ H) :
    ∃ W : Nat → Nat → L2.St → Hp → Prop, (∃ m, W 0 m σ H) ∧ ∀ i m σ H, W i m σ H →
      ((Iet K t).stop i H ∧ D.nx σ H) ∨ ((Iet K t).go i H ∧ ∃ N : L2.St → Hp → Prop, (∀ σ' H', N σ' H' → ∃ m', m' < m ∧ W (i + 1) m' σ' H') ∧ ∀ x H', (Iet K t).yld i H x H' → g x σ H' fun σ2 H2 => tb { D with nx := N, ct := N, bk := D.nx } σ2 H2) := by
  refine ⟨fun i m σ H => i + m = xs.length ∧ Pv i σ H, ⟨xs.length, Nat.zero_add _, h0⟩, ?_⟩
  rintro i m σ H ⟨e, p⟩
  have q := hl i σ H (by omega) p
  cases hx : xs[i]? with
  | none =>
    have ei : i = xs.length := by
      have := List.getElem?_eq_none_iff.mp hx
      omega
    rw [ei] at p ⊢
    exact .inl ⟨⟨xs, q, Nat.le_refl _⟩, hd σ H p⟩
  | some v =>
    have hi : i < xs.length := (List.getElem?_eq_some_iff.mp hx).1
    refine .inr ⟨⟨xs, v, q, hx⟩, Pv (i + 1), fun σ' H' p' => ⟨m - 1, by omega, by omega, p'⟩, fun y H' z => ?_⟩
    obtain ⟨r, v', rfl, hr, rfl, hv⟩ := z
    have ev := hv xs q
    rw [hx] at ev
    cases ev
    exact hs i v σ H r hx p hr
end Gd
set_option Elab.async false
set_option linter.all false
set_option maxRecDepth 100000
set_option maxHeartbeats 4000000
namespace Ks
open PySem PySem.Spec PyProof.Rows L2 Gd Kx
abbrev sOne : Stmt := Kx.topS 18
abbrev sCk : Stmt := Kx.topS 19
abbrev sIsC : Stmt := Kx.topS 20
abbrev sCc : Stmt := Kx.topS 21
abbrev sCt : Stmt := Kx.topS 22
theorem scOne : FnScope ["value", "names"] ["value", "names"] (defScope sOne) := ⟨rfl, rfl, rfl, by decide +kernel, rfl, by decide +kernel, by decide +kernel⟩
theorem scCk : FnScope ["kinds", "index", "kind"] ["kinds"] (defScope sCk) := ⟨rfl, rfl, rfl, by decide +kernel, rfl, by decide +kernel, by decide +kernel⟩
theorem scIsC : FnScope ["value", "kinds", "name", "kind", "fields", "field"] ["value", "kinds"] (defScope sIsC) := ⟨rfl, rfl, rfl, by decide +kernel, rfl, by decide +kernel, by decide +kernel⟩
theorem scCc : FnScope ["constructors", "kinds", "names", "index", "constructor"] ["constructors", "kinds"] (defScope sCc) := ⟨rfl, rfl, rfl, by decide +kernel, rfl, by decide +kernel, by decide +kernel⟩
theorem scCt : FnScope ["kinds", "constructors", "full", "_", "constructor", "kind", "fields", "field"] ["kinds", "constructors"] (defScope sCt) := ⟨rfl, rfl, rfl, by decide +kernel, rfl, by decide +kernel, by decide +kernel⟩
/-! ### schemas as data -/
abbrev Rw := Str × Str × List Str
structure Md where
  ks : List Str
  rs : List Rw
structure Good (m : Md) : Prop where
  k1 : 1 ≤ m.ks.length
  k4 : m.ks.length ≤ 4
  kn : ∀ k ∈ m.ks, nmS k = true
  kd : m.ks.Nodup
  r1 : 1 ≤ m.rs.length
  r6 : m.rs.length ≤ 6
  rn : ∀ r ∈ m.rs, nmS r.1 = true
  rd : (m.rs.map (·.1)).Nodup
  rk : ∀ r ∈ m.rs, r.2.1 ∈ m.ks
  f3 : ∀ r ∈ m.rs, r.2.2.length ≤ 3
  fk : ∀ r ∈ m.rs, ∀ f ∈ r.2.2, f ∈ m.ks
  tr : ∀ k ∈ m.ks, ∃ r ∈ m.rs, r.2.1 = k ∧ r.2.2 = []
def StT (H : Hp) (a : Addr) (ss : List Str) : Prop := H a = some (.tup (ss.map V.str))
def RowV (H : Hp) (x : V) (r : Rw) : Prop := ∃ b f : Addr, x = .ref b ∧ H b = some (.tup [.str r.1, .str r.2.1, .ref f]) ∧ StT H f r.2.2
/-- a tuple, its object known or not -/
def TupA (H : Hp) (a : Addr) (xs : List V) : Prop := H a = some (.tup xs) ∨ FzT H a xs
theorem TupA.keep {H H' : Hp} {a : Addr} {xs : List V} (h : TupA H a xs) (s : Same H H') : TupA H' a xs := by
  rcases h with h | h
  · exact .inl (s _ _ h)
  · exact .inr (h.keep s)
theorem TupA.sq {K : PySem.W.Frag} {H : Hp} {a : Addr} {xs : List V} (h : TupA H a xs) : SqT K H a xs := by
  rcases h with h | h
  · exact SqT.of h
  · exact h.sq
theorem TupA.ty {K : PySem.W.Frag} {H : Hp} {a : Addr} {xs : List V} (h : TupA H a xs) : TyX K H (.ref a) (.type "tuple") := by
  rcases h with h | h
  · exact .base (.tup h)
  · exact h.ty
theorem TupA.by {H H' : Hp} {a : Addr} {xs : List V} (h : TupA H a xs) (s : ∀ o, (∀ zs, o ≠ .lst zs) → (∀ C d fs, o ≠ .ins C d fs) → H a = some o → H' a = some o) : TupA H' a xs := by
  rcases h with h | ⟨o, h, q⟩
  · exact .inl (s _ (fun _ z => by cases z) (fun _ _ _ z => by cases z) h)
  · exact .inr ⟨o, s _ (fun _ z => by cases z) (fun _ _ _ z => by cases z) h, q⟩
def RowsT (H : Hp) (a : Addr) (rs : List Rw) : Prop := ∃ xs : List V, TupA H a xs ∧ Paired (RowV H) xs rs
theorem RowV.keep {H H' : Hp} {x : V} {r : Rw} (h : RowV H x r) (s : Same H H') : RowV H' x r := by
  obtain ⟨b, f, e, h1, h2⟩ := h
  exact ⟨b, f, e, s _ _ h1, s _ _ h2⟩
theorem RowsT.keep {H H' : Hp} {a : Addr} {rs : List Rw} (h : RowsT H a rs) (s : Same H H') : RowsT H' a rs := by
  obtain ⟨xs, e, p⟩ := h
  exact ⟨xs, e.keep s, Paired.mapP p fun x r q => RowV.keep q s⟩
theorem rows_at {H : Hp} : ∀ {xs : List V} {rs : List Rw} {n : Nat} {x : V}, Paired (RowV H) xs rs → xs[n]? = some x → ∃ r, rs[n]? = some r ∧ RowV H x r
  | _, _, n, x, .nil, h => by simp at h
  | _, _, 0, x, .cons (b := i) r t, h => by
    have e := Option.some.inj h
    subst e
    exact ⟨i, rfl, r⟩
  | _, _, n + 1, x, .cons r t, h => by
    obtain ⟨i, e, q⟩ := rows_at (n := n) t (by simpa using h)
    exact ⟨i, by simpa using e, q⟩
/-! ### what the module's defs lean on -/
structure TS0 (mg : Str → Option Value) : Prop where
  isi : mg "isinstance" = none
  str : mg "str" = none
  tup : mg "tuple" = none
  len : mg "len" = none
  all : mg "all" = none
  enu : mg "enumerate" = none
  rng : mg "range" = none
  mki : ∃ t, mg "MOST_KINDS" = some (.int 4 t)
  mco : ∃ t, mg "MOST_CONSTRUCTORS" = some (.int 6 t)
  mfi : ∃ t, mg "MOST_FIELDS" = some (.int 3 t)
/-- what is asked of a value that may be among strings -/
def OneOf (K : PySem.W.Frag) (H : Hp) (v : V) (ts : List Str) (b : Bool) : Prop := (∃ z, v = .str z ∧ b = decide (z ∈ ts)) ∨ (∃ t, TyX K H v t ∧ PySem.W.kitOne K t (.type "str") = some false ∧ b = false)
section
variable {P : Program} {w : World} {K : PySem.W.Frag} {mg : Str → Option Value} {base : Heap}
def spOne (K : PySem.W.Frag) : Sp := fun vs H Q _ => ∃ (v : V) (a : Addr) (ts : List Str) (b : Bool), vs = [v, .ref a] ∧ SqT K H a (ts.map V.str) ∧ OneOf K H v ts b ∧ Q (.bl b) H
theorem ok_one {f : Addr} {fd : FuncData} (F : Fun K "_is_one_of" "_is_one_of" sOne f fd) (T : TS0 mg) : FnOk P w K mg base CX0 1 f fd ["value", "names"] (spOne K) := by
  refine F.ok scOne (fun vs H Q E h => ?_) (fun cv A ou s H vs Q E hr h => ?_)
  · obtain ⟨v, a, ts, b, rfl, _⟩ := h
    rfl
  obtain ⟨v, a, ts, b, rfl, hs, hv, q⟩ := h
  refine ⟨_, pss_one (ps_ret (pe_and (pe_callB call_isi (by rfl) T.isi boot_isinstance (pa_cons (pv 0) (pa_cons (pe_bltn (v := .ty "str") (by rfl) T.str boot_str rfl) pa_nil))) (pe_one (pe_cmpR op_in_seq (pv 0) (pv 1) (by rfl))))), ?_⟩
  rcases hv with ⟨z, rfl, rfl⟩ | ⟨t, ty, ek, rfl⟩
  · refine ⟨.str z, rfl, .str z, .ty "str", _, _, true, rfl, .ty "str", .base (.str z), kit_ty (by decide +kernel), _, rfl, ?_⟩
    refine iteT ⟨.str z, rfl, .ref a, rfl, a, _, rfl, .inr hs, rfl, all_flat ts, ?_⟩
    show Q (.bl (inV (.str z) (ts.map V.str))) H
    rw [inV_str]
    exact q
  · refine ⟨v, rfl, v, .ty "str", _, _, false, rfl, .ty "str", ty, ek, _, rfl, iteF q⟩
end
end Ks
set_option Elab.async false
set_option linter.all false
set_option maxRecDepth 100000
set_option maxHeartbeats 4000000
namespace Ks
open PySem PySem.Spec PyProof.Rows L2 Gd Kx
theorem cut_take {xs : List V} {i : Nat} (h : i ≤ xs.length) : cutV xs none (some (i : Int)) = xs.take i := by
  unfold cutV
  rw [HT.sIx_none, HT.sIx_nat, List.drop_zero, Nat.sub_zero, Nat.min_eq_left h]
section
variable {P : Program} {w : World} {K : PySem.W.Frag} {mg : Str → Option Value} {base : Heap}
def spCk : Sp := fun vs H Q _ => ∃ (a : Addr) (m : Md), vs = [.ref a] ∧ StT H a m.ks ∧ Good m ∧ ∀ H', Same H H' → Q .non H'
theorem ok_ck {f fi : Addr} {fd fdi : FuncData} (F : Fun K "_check_kinds" "_check_kinds" sCk f fd) (T : TS0 mg) (GI : FnOk P w K mg base CX0 1 fi fdi ["value"] (spIs K)) (ki : PySem.W.keepIn K (.ref fi) = true) (bI : Binds K fdi ["value"] []) (gI : mg "is_name" = some (.ref fi)) :
    FnOk P w K mg base CX0 2 f fd ["kinds"] spCk := by
  obtain ⟨t4, m4⟩ := T.mki
  refine F.ok scCk (fun vs H Q E h => ?_) (fun cv A ou s H vs Q E hr h => ?_)
  · obtain ⟨a, m, rfl, _⟩ := h
    rfl
  obtain ⟨a, m, rfl, hs, g, q⟩ := h
  refine ⟨_, pss_cons (ps_if (PW.pt (pw_or (pt_not (pt_val (pe_callB call_isi (by rfl) T.isi boot_isinstance (pa_cons (pv 0) (pa_cons (pe_bltn (v := .ty "tuple") (by rfl) T.tup boot_tuple rfl) pa_nil)))))
        (pw_or1 (pt_not (pt_chain op_le op_le pe_int (pe_callB call_len_seq (by rfl) T.len PySem.boot_len (pa_cons (pv 0) pa_nil)) (pe_glob (v := .int 4) (by rfl) m4 ⟨_, rfl⟩)))))) pss_never pss_nil)
    (pss_one (ps_for PassesOwn.never rfl (pi_enT (by rfl) T.enu (pa_cons (pv 0) pa_nil)) (pg_tup rfl (pgs_cons (pg_name (i := 1) scCk.nd rfl (.inl rfl)) (pgs_cons (pg_name (i := 2) scCk.nd rfl (.inl rfl)) pgs_nil)))
      (pss_one (ps_if (PW.pt (pw_or (pt_not (pt_val (pe_call GI hr (by rfl) gI ki bI .nil pass0 (pa_cons (pv 2) pa_nil)))) (pw_or1 (pt_cmpR op_in_seq (pv 2) (pe_slice sl_tup (pv 0) po_none (po_some (pv 1))) (by rfl))))) pss_never pss_nil)))), ?_⟩
  refine ⟨.ref a, rfl, .ref a, .ty "tuple", _, _, true, rfl, .ty "tuple", .base (.tup hs), kit_ty (by decide +kernel), _, rfl, iteF ?_⟩
  refine ⟨.ref a, rfl, a, _, rfl, .inr (SqT.of hs), _, _, rfl, rfl, _, rfl, ?_⟩
  have k1 := g.k1
  have k4 := g.k4
  rw [decide_eq_true (show (1 : Int) ≤ ((m.ks.map V.str).length : Int) by rw [List.length_map]; omega)]
  refine iteT ⟨_, _, rfl, rfl, _, rfl, ?_⟩
  rw [decide_eq_true (show ((m.ks.map V.str).length : Int) ≤ 4 by rw [List.length_map]; omega)]
  refine iteF ?_
  refine ⟨.ref a, rfl, a, _, rfl, SqT.of hs, for_enT (K := K) (t := a) (xs := m.ks.map V.str) (fun i σ H' => ∃ o1 o2 : Option V, σ = [some (.ref a), o1, o2] ∧ Same H H') ⟨none, none, rfl, fun _ _ e => e⟩ (fun i σ H' _ p => ?_) ?_ ?_⟩
  · obtain ⟨_, _, _, s1⟩ := p
    exact SqT.of (s1 _ _ hs)
  · rintro i x σ H1 p hx ⟨o1, o2, rfl, s1⟩ np
    obtain ⟨z, hz, rfl⟩ : ∃ z, m.ks[i]? = some z ∧ x = V.str z := by
      rw [List.getElem?_map] at hx
      cases e : m.ks[i]? with
      | none => rw [e] at hx; cases hx
      | some z => rw [e] at hx; exact ⟨z, rfl, (Option.some.inj hx).symm⟩
    have hi : i < m.ks.length := (List.getElem?_eq_some_iff.mp hz).1
    have hn := g.kn z (List.mem_of_getElem? hz)
    have s2 : Same H1 (upd H1 p (.tup [.int (i : Nat), .str z])) := same_new np
    refine ⟨p, _, rfl, SqT.of upd_same, rfl, ?_⟩
    refine ⟨_, _, rfl, _, _, rfl, rfl, .str z, rfl, .str z, rfl, .inl ⟨z, rfl, by have := (nm_len hn).2; omega, fun H2 s3 => ?_⟩⟩
    rw [hn]
    have sA := s1.trans (s2.trans s3)
    refine ⟨true, rfl, iteF ?_⟩
    refine ⟨.str z, rfl, .ref a, rfl, .int (i : Nat), rfl, _, rfl, a, m.ks.map V.str, rfl, SqT.of (sA _ _ hs), ?_, fun L nL => ?_⟩
    · rintro ⟨_, e⟩
      rw [HT.sIx_nat, List.length_map] at e
      omega
    rw [cut_take (by rw [List.length_map]; omega), ← List.map_take]
    refine ⟨L, _, rfl, .inr (SqT.of upd_same), rfl, all_flat _, _, rfl, ?_⟩
    rw [if_neg (by decide), inV_str, decide_eq_false (fun h => ?_)]
    · exact iteF ⟨_, _, rfl, sA.trans (same_new nL)⟩
    · obtain ⟨j, hj, ej⟩ := List.getElem_of_mem h
      rw [List.length_take] at hj
      rw [List.getElem_take] at ej
      have e2 : m.ks[j]? = m.ks[i]? := by rw [hz, List.getElem?_eq_getElem (by omega), ej]
      have := (List.getElem?_inj (by omega) g.kd).mp e2
      omega
  · rintro σ H1 ⟨o1, o2, rfl, s1⟩
    exact q H1 s1
end
end Ks
set_option Elab.async false
set_option linter.all false
set_option maxRecDepth 100000
set_option maxHeartbeats 4000000
namespace Ks
open PySem PySem.Spec PyProof.Rows L2 Gd Kx
section
variable {P : Program} {w : World} {K : PySem.W.Frag} {mg : Str → Option Value} {base : Heap}
/-- a constructor that is right for kinds -/
structure RwOk (ks : List Str) (r : Rw) : Prop where
  n : nmS r.1 = true
  k : r.2.1 ∈ ks
  l : r.2.2.length ≤ 3
  f : ∀ x ∈ r.2.2, x ∈ ks
def spIsC : Sp := fun vs H Q _ => ∃ (x : V) (a : Addr) (ks : List Str) (r : Rw), vs = [x, .ref a] ∧ StT H a ks ∧ RowV H x r ∧ RwOk ks r ∧ ∀ H', Same H H' → Q (.bl true) H'
theorem ok_isC {f fi fo : Addr} {fd fdi fdo : FuncData} (F : Fun K "_is_constructor" "_is_constructor" sIsC f fd) (T : TS0 mg)
    (GI : FnOk P w K mg base CX0 1 fi fdi ["value"] (spIs K)) (ki : PySem.W.keepIn K (.ref fi) = true) (bI : Binds K fdi ["value"] []) (gI : mg "is_name" = some (.ref fi))
    (GO : FnOk P w K mg base CX0 1 fo fdo ["value", "names"] (spOne K)) (ko : PySem.W.keepIn K (.ref fo) = true) (bO : Binds K fdo ["value", "names"] []) (gO : mg "_is_one_of" = some (.ref fo)) :
    FnOk P w K mg base CX0 2 f fd ["value", "kinds"] spIsC := by
  obtain ⟨t3, m3⟩ := T.mfi
  refine F.ok scIsC (fun vs H Q E h => ?_) (fun cv A ou s H vs Q E hr h => ?_)
  · obtain ⟨x, a, ks, r, rfl, _⟩ := h
    rfl
  obtain ⟨x, a, ks, r, rfl, hs, ⟨b, fa, rfl, hb, hf⟩, g, q⟩ := h
  refine ⟨_, pss_cons (ps_if (PW.pt (pw_or (pt_not (pt_val (pe_callB call_isi (by rfl) T.isi boot_isinstance (pa_cons (pv 0) (pa_cons (pe_bltn (v := .ty "tuple") (by rfl) T.tup boot_tuple rfl) pa_nil)))))
        (pw_or1 (pt_cmpR op_ne (pe_callB call_len_seq (by rfl) T.len PySem.boot_len (pa_cons (pv 0) pa_nil)) pe_int (nomark _))))) (pss_one (ps_ret pe_bl)) pss_nil)
    (pss_cons (ps_asg (pv 0) (pg_tup (by rfl) (pgs_cons (pg_name (i := 2) scIsC.nd rfl (.inl rfl)) (pgs_cons (pg_name (i := 3) scIsC.nd rfl (.inl rfl)) (pgs_cons (pg_name (i := 4) scIsC.nd rfl (.inl rfl)) pgs_nil)))))
    (pss_cons (ps_if (PW.pt (pw_or (pt_not (pt_val (pe_call GI hr (by rfl) gI ki bI .nil pass0 (pa_cons (pv 2) pa_nil)))) (pw_or1 (pt_not (pt_val (pe_call GO hr (by rfl) gO ko bO .nil pass0 (pa_cons (pv 3) (pa_cons (pv 1) pa_nil)))))))) (pss_one (ps_ret pe_bl)) pss_nil)
    (pss_cons (ps_if (PW.pt (pw_or (pt_not (pt_val (pe_callB call_isi (by rfl) T.isi boot_isinstance (pa_cons (pv 4) (pa_cons (pe_bltn (v := .ty "tuple") (by rfl) T.tup boot_tuple rfl) pa_nil)))))
        (pw_or1 (pt_cmpR op_gt (pe_callB call_len_seq (by rfl) T.len PySem.boot_len (pa_cons (pv 4) pa_nil)) (pe_glob (v := .int 3) (by rfl) m3 ⟨_, rfl⟩) (nomark _))))) (pss_one (ps_ret pe_bl)) pss_nil)
    (pss_one (ps_ret (pe_callB (cr_all rfl) (by rfl) T.all boot_all (pa_cons (pe_lc (own := [("field", 5)]) (g := gName 5) (tt := tYes) rfl scIsC.nd (pi_tup (pv 4)) (blkOk_by (own := [("field", 5)]) (N := ["value", "kinds", "name", "kind", "fields", "field"]) (sc := defScope sIsC) (by decide +kernel))
      (fun _ _ _ _ _ => pg_name (i := 5) scIsC.nd rfl (Or.inl rfl)) (fun _ _ _ _ _ => pts_nil)
      (fun _ _ _ _ _ => asTE (te := tCall (spOne K) [] E0 (tCons (tVar 5) (tCons (tVar 1) tNil))) (pe_call GO hr (by rfl) gO ko bO .nil pass0 (pa_cons (pv 5) (pa_cons (pv 1) pa_nil))) rfl)) pa_nil))))))), ?_⟩
  refine ⟨.ref b, rfl, .ref b, .ty "tuple", _, _, true, rfl, .ty "tuple", .base (.tup hb), kit_ty (by decide +kernel), _, rfl, iteF ?_⟩
  refine ⟨.ref b, rfl, b, _, rfl, .inr (SqT.of hb), rfl, _, rfl, ?_⟩
  rw [show decide (V.int ((([V.str r.1, .str r.2.1, .ref fa] : List V).length : Nat) : Int) = V.int 3) = true from decide_eq_true rfl]
  refine iteF ?_
  refine ⟨.ref b, rfl, b, _, rfl, SqT.of hb, rfl, _, _, rfl, _, _, rfl, _, _, rfl, rfl, ?_⟩
  refine ⟨.str r.1, rfl, .str r.1, rfl, .inl ⟨r.1, rfl, by have := (nm_len g.n).2; omega, fun H2 s2 => ?_⟩⟩
  rw [g.n]
  have hs2 : StT H2 a ks := s2 _ _ hs
  have hf2 : H2 fa = _ := s2 _ _ hf
  refine ⟨true, rfl, iteF ⟨.str r.2.1, rfl, .ref a, rfl, .str r.2.1, a, ks, true, rfl, SqT.of hs2, .inl ⟨r.2.1, rfl, (decide_eq_true g.k).symm⟩, true, rfl, iteF ?_⟩⟩
  refine ⟨.ref fa, rfl, .ref fa, .ty "tuple", _, _, true, rfl, .ty "tuple", .base (.tup hf2), kit_ty (by decide +kernel), _, rfl, iteF ?_⟩
  refine ⟨.ref fa, rfl, fa, _, rfl, .inr (SqT.of hf2), _, _, rfl, rfl, _, rfl, ?_⟩
  have gl := g.l
  rw [decide_eq_false (show ¬ ((r.2.2.map V.str).length : Int) > 3 by rw [List.length_map]; omega)]
  refine iteF ?_
  refine ⟨.ref fa, rfl, fa, rfl, ⟨_, SqT.of hf2⟩, fun D nD => lc_funT (K := K) (a := fa) (xs := r.2.2.map V.str) (ys := List.replicate r.2.2.length (V.bl true)) (fun _ => rfl) nD (SqT.of hf2) (by rw [List.length_map]; omega) (by rw [List.length_map, List.length_replicate]) (fun i x y H3 hx hy s3 q => ?_) fun H3 s3 eD => ?_⟩
  · intro k
    rw [List.getElem?_map] at hx
    cases e : r.2.2[i]? with
    | none => rw [e] at hx; cases hx
    | some z =>
      rw [e] at hx
      cases hx
      have ey : y = V.bl true := by
        have := List.mem_of_getElem? hy
        exact (List.mem_replicate.mp this).2
      subst ey
      exact ⟨.str z, rfl, .ref a, rfl, .str z, a, ks, true, rfl, SqT.of (s3 _ _ hs2), .inl ⟨z, rfl, (decide_eq_true (g.f z (List.mem_of_getElem? e))).symm⟩, k H3 fun _ _ e => e⟩
  · refine ⟨D, List.replicate r.2.2.length true, rfl, SqL.of (by rw [eD, List.map_replicate]), ?_⟩
    rw [show (List.replicate r.2.2.length true).all id = true from List.all_eq_true.mpr fun x hx => by rw [(List.mem_replicate.mp hx).2]; rfl]
    exact q H3 (s2.trans s3)
end
end Ks
set_option Elab.async false
set_option linter.all false
set_option maxRecDepth 100000
set_option maxHeartbeats 4000000
namespace Ks
open PySem PySem.Spec PyProof.Rows L2 Gd Kx
theorem Good.row {m : Md} (g : Good m) {r : Rw} (h : r ∈ m.rs) : RwOk m.ks r := ⟨g.rn r h, g.rk r h, g.f3 r h, g.fk r h⟩
theorem same_upd {H H' : Hp} {L : Addr} {o : HO} (s : Same H H') (n : H L = none) : Same H (upd H' L o) := fun b x e => by rw [upd_ne (ne_of_none e n)]; exact s _ _ e
section
variable {P : Program} {w : World} {K : PySem.W.Frag} {mg : Str → Option Value} {base : Heap}
def spCc : Sp := fun vs H Q _ => ∃ (c a : Addr) (m : Md), vs = [.ref c, .ref a] ∧ StT H a m.ks ∧ RowsT H c m.rs ∧ Good m ∧ ∀ H', Same H H' → Q .non H'
theorem ok_cc {f fi : Addr} {fd fdi : FuncData} (F : Fun K "_check_constructors" "_check_constructors" sCc f fd) (T : TS0 mg)
    (GI : FnOk P w K mg base CX0 2 fi fdi ["value", "kinds"] spIsC) (ki : PySem.W.keepIn K (.ref fi) = true) (bI : Binds K fdi ["value", "kinds"] []) (gI : mg "_is_constructor" = some (.ref fi)) :
    FnOk P w K mg base CX0 3 f fd ["constructors", "kinds"] spCc := by
  obtain ⟨t6, m6⟩ := T.mco
  refine F.ok scCc (fun vs H Q E h => ?_) (fun cv A ou s H vs Q E hr h => ?_)
  · obtain ⟨c, a, m, rfl, _⟩ := h
    rfl
  obtain ⟨c, a, m, rfl, hs, ⟨xs, hc, hp⟩, g, q⟩ := h
  have ln : xs.length = m.rs.length := Paired.length hp
  refine ⟨_, pss_cons (ps_if (PW.pt (pw_or (pt_not (pt_val (pe_callB call_isi (by rfl) T.isi boot_isinstance (pa_cons (pv 0) (pa_cons (pe_bltn (v := .ty "tuple") (by rfl) T.tup boot_tuple rfl) pa_nil)))))
        (pw_or1 (pt_not (pt_chain op_le op_le pe_int (pe_callB call_len_seq (by rfl) T.len PySem.boot_len (pa_cons (pv 0) pa_nil)) (pe_glob (v := .int 6) (by rfl) m6 ⟨_, rfl⟩)))))) pss_never pss_nil)
    (pss_cons (ps_set (i := 2) scCc.nd rfl (.inl rfl) (pe_lst pa_nil))
    (pss_one (ps_for PassesOwn.never rfl (pi_enT (by rfl) T.enu (pa_cons (pv 0) pa_nil)) (pg_tup rfl (pgs_cons (pg_name (i := 3) scCc.nd rfl (.inl rfl)) (pgs_cons (pg_name (i := 4) scCc.nd rfl (.inl rfl)) pgs_nil)))
      (pss_cons (ps_if (PW.pt (pw_or (pt_not (pt_val (pe_call GI hr (by rfl) gI ki bI .nil pass0 (pa_cons (pv 4) (pa_cons (pv 1) pa_nil))))) (pw_or1 (pt_cmpR op_in_seq (pe_ix ix_tup (pv 4) pe_int (fun _ _ => rfl)) (pv 2) (by rfl))))) pss_never pss_nil)
      (pss_one (ps_expr (pe_bm PySem.F.plainAttrs_list PySem.F.slot_list_append PySem.F.type_list_append mt_append (pv 2) (pa_cons (pe_ix ix_tup (pv 4) pe_int (fun _ _ => rfl)) pa_nil)))))))), ?_⟩
  refine ⟨.ref c, rfl, .ref c, .ty "tuple", _, _, true, rfl, .ty "tuple", hc.ty, kit_ty (by decide +kernel), _, rfl, iteF ?_⟩
  refine ⟨.ref c, rfl, c, _, rfl, .inr hc.sq, _, _, rfl, rfl, _, rfl, ?_⟩
  have r1 := g.r1
  have r6 := g.r6
  rw [decide_eq_true (show (1 : Int) ≤ ((xs.length : Nat) : Int) by omega)]
  refine iteT ⟨_, _, rfl, rfl, _, rfl, ?_⟩
  rw [decide_eq_true (show ((xs.length : Nat) : Int) ≤ 6 by omega)]
  refine iteF ⟨(by show 0 ≤ sizeLine; exact Nat.zero_le _), fun L nL => ?_⟩
  refine ⟨.ref c, rfl, c, _, rfl, (hc.keep (same_new nL)).sq, for_enT (K := K) (t := c) (xs := xs) (fun i σ H' => ∃ o3 o4 : Option V, σ = [some (.ref c), some (.ref a), some (.ref L), o3, o4] ∧ Same H H' ∧ H' L = some (.lst (((m.rs.take i).map (·.1)).map V.str))) ⟨none, none, rfl, same_new nL, upd_same⟩ (fun i σ H' _ p => ?_) ?_ ?_⟩
  · obtain ⟨_, _, _, s1, _⟩ := p
    exact (hc.keep s1).sq
  · rintro i x σ H1 p hx ⟨o3, o4, rfl, s1, eL⟩ np
    obtain ⟨r, hr2, b, fa, rfl, hb, hf⟩ := rows_at hp hx
    have hi : i < m.rs.length := (List.getElem?_eq_some_iff.mp hr2).1
    have s2 : Same H1 (upd H1 p (.tup [.int (i : Nat), .ref b])) := same_new np
    refine ⟨p, _, rfl, SqT.of upd_same, rfl, ?_⟩
    have sA := s1.trans s2
    refine ⟨_, _, rfl, _, _, rfl, rfl, .ref b, rfl, .ref a, rfl, .ref b, a, m.ks, r, rfl, sA _ _ hs, ⟨b, fa, rfl, sA _ _ hb, sA _ _ hf⟩, g.row (List.mem_of_getElem? hr2), fun H2 s3 => ⟨true, rfl, iteF ?_⟩⟩
    have sB := sA.trans s3
    have eL2 := s3 _ _ (s2 _ _ eL)
    have hb2 := sB _ _ hb
    refine ⟨.ref b, rfl, b, _, _, .str r.1, rfl, rfl, SqT.of hb2, rfl, .ref L, rfl, L, _, rfl, .inl (SqL.of eL2), rfl, all_flat _, _, rfl, ?_⟩
    rw [if_neg (by decide), inV_str, decide_eq_false (fun h => ?_)]
    · refine iteF ⟨.ref L, rfl, .inl ⟨rfl, _, SqL.of eL2⟩, .ref b, rfl, b, _, _, .str r.1, rfl, rfl, SqT.of hb2, rfl, L, _, _, rfl, rfl, eL2, ?_, _, _, rfl, same_upd sB nL, ?_⟩
      · rw [List.length_map, List.length_map, List.length_take]
        exact small1000 (by omega)
      · rw [upd_same, List.take_add_one, hr2]
        simp
    · rw [List.map_take] at h
      obtain ⟨j, hj, ej⟩ := List.getElem_of_mem h
      rw [List.length_take, List.length_map] at hj
      rw [List.getElem_take] at ej
      have e2 : (m.rs.map (·.1))[j]? = (m.rs.map (·.1))[i]? := by
        rw [List.getElem?_eq_getElem (by rw [List.length_map]; omega), ej, List.getElem?_map, hr2]
        rfl
      have := (List.getElem?_inj (by rw [List.length_map]; omega) g.rd).mp e2
      omega
  · rintro σ H1 ⟨o3, o4, rfl, s1, _⟩
    exact q H1 s1
end
end Ks
set_option Elab.async false
set_option linter.all false
set_option maxRecDepth 100000
set_option maxHeartbeats 4000000
namespace Ks
open PySem PySem.Spec PyProof.Rows L2 Gd Kx
section
variable {P : Program} {w : World} {K : PySem.W.Frag} {mg : Str → Option Value} {base : Heap}
/-- the kinds found so far -/
structure Full (m : Md) (fl : List Str) : Prop where
  nd : fl.Nodup
  sub : ∀ x ∈ fl, x ∈ m.ks
theorem Full.len {m : Md} {fl : List Str} (g : Good m) (f : Full m fl) : fl.length ≤ 4 := Nat.le_trans (nd_le fl m.ks f.nd f.sub) g.k4
theorem ok_ct {f : Addr} {fd : FuncData} (F : Fun K "_check_trees" "_check_trees" sCt f fd) (T : TS0 mg) : FnOk P w K mg base CX0 1 f fd ["kinds", "constructors"] (fun vs H Q E => ∃ (a c : Addr), vs = [.ref a, .ref c] ∧ spCc [.ref c, .ref a] H Q E) := by
  refine F.ok scCt (fun vs H Q E h => ?_) (fun cv A ou s H vs Q E hr h => ?_)
  · obtain ⟨c, a, rfl, _⟩ := h
    rfl
  obtain ⟨a, c, rfl, c', a', m, ec, hs, ⟨xs, hc, hp⟩, g, q⟩ := h
  cases ec
  have ln : xs.length = m.rs.length := Paired.length hp
  have k1 := g.k1
  have k4 := g.k4
  refine ⟨_, pss_cons (ps_set (i := 2) scCt.nd rfl (.inr rfl) (pe_lst pa_nil))
    (pss_cons (ps_for PassesOwn.never rfl (pi_range1 rfl T.rng (pa_cons (pe_callB call_len_seq (by rfl) T.len PySem.boot_len (pa_cons (pv 0) pa_nil)) pa_nil)) (pg_name (i := 3) scCt.nd rfl (.inl rfl))
      (pss_one (ps_for PassesOwn.never rfl (pi_tup (pv 1)) (pg_name (i := 4) scCt.nd rfl (.inl rfl))
        (pss_cons (ps_par (i := 5) (j := 6) (by rfl) scCt.nd rfl rfl (by decide) rfl rfl (pa_cons (pe_ix ix_tup (pv 4) pe_int (fun _ _ => rfl)) (pa_cons (pe_ix ix_tup (pv 4) pe_int (fun _ _ => rfl)) pa_nil)) (by rfl))
        (pss_one (ps_if (PW.pt (pw_and (pt_cmpR op_notIn_seq (pv 5) (pv 2) (by rfl)) (pw_and1 (pt_val (pe_callB (cr_all rfl) (by rfl) T.all boot_all (pa_cons (pe_lc (own := [("field", 7)]) (g := gName 7) (tt := tYes) rfl scCt.nd (pi_tup (pv 6)) (blkOk_by (own := [("field", 7)]) (N := ["kinds", "constructors", "full", "_", "constructor", "kind", "fields", "field"]) (sc := defScope sCt) (by decide +kernel))
            (fun _ _ _ _ _ => pg_name (i := 7) scCt.nd rfl (Or.inl rfl)) (fun _ _ _ _ _ => pts_nil)
            (fun _ _ _ _ _ => asTE (te := tOp (rIn K false) (tVar 7) (tVar 2)) (pe_cmpR op_in_seq (pv 7) (pv 2) (by rfl)) rfl)) pa_nil))))))
          (pss_one (ps_expr (pe_bm PySem.F.plainAttrs_list PySem.F.slot_list_append PySem.F.type_list_append mt_append (pv 2) (pa_cons (pv 5) pa_nil)))) pss_nil))))))
    (pss_one (ps_for PassesOwn.never rfl (pi_tup (pv 0)) (pg_name (i := 5) scCt.nd rfl (.inl rfl)) (pss_one (ps_if (pt_cmpR op_notIn_seq (pv 5) (pv 2) (by rfl)) pss_never pss_nil))))), ?_⟩
  refine ⟨(by show 0 ≤ sizeLine; exact Nat.zero_le _), fun L nL => ?_⟩
  refine ⟨.ref a, rfl, a, _, rfl, .inr (SqT.of (same_new nL _ _ hs)), _, rfl, ?_, ?_, for_range (fun i σ H' => ∃ (o3 o4 o5 o6 : Option V) (fl : List Str), σ = [some (.ref a), some (.ref c), some (.ref L), o3, o4, o5, o6, none] ∧ Same H H' ∧ H' L = some (.lst (fl.map V.str)) ∧ Full m fl ∧ (1 ≤ i → ∀ k ∈ m.ks, k ∈ fl))
    ⟨none, none, none, none, [], rfl, same_new nL, upd_same, ⟨.nil, fun x hx => by cases hx⟩, fun h => by omega⟩ ?_ ?_⟩
  · omega
  · rw [List.length_map]
    omega
  · rintro i σ H1 hi ⟨o3, o4, o5, o6, fl, rfl, s1, eL, fu, al⟩
    refine ⟨.ref c, rfl, c, rfl, ⟨_, (hc.keep s1).sq⟩, for_tup (K := K) (a := c) (xs := xs) (fun j σ H' => ∃ (o4 o5 o6 : Option V) (fl : List Str), σ = [some (.ref a), some (.ref c), some (.ref L), some (.int (0 + (i : Int))), o4, o5, o6, none] ∧ Same H H' ∧ H' L = some (.lst (fl.map V.str)) ∧ Full m fl ∧ (∀ r ∈ m.rs.take j, r.2.2 = [] → r.2.1 ∈ fl) ∧ (1 ≤ i → ∀ k ∈ m.ks, k ∈ fl))
      ⟨o4, o5, o6, fl, rfl, s1, eL, fu, (fun r hr _ => by rw [List.take_zero] at hr; cases hr), al⟩ (fun j σ H' _ p => ?_) ?_ ?_⟩
    · obtain ⟨_, _, _, _, _, s2, _⟩ := p
      exact (hc.keep s2).sq
    · clear eL fu al
      rintro j x σ H2 hx ⟨o4, o5, o6, fl, rfl, s2, eL, fu, nn, al⟩
      obtain ⟨r, hr2, b, fa, rfl, hb, hf⟩ := rows_at hp hx
      have hrm := List.mem_of_getElem? hr2
      have hb2 := s2 _ _ hb
      have hf2 : StT H2 fa r.2.2 := s2 _ _ hf
      have l4 := fu.len g
      have gf := g.f3 r hrm
      refine ⟨.ref b, rfl, b, _, _, .str r.2.1, rfl, rfl, SqT.of hb2, rfl, .ref b, rfl, b, _, _, .ref fa, rfl, rfl, SqT.of hb2, rfl, _, _, rfl, ?_⟩
      have tk : ∀ fl' : List Str, (∀ x ∈ fl, x ∈ fl') → (r.2.2 = [] → r.2.1 ∈ fl') → ∀ r' ∈ m.rs.take (j + 1), r'.2.2 = [] → r'.2.1 ∈ fl' := fun fl' h1 h2 r' hr' e => by
        rw [List.take_add_one, hr2] at hr'
        rcases List.mem_append.mp hr' with z | z
        · exact h1 _ (nn r' z e)
        · have : r' = r := by simpa using z
          subst this
          exact h2 e
      refine ⟨.str r.2.1, rfl, .ref L, rfl, L, _, rfl, .inl (SqL.of eL), rfl, all_flat _, _, rfl, ?_⟩
      rw [if_pos rfl, inV_str]
      by_cases hk : r.2.1 ∈ fl
      · rw [decide_eq_true hk]
        refine iteF (iteF ?_)
        exact ⟨_, _, _, fl, rfl, s2, eL, fu, tk fl (fun _ h => h) fun _ => hk, al⟩
      · rw [decide_eq_false hk]
        refine iteT ?_
        refine ⟨.ref fa, rfl, fa, rfl, ⟨_, SqT.of hf2⟩, fun D nD => lc_funT (K := K) (a := fa) (xs := r.2.2.map V.str) (ys := (r.2.2.map fun z => decide (z ∈ fl)).map V.bl) (fun _ => rfl) nD (SqT.of hf2) (by rw [List.length_map]; omega) (by rw [List.length_map, List.length_map, List.length_map]) (fun n x y H3 hx hy s3 q => ?_) fun H3 s3 eD => ?_⟩
        · intro k
          rw [List.getElem?_map] at hx
          cases e : r.2.2[n]? with
          | none => rw [e] at hx; cases hx
          | some z =>
            rw [e] at hx
            cases hx
            rw [List.getElem?_map, List.getElem?_map, e] at hy
            cases hy
            refine ⟨.str z, rfl, .ref L, rfl, L, _, rfl, .inl (SqL.of (s3 _ _ eL)), rfl, all_flat _, ?_⟩
            rw [if_neg (by decide), inV_str]
            exact k H3 fun _ _ e => e
        · refine ⟨D, _, rfl, SqL.of eD, _, rfl, ?_⟩
          have eL3 := s3 _ _ eL
          have s4 := s2.trans s3
          cases hb : (r.2.2.map fun z => decide (z ∈ fl)).all id with
          | false =>
            refine iteF ⟨_, _, _, fl, rfl, s4, eL3, fu, tk fl (fun _ h => h) fun e => ?_, al⟩
            rw [e] at hb
            cases hb
          | true =>
            refine iteT ⟨.ref L, rfl, .inl ⟨rfl, _, SqL.of eL3⟩, .str r.2.1, rfl, L, _, _, rfl, rfl, eL3, ?_, _, _, _, fl ++ [r.2.1], rfl, same_upd s4 nL, ?_, ⟨?_, ?_⟩, tk _ (fun _ h => List.mem_append_left _ h) (fun _ => List.mem_append_right _ (List.mem_singleton.mpr rfl)), fun h k hk2 => List.mem_append_left _ (al h k hk2)⟩
            · rw [List.length_map]
              exact small1000 (by omega)
            · rw [upd_same, List.map_append]
              rfl
            · rw [List.nodup_append]
              exact ⟨fu.nd, List.nodup_cons.mpr ⟨by simp, .nil⟩, fun x hx y hy e => hk (by rw [List.mem_singleton.mp hy] at e; rw [← e]; exact hx)⟩
            · intro x hx
              rcases List.mem_append.mp hx with z | z
              · exact fu.sub x z
              · rw [List.mem_singleton.mp z]
                exact g.rk r hrm
    · clear eL fu al
      rintro σ H2 ⟨o4, o5, o6, fl, rfl, s2, eL, fu, nn, al⟩
      refine ⟨_, o4, o5, o6, fl, rfl, s2, eL, fu, fun _ k hk => ?_⟩
      obtain ⟨r, hr, rfl, e⟩ := g.tr k hk
      refine nn r ?_ e
      rw [ln, List.take_length]
      exact hr
  · rintro σ H1 ⟨o3, o4, o5, o6, fl, rfl, s1, eL, fu, al⟩
    have al2 := al (by rw [List.length_map]; omega)
    refine ⟨.ref a, rfl, a, rfl, ⟨_, SqT.of (s1 _ _ hs)⟩, for_tup (K := K) (a := a) (xs := m.ks.map V.str) (fun j σ H' => ∃ (o3 o4 o5 o6 : Option V), σ = [some (.ref a), some (.ref c), some (.ref L), o3, o4, o5, o6, none] ∧ H' = H1) ⟨_, _, _, _, rfl, rfl⟩ (fun j σ H' _ p => ?_) ?_ ?_⟩
    · obtain ⟨_, _, _, _, _, rfl⟩ := p
      exact SqT.of (s1 _ _ hs)
    · rintro j x σ H2 hx ⟨o3, o4, o5, o6, rfl, rfl⟩
      obtain ⟨z, hz, rfl⟩ : ∃ z, m.ks[j]? = some z ∧ x = V.str z := by
        rw [List.getElem?_map] at hx
        cases e : m.ks[j]? with
        | none => rw [e] at hx; cases hx
        | some z => rw [e] at hx; exact ⟨z, rfl, (Option.some.inj hx).symm⟩
      refine ⟨.str z, rfl, .ref L, rfl, L, _, rfl, .inl (SqL.of eL), rfl, all_flat _, _, rfl, ?_⟩
      rw [if_pos rfl, inV_str, decide_eq_true (al2 z (List.mem_of_getElem? hz))]
      exact iteF ⟨_, _, _, _, rfl, rfl⟩
    · rintro σ H2 ⟨o3, o4, o5, o6, rfl, rfl⟩
      exact q _ s1
end
end Ks
set_option Elab.async false
set_option linter.all false
set_option maxRecDepth 100000
set_option maxHeartbeats 4000000
namespace Ks
open PySem PySem.Spec PyProof.Rows L2 Gd Kx
/-! the places of names: {name: place for place, name in enumerate(names)} -/
def plF : Nat → List Str → List (Key × V)
  | _, [] => []
  | i, t :: r => (.inr t, .int (i : Nat)) :: plF (i + 1) r
def plc (ts : List Str) : List (Key × V) := plF 0 ts
theorem plF_len (ts : List Str) : ∀ i, (plF i ts).length = ts.length := by
  induction ts with
  | nil => intro i; rfl
  | cons t r ih => intro i; show (plF (i + 1) r).length + 1 = r.length + 1; rw [ih]
theorem plF_app (ts us : List Str) : ∀ i, plF i (ts ++ us) = plF i ts ++ plF (i + ts.length) us := by
  induction ts with
  | nil => intro i; rfl
  | cons t r ih =>
    intro i
    show (Sum.inr t, V.int (i : Nat)) :: plF (i + 1) (r ++ us) = (Sum.inr t, V.int (i : Nat)) :: (plF (i + 1) r ++ plF (i + (r.length + 1)) us)
    rw [ih, show i + 1 + r.length = i + (r.length + 1) by omega]
theorem plF_keys (ts : List Str) : ∀ i, (plF i ts).map (·.1) = ts.map Sum.inr := by
  induction ts with
  | nil => intro i; rfl
  | cons t r ih => intro i; show Sum.inr t :: (plF (i + 1) r).map (·.1) = Sum.inr t :: r.map Sum.inr; rw [ih]
theorem plc_put {ts : List Str} (nd : ts.Nodup) {i : Nat} {z : Str} (h : ts[i]? = some z) : putK (plc (ts.take i)) (.inr z) (.int (i : Nat)) = plc (ts.take (i + 1)) := by
  have hl : i < ts.length := (List.getElem?_eq_some_iff.mp h).1
  have nz : z ∉ ts.take i := fun m => by
    obtain ⟨j, hj, e⟩ := List.mem_iff_getElem.mp m
    rw [List.length_take] at hj
    rw [List.getElem_take] at e
    have e1 : ts[j]? = some z := by rw [List.getElem?_eq_getElem (by omega), e]
    have := (List.getElem?_inj (by omega) nd).mp (e1.trans h.symm)
    omega
  have na : ((plc (ts.take i)).any fun kv => decide (kv.1 = Sum.inr z)) = false := by
    rw [List.any_eq_false]
    intro kv hkv hd
    have hk : kv.1 ∈ (plc (ts.take i)).map (·.1) := List.mem_map.mpr ⟨kv, hkv, rfl⟩
    unfold plc at hk
    rw [plF_keys, of_decide_eq_true hd] at hk
    obtain ⟨y, hy, e⟩ := List.mem_map.mp hk
    cases e
    exact nz hy
  unfold putK
  rw [if_neg (by rw [na]; decide)]
  rw [List.take_add_one, h]
  unfold plc
  rw [plF_app, List.length_take, Nat.zero_add, Nat.min_eq_left (Nat.le_of_lt hl)]
  rfl
theorem plF_val {z : Str} (ts : List Str) : ∀ (i j : Nat), ts.Nodup → ts[j]? = some z → valV (plF i ts) (.inr z) = some (.int ((i + j : Nat) : Int)) := by
  induction ts with
  | nil => intro i j _ h; simp at h
  | cons t r ih =>
    intro i j nd h
    cases j with
    | zero =>
      rw [List.getElem?_cons_zero] at h
      cases h
      unfold plF valV
      rw [List.find?_cons_of_pos (by simp)]
      rfl
    | succ j =>
      rw [List.getElem?_cons_succ] at h
      have hz : z ∈ r := List.mem_of_getElem? h
      have ne : t ≠ z := fun e => (List.nodup_cons.mp nd).1 (e ▸ hz)
      have := ih (i + 1) j (List.nodup_cons.mp nd).2 h
      unfold plF
      unfold valV at this ⊢
      rw [List.find?_cons_of_neg (by simpa using ne), this]
      rw [show i + 1 + j = i + (j + 1) by omega]
theorem plc_val {z : Str} {ts : List Str} {j : Nat} (nd : ts.Nodup) (h : ts[j]? = some z) : valV (plc ts) (.inr z) = some (.int (j : Nat)) := by
  have := plF_val ts 0 j nd h
  rw [Nat.zero_add] at this
  exact this
theorem fz_inj {H : Hp} {a : Addr} {ts us : List Str} (h : FzT H a (ts.map V.str)) (h2 : FzT H a (us.map V.str)) : ts = us := by
  obtain ⟨o, e, _⟩ := h
  obtain ⟨o2, e2, _⟩ := h2
  have e3 := e.symm.trans e2
  injection e3 with e3
  injection e3 with _ e3
  injection e3 with e3
  exact List.map_inj_right (fun _ _ h => by injection h) |>.mp e3
/-- the walk of such a comprehension -/
theorem dc_places {K : PySem.W.Frag} {n D : Addr} {ts : List Str} {j1 j2 : Nat} {σ : L2.St} {vs : List Nat} {H : Hp} {Qd : Hp → Prop} (hS : FzT H n (ts.map V.str)) (hD : H D = none) (nd : ts.Nodup) (hl : ts.length < 1000)
    (h1 : ∀ a b, (((wipe σ vs).set j1 (some a)).set j2 (some b))[j2]? = some (some b)) (h2 : ∀ a b, (((wipe σ vs).set j1 (some a)).set j2 (some b))[j1]? = some (some a)) (hw : ∀ a b, wipe (((wipe σ vs).set j1 (some a)).set j2 (some b)) vs = wipe σ vs)
    (hd : ∀ H', Same H H' → H' D = some (.dK (plc ts)) → Qd H') :
    ∃ W : Nat → Nat → Hp → Prop, (∃ m, W 0 m (upd H D (.dK []))) ∧ ∀ i m H, W i m H →
      ((Iet K n).stop i H ∧ Qd H) ∨ ((Iet K n).go i H ∧ ∃ Nx : Hp → Prop, (∀ H', Nx H' → ∃ m', m' < m ∧ W (i + 1) m' H') ∧ ∀ x H', (Iet K n).yld i H x H' → gTup K 2 (gCons (gName j1) (gCons (gName j2) gNil)) x (wipe σ vs) H' fun σ2 H2 => wipe σ2 vs = wipe σ vs ∧ tYes σ2 H2 fun b H3 =>
        if b = true then tVar j2 σ2 H3 fun y H4 => tVar j1 σ2 H4 fun z H5 => ∃ kvs k, y = kV k ∧ H5 D = some (.dK kvs) ∧ kvs.length < sizeLine ∧ Nx (upd H5 D (.dK (putK kvs k z))) else Nx H3) := by
  refine ⟨fun i m H' => i + m = ts.length ∧ Same H H' ∧ H' D = some (.dK (plc (ts.take i))), ⟨ts.length, Nat.zero_add _, same_new hD, upd_same⟩, fun i m H' w => ?_⟩
  obtain ⟨em, s, eD⟩ := w
  have hq := (hS.keep s).sq (K := K)
  cases m with
  | zero =>
    refine .inl ⟨⟨_, hq, by rw [List.length_map]; omega⟩, hd H' s ?_⟩
    rw [eD, List.take_of_length_le (by omega)]
  | succ m =>
    have hi : i < ts.length := by omega
    have ez : ts[i]? = some ts[i] := List.getElem?_eq_getElem hi
    refine .inr ⟨⟨_, .str ts[i], hq, by rw [List.getElem?_map, ez]; rfl⟩, fun H2 => Same H H2 ∧ H2 D = some (.dK (plc (ts.take (i + 1)))), fun H2 ⟨a, b⟩ => ⟨m, Nat.lt_succ_self m, by omega, a, b⟩, ?_⟩
    rintro x H2 ⟨p, v, rfl, np, rfl, hv⟩
    have ev : v = .str ts[i] := by
      have := hv _ hq
      rw [List.getElem?_map, ez] at this
      exact (Option.some.inj this).symm
    subst ev
    refine ⟨p, _, rfl, SqT.of upd_same, rfl, _, _, rfl, _, _, rfl, rfl, hw _ _, Gd.yes_if ⟨.str ts[i], h1 _ _, .int (i : Nat), h2 _ _, plc (ts.take i), .inr ts[i], rfl, ?_, ?_, ?_, ?_⟩⟩
    · rw [upd_ne (ne_of_none eD np)]
      exact eD
    · unfold plc
      rw [plF_len, List.length_take]
      exact small1000 (by omega)
    · intro b o e
      have hb := s _ _ e
      rw [upd_ne (ne_of_none e hD), upd_ne (ne_of_none hb np)]
      exact hb
    · rw [upd_same, plc_put nd ez]
end Ks
set_option Elab.async false
set_option linter.all false
set_option maxRecDepth 100000
set_option maxHeartbeats 4000000
namespace Ks
open PySem PySem.Spec PyProof.Rows L2 Gd Kx
def cS (i : Nat) : Stmt := inClass (Kx.topS 25) i
def nIni : List Str := ["self", "kinds", "constructors", "constructor", "place", "name"]
theorem scIni : FnScope nIni ["self", "kinds", "constructors"] (defScope (cS 0)) := ⟨rfl, rfl, rfl, by decide +kernel, rfl, by decide +kernel, by decide +kernel⟩
/-- the fields of a schema -/
def scF (k c n d : Addr) : List (Str × V) := putF "_places" (.ref d) (putF "_names" (.ref n) (putF "_constructors" (.ref c) (putF "_kinds" (.ref k) [])))
theorem scF_k {k c n d : Addr} : (scF k c n d).lookup ("_kinds" : Str) = some (V.ref k) := rfl
theorem scF_c {k c n d : Addr} : (scF k c n d).lookup ("_constructors" : Str) = some (V.ref c) := rfl
theorem scF_n {k c n d : Addr} : (scF k c n d).lookup ("_names" : Str) = some (V.ref n) := rfl
theorem scF_p {k c n d : Addr} : (scF k c n d).lookup ("_places" : Str) = some (V.ref d) := rfl
/-- an instance with such fields and the places of its names -/
def InS (C : Addr) (H : Hp) (a dx k c n : Addr) (ts : List Str) : Prop := ∃ d : Addr, H a = some (.ins C dx (scF k c n d)) ∧ H d = some (.dK (plc ts))
theorem InS.keep {C : Addr} {H H' : Hp} {a dx k c n : Addr} {ts : List Str} (h : InS C H a dx k c n ts) (s : Same H H') : InS C H' a dx k c n ts := by
  obtain ⟨d, h1, h2⟩ := h
  exact ⟨d, s _ _ h1, s _ _ h2⟩
/-- a schema at a -/
def ScAt (C : Addr) (H : Hp) (a : Addr) (m : Md) : Prop := ∃ dx k c n : Addr, InS C H a dx k c n (m.rs.map (·.1)) ∧ StT H k m.ks ∧ RowsT H c m.rs ∧ FzT H n ((m.rs.map (·.1)).map V.str)
theorem ScAt.keep {C : Addr} {H H' : Hp} {a : Addr} {m : Md} (h : ScAt C H a m) (s : Same H H') : ScAt C H' a m := by
  obtain ⟨dx, k, c, n, h1, h2, h3, h4⟩ := h
  exact ⟨dx, k, c, n, h1.keep s, s _ _ h2, h3.keep s, h4.keep s⟩
/-- what is known of the class -/
structure SCl (K : PySem.W.Frag) (C : Addr) : Prop where
  cls : Cls K C
  nk : NoAttr K C "_kinds"
  nc : NoAttr K C "_constructors"
  nn : NoAttr K C "_names"
  np : NoAttr K C "_places"
section
variable {P : Program} {w : World} {K : PySem.W.Frag} {mg : Str → Option Value} {base : Heap} {C : Addr}
/-- all but x stands -/
def But (x : Addr) (H H' : Hp) : Prop := ∀ b o, b ≠ x → H b = some o → H' b = some o
def spIni (C : Addr) : Sp := fun vs H Q _ => ∃ (x dx k c : Addr) (m : Md), vs = [.ref x, .ref k, .ref c] ∧ H x = some (.ins C dx []) ∧ StT H k m.ks ∧ RowsT H c m.rs ∧ Good m ∧
  ∀ n H', But x H H' → n ≠ x → InS C H' x dx k c n (m.rs.map (·.1)) → FzT H' n ((m.rs.map (·.1)).map V.str) → Q .non H'
theorem ok_ini {f fk fc ft : Addr} {fd fdk fdc fdt : FuncData} (F : Fun K "__init__" "Schema.__init__" (cS 0) f fd) (T : TS0 mg) (Z : SCl K C)
    (GK : FnOk P w K mg base CX0 2 fk fdk ["kinds"] spCk) (kk : PySem.W.keepIn K (.ref fk) = true) (bK : Binds K fdk ["kinds"] []) (gK : mg "_check_kinds" = some (.ref fk))
    (GC : FnOk P w K mg base CX0 3 fc fdc ["constructors", "kinds"] spCc) (kc : PySem.W.keepIn K (.ref fc) = true) (bC : Binds K fdc ["constructors", "kinds"] []) (gC : mg "_check_constructors" = some (.ref fc))
    (GT : FnOk P w K mg base CX0 1 ft fdt ["kinds", "constructors"] (fun vs H Q E => ∃ (a c : Addr), vs = [.ref a, .ref c] ∧ spCc [.ref c, .ref a] H Q E)) (kt : PySem.W.keepIn K (.ref ft) = true) (bT : Binds K fdt ["kinds", "constructors"] []) (gT : mg "_check_trees" = some (.ref ft)) :
    FnOk P w K mg base CX0 4 f fd ["self", "kinds", "constructors"] (spIni C) := by
  refine F.ok scIni (fun vs H Q E h => ?_) (fun cv A ou s H vs Q E hr h => ?_)
  · obtain ⟨x, dx, k, c, m, rfl, _⟩ := h
    rfl
  obtain ⟨x, dx, k, c, m, rfl, hx, hs, hc, g, q⟩ := h
  have hr2 : Room 2 (A.deeper (envOfC "Schema.__init__" (defScope (cS 0)) s.heap.objs.size f cv)) := hr.mono (by decide)
  have hr1 : Room 1 (A.deeper (envOfC "Schema.__init__" (defScope (cS 0)) s.heap.objs.size f cv)) := hr.mono (by decide)
  refine ⟨_, pss_cons (ps_expr (pe_call GK hr2 (by rfl) gK kk bK .nil pass0 (pa_cons (pv 1) pa_nil)))
    (pss_cons (ps_expr (pe_call GC hr (by rfl) gC kc bC .nil pass0 (pa_cons (pv 2) (pa_cons (pv 1) pa_nil))))
    (pss_cons (ps_expr (pe_call GT hr1 (by rfl) gT kt bT .nil pass0 (pa_cons (pv 1) (pa_cons (pv 2) pa_nil))))
    (pss_cons (ps_fld (pv 0) (pv 1) rfl)
    (pss_cons (ps_fld (pv 0) (pv 2) rfl)
    (pss_cons (ps_fld (pv 0) (pe_tupF (by rfl) T.tup (pe_lc (own := [("constructor", 3)]) (g := gName 3) (tt := tYes) rfl scIni.nd (pi_tup (pv 2)) (blkOk_by (own := [("constructor", 3)]) (N := nIni) (sc := defScope (cS 0)) (by decide +kernel))
      (fun _ _ _ _ _ => pg_name (i := 3) scIni.nd rfl (Or.inl rfl)) (fun _ _ _ _ _ => pts_nil) (fun _ _ _ _ _ => asTE (te := tOp (rIxT K) (tVar 3) (tC (.int 0))) (pe_ix ix_tup (pv 3) pe_int (fun _ _ => rfl)) rfl))) rfl)
    (pss_one (ps_fld (pv 0) (pe_dc (own := [("place", 4), ("name", 5)]) (g := gTup K 2 (gCons (gName 4) (gCons (gName 5) gNil))) (tt := tYes) (tk := tVar 5) (tv := tVar 4) rfl scIni.nd (pi_enT (by rfl) T.enu (pa_cons (pe_fld (pv 0) rfl) pa_nil)) (blkOk_by (own := [("place", 4), ("name", 5)]) (N := nIni) (sc := defScope (cS 0)) (by decide +kernel))
      (fun _ _ _ _ _ => pg_tup (by rfl) (pgs_cons (pg_name (i := 4) scIni.nd rfl (Or.inl rfl)) (pgs_cons (pg_name (i := 5) scIni.nd rfl (Or.inl rfl)) pgs_nil))) (fun _ _ _ _ _ => pts_nil) (fun _ _ _ _ _ => pv 5) (fun _ _ _ _ _ => pv 4)) rfl))))))), ?_⟩
  refine ⟨.ref k, rfl, k, m, rfl, hs, g, fun H1 s1 => ?_⟩
  refine ⟨.ref c, rfl, .ref k, rfl, c, k, m, rfl, s1 _ _ hs, hc.keep s1, g, fun H2 s2 => ?_⟩
  have s12 := s1.trans s2
  refine ⟨.ref k, rfl, .ref c, rfl, k, c, rfl, c, k, m, rfl, s12 _ _ hs, hc.keep s12, g, fun H3 s3 => ?_⟩
  have s13 := s12.trans s3
  refine ⟨.ref k, rfl, .ref x, rfl, x, C, dx, [], rfl, s13 _ _ hx, Z.cls, Z.nk, by decide, ?_⟩
  refine ⟨.ref c, rfl, .ref x, rfl, x, C, dx, _, rfl, upd_same, Z.cls, Z.nc, (show 1 < 1000 by decide), ?_⟩
  have hs' : H k = some (.tup (m.ks.map V.str)) := hs
  have kx : k ≠ x := fun e => by rw [e, hx] at hs'; cases hs'
  obtain ⟨xs, hc1, hp⟩ := hc
  have b5 : But x H (upd (upd H3 x (.ins C dx (putF "_kinds" (V.ref k) []))) x (.ins C dx (putF "_constructors" (V.ref c) (putF "_kinds" (V.ref k) [])))) := fun b o n e => by
    rw [upd_ne n, upd_ne n]
    exact s13 _ _ e
  have x5 : (upd (upd H3 x (.ins C dx (putF "_kinds" (V.ref k) []))) x (.ins C dx (putF "_constructors" (V.ref c) (putF "_kinds" (V.ref k) [])))) x = some (.ins C dx (putF "_constructors" (V.ref c) (putF "_kinds" (V.ref k) []))) := upd_same
  revert b5 x5
  generalize upd (upd H3 x (.ins C dx (putF "_kinds" (V.ref k) []))) x (.ins C dx (putF "_constructors" (V.ref c) (putF "_kinds" (V.ref k) []))) = H5
  intro b5 x5
  have hc5 : TupA H5 c xs := hc1.by fun o _ n e => b5 _ _ (fun z => by rw [z, hx] at e; cases e; exact n _ _ _ rfl) e
  have r6 := g.r6
  have ln : xs.length = m.rs.length := Paired.length hp
  refine ⟨.ref c, rfl, c, rfl, ⟨_, hc5.sq⟩, fun D nD => lc_funT (K := K) (a := c) (xs := xs) (ys := (m.rs.map (·.1)).map V.str) (fun _ => rfl) nD hc5.sq (by omega) (by rw [List.length_map, List.length_map, ln]) (fun n y z H6 hy hz s6 p => ?_) fun H6 s6 eD => ?_⟩
  · intro kk
    obtain ⟨r, hr2, b, fa, rfl, hb, hf⟩ := rows_at hp hy
    rw [List.getElem?_map, List.getElem?_map, hr2] at hz
    cases hz
    have bx : b ≠ x := fun e => by rw [e, hx] at hb; cases hb
    exact ⟨.ref b, rfl, b, _, _, .str r.1, rfl, rfl, SqT.of (s6 _ _ (b5 _ _ bx hb)), rfl, kk H6 fun _ _ e => e⟩
  · refine ⟨D, _, rfl, SqL.of eD, fun N H7 nN s7 fz => ?_⟩
    have x6 := s6 _ _ x5
    have Nx : N ≠ x := fun e => by rw [← e, nN] at x6; cases x6
    refine ⟨.ref x, rfl, x, C, dx, _, rfl, s7 _ _ x6, Z.cls, Z.nn, (show 2 < 1000 by decide), ?_⟩
    have fz8 : FzT (upd H7 x (.ins C dx (putF "_names" (V.ref N) (putF "_constructors" (V.ref c) (putF "_kinds" (V.ref k) []))))) N ((m.rs.map (·.1)).map V.str) := by
      obtain ⟨o, e, r⟩ := fz
      exact ⟨o, by rw [upd_ne Nx]; exact e, r⟩
    have b8 : But x H (upd H7 x (.ins C dx (putF "_names" (V.ref N) (putF "_constructors" (V.ref c) (putF "_kinds" (V.ref k) []))))) := fun b o n e => by
      rw [upd_ne n]
      exact s7 _ _ (s6 _ _ (b5 _ _ n e))
    have x8 : (upd H7 x (.ins C dx (putF "_names" (V.ref N) (putF "_constructors" (V.ref c) (putF "_kinds" (V.ref k) []))))) x = some (.ins C dx (putF "_names" (V.ref N) (putF "_constructors" (V.ref c) (putF "_kinds" (V.ref k) [])))) := upd_same
    revert fz8 b8 x8
    generalize upd H7 x (.ins C dx (putF "_names" (V.ref N) (putF "_constructors" (V.ref c) (putF "_kinds" (V.ref k) [])))) = H8
    intro fz8 b8 x8
    refine ⟨.ref x, rfl, x, C, dx, _, _, rfl, x8, Z.cls, Z.nn, rfl, N, _, rfl, fz8.sq, fun Dd nDd => dc_places fz8 nDd g.rd (by rw [List.length_map]; omega) (fun _ _ => rfl) (fun _ _ => rfl) (fun _ _ => rfl) fun H9 s9 eDd => ?_⟩
    have x9 := s9 _ _ x8
    have Dx : Dd ≠ x := fun e => by rw [← e, nDd] at x8; cases x8
    refine ⟨.ref x, rfl, x, C, dx, _, rfl, x9, Z.cls, Z.np, (show 3 < 1000 by decide), ?_⟩
    refine q N _ (fun b o n e => ?_) Nx ⟨Dd, upd_same, ?_⟩ ?_
    · rw [upd_ne n]
      exact s9 _ _ (b8 _ _ n e)
    · rw [upd_ne Dx]
      exact eDd
    · obtain ⟨o, e, r⟩ := fz8
      exact ⟨o, by rw [upd_ne Nx]; exact s9 _ _ e, r⟩
end
end Ks
set_option Elab.async false
set_option linter.all false
set_option maxRecDepth 100000
set_option maxHeartbeats 4000000
namespace Ks
open PySem PySem.Spec PyProof.Rows L2 Gd Kx
theorem scGk : FnScope ["self"] ["self"] (defScope (cS 2)) := ⟨rfl, rfl, rfl, by decide +kernel, rfl, by decide +kernel, by decide +kernel⟩
theorem scGc : FnScope ["self"] ["self"] (defScope (cS 3)) := ⟨rfl, rfl, rfl, by decide +kernel, rfl, by decide +kernel, by decide +kernel⟩
theorem scGr : FnScope ["self"] ["self"] (defScope (cS 4)) := ⟨rfl, rfl, rfl, by decide +kernel, rfl, by decide +kernel, by decide +kernel⟩
theorem scGn : FnScope ["self"] ["self"] (defScope (cS 5)) := ⟨rfl, rfl, rfl, by decide +kernel, rfl, by decide +kernel, by decide +kernel⟩
theorem scOf : FnScope ["self", "kind", "constructor"] ["self", "kind"] (defScope (cS 6)) := ⟨rfl, rfl, rfl, by decide +kernel, rfl, by decide +kernel, by decide +kernel⟩
theorem scCo : FnScope ["self", "name"] ["self", "name"] (defScope (cS 7)) := ⟨rfl, rfl, rfl, by decide +kernel, rfl, by decide +kernel, by decide +kernel⟩
theorem scPl : FnScope ["self", "name"] ["self", "name"] (defScope (cS 8)) := ⟨rfl, rfl, rfl, by decide +kernel, rfl, by decide +kernel, by decide +kernel⟩
theorem scLn : FnScope ["self"] ["self"] (defScope (cS 11)) := ⟨rfl, rfl, rfl, by decide +kernel, rfl, by decide +kernel, by decide +kernel⟩
theorem scCn : FnScope ["self", "value"] ["self", "value"] (defScope (cS 12)) := ⟨rfl, rfl, rfl, by decide +kernel, rfl, by decide +kernel, by decide +kernel⟩
section
variable {P : Program} {w : World} {K : PySem.W.Frag} {mg : Str → Option Value} {base : Heap} {C : Addr}
/-- an instance with the fields of a schema -/
def Raw (C : Addr) (H : Hp) (a k c n : Addr) : Prop := ∃ (dx : Addr) (ts : List Str), InS C H a dx k c n ts ∧ FzT H n (ts.map V.str)
theorem Raw.keep {C : Addr} {H H' : Hp} {a k c n : Addr} (h : Raw C H a k c n) (s : Same H H') : Raw C H' a k c n := by
  obtain ⟨dx, ts, h1, h2⟩ := h
  exact ⟨dx, ts, h1.keep s, h2.keep s⟩
def spGk (C : Addr) : Sp := fun vs H Q _ => ∃ a k c n : Addr, vs = [.ref a] ∧ Raw C H a k c n ∧ Q (.ref k) H
def spGc (C : Addr) : Sp := fun vs H Q _ => ∃ a k c n : Addr, vs = [.ref a] ∧ Raw C H a k c n ∧ Q (.ref c) H
def spGn (C : Addr) : Sp := fun vs H Q _ => ∃ a k c n : Addr, vs = [.ref a] ∧ Raw C H a k c n ∧ Q (.ref n) H
def spGr (C : Addr) : Sp := fun vs H Q _ => ∃ (a k c n : Addr) (z : Str) (r : List Str), vs = [.ref a] ∧ Raw C H a k c n ∧ StT H k (z :: r) ∧ Q (.str z) H
theorem ok_gk {f : Addr} {fd : FuncData} (F : Fun K "kinds" "Schema.kinds" (cS 2) f fd) (Z : SCl K C) : FnOk P w K mg base CX0 1 f fd ["self"] (spGk C) := by
  refine F.ok scGk (fun vs H Q E h => ?_) (fun cv A ou s H vs Q E hr h => ?_)
  · obtain ⟨a, k, c, n, rfl, _⟩ := h
    rfl
  obtain ⟨a, k, c, n, rfl, ⟨dx, ts0, ⟨dp, e, ed⟩, fz0⟩, q⟩ := h
  exact ⟨_, pss_one (ps_ret (pe_fld (pv 0) rfl)), .ref a, rfl, a, C, dx, _, _, rfl, e, Z.cls, Z.nk, scF_k, q⟩
theorem ok_gc {f : Addr} {fd : FuncData} (F : Fun K "constructors" "Schema.constructors" (cS 3) f fd) (Z : SCl K C) : FnOk P w K mg base CX0 1 f fd ["self"] (spGc C) := by
  refine F.ok scGc (fun vs H Q E h => ?_) (fun cv A ou s H vs Q E hr h => ?_)
  · obtain ⟨a, k, c, n, rfl, _⟩ := h
    rfl
  obtain ⟨a, k, c, n, rfl, ⟨dx, ts0, ⟨dp, e, ed⟩, fz0⟩, q⟩ := h
  exact ⟨_, pss_one (ps_ret (pe_fld (pv 0) rfl)), .ref a, rfl, a, C, dx, _, _, rfl, e, Z.cls, Z.nc, scF_c, q⟩
theorem ok_gn {f : Addr} {fd : FuncData} (F : Fun K "names" "Schema.names" (cS 5) f fd) (Z : SCl K C) : FnOk P w K mg base CX0 1 f fd ["self"] (spGn C) := by
  refine F.ok scGn (fun vs H Q E h => ?_) (fun cv A ou s H vs Q E hr h => ?_)
  · obtain ⟨a, k, c, n, rfl, _⟩ := h
    rfl
  obtain ⟨a, k, c, n, rfl, ⟨dx, ts0, ⟨dp, e, ed⟩, fz0⟩, q⟩ := h
  exact ⟨_, pss_one (ps_ret (pe_fld (pv 0) rfl)), .ref a, rfl, a, C, dx, _, _, rfl, e, Z.cls, Z.nn, scF_n, q⟩
theorem ok_gr {f : Addr} {fd : FuncData} (F : Fun K "root" "Schema.root" (cS 4) f fd) (Z : SCl K C) : FnOk P w K mg base CX0 1 f fd ["self"] (spGr C) := by
  refine F.ok scGr (fun vs H Q E h => ?_) (fun cv A ou s H vs Q E hr h => ?_)
  · obtain ⟨a, k, c, n, z, r, rfl, _⟩ := h
    rfl
  obtain ⟨a, k, c, n, z, r, rfl, ⟨dx, ts0, ⟨dp, e, ed⟩, fz0⟩, hk, q⟩ := h
  exact ⟨_, pss_one (ps_ret (pe_ix ix_tup (pe_fld (pv 0) rfl) pe_int (fun _ _ => rfl))), .ref a, rfl, a, C, dx, _, _, rfl, e, Z.cls, Z.nk, scF_k, k, _, _, V.str z, rfl, rfl, SqT.of hk, atI_nat (j := 0) (v := V.str z) rfl, q⟩
def spLn (C : Addr) : Sp := fun vs H Q _ => ∃ (a k c n : Addr) (xs : List V), vs = [.ref a] ∧ Raw C H a k c n ∧ TupA H c xs ∧ Q (.int xs.length) H
theorem ok_ln {f : Addr} {fd : FuncData} (F : Fun K "__len__" "Schema.__len__" (cS 11) f fd) (T : TS0 mg) (Z : SCl K C) : FnOk P w K mg base CX0 1 f fd ["self"] (spLn C) := by
  refine F.ok scLn (fun vs H Q E h => ?_) (fun cv A ou s H vs Q E hr h => ?_)
  · obtain ⟨a, k, c, n, xs, rfl, _⟩ := h
    rfl
  obtain ⟨a, k, c, n, xs, rfl, ⟨dx, ts0, ⟨dp, e, ed⟩, fz0⟩, hc, q⟩ := h
  exact ⟨_, pss_one (ps_ret (pe_callB call_len_seq (by rfl) T.len PySem.boot_len (pa_cons (pe_fld (pv 0) rfl) pa_nil))), .ref a, rfl, a, C, dx, _, _, rfl, e, Z.cls, Z.nc, scF_c, c, xs, rfl, .inr hc.sq, q⟩
def spCn (K : PySem.W.Frag) (C : Addr) : Sp := fun vs H Q _ => ∃ (a k c n : Addr) (v : V) (ts : List Str) (b : Bool), vs = [.ref a, v] ∧ Raw C H a k c n ∧ FzT H n (ts.map V.str) ∧ OneOf K H v ts b ∧ Q (.bl b) H
theorem ok_cn {f fo : Addr} {fd fdo : FuncData} (F : Fun K "__contains__" "Schema.__contains__" (cS 12) f fd) (Z : SCl K C)
    (GO : FnOk P w K mg base CX0 1 fo fdo ["value", "names"] (spOne K)) (ko : PySem.W.keepIn K (.ref fo) = true) (bO : Binds K fdo ["value", "names"] []) (gO : mg "_is_one_of" = some (.ref fo)) : FnOk P w K mg base CX0 2 f fd ["self", "value"] (spCn K C) := by
  refine F.ok scCn (fun vs H Q E h => ?_) (fun cv A ou s H vs Q E hr h => ?_)
  · obtain ⟨a, k, c, n, v, ts, b, rfl, _⟩ := h
    rfl
  obtain ⟨a, k, c, n, v, ts, b, rfl, ⟨dx, ts0, ⟨dp, e, ed⟩, fz0⟩, hn, o, q⟩ := h
  exact ⟨_, pss_one (ps_ret (pe_call GO hr (by rfl) gO ko bO .nil pass0 (pa_cons (pv 1) (pa_cons (pe_fld (pv 0) rfl) pa_nil)))), v, rfl, .ref a, rfl, a, C, dx, _, _, rfl, e, Z.cls, Z.nn, scF_n, v, n, ts, b, rfl, hn.sq, o, q⟩
/-- the place of a name -/
def spPl (C : Addr) : Sp := fun vs H Q _ => ∃ (a k c n : Addr) (ts : List Str) (z : Str) (j : Nat), vs = [.ref a, .str z] ∧ Raw C H a k c n ∧ FzT H n (ts.map V.str) ∧ ts.Nodup ∧ ts[j]? = some z ∧ Q (.int (j : Nat)) H
theorem ok_pl {f fo : Addr} {fd fdo : FuncData} (F : Fun K "place" "Schema.place" (cS 8) f fd) (Z : SCl K C)
    (GO : FnOk P w K mg base CX0 1 fo fdo ["value", "names"] (spOne K)) (ko : PySem.W.keepIn K (.ref fo) = true) (bO : Binds K fdo ["value", "names"] []) (gO : mg "_is_one_of" = some (.ref fo)) : FnOk P w K mg base CX0 2 f fd ["self", "name"] (spPl C) := by
  refine F.ok scPl (fun vs H Q E h => ?_) (fun cv A ou s H vs Q E hr h => ?_)
  · obtain ⟨a, k, c, n, ts, z, j, rfl, _⟩ := h
    rfl
  obtain ⟨a, k, c, n, ts, z, j, rfl, ⟨dx, ts0, ⟨dp, e, ed⟩, fz0⟩, hn, nd, hj, q⟩ := h
  refine ⟨_, pss_cons (ps_if (pt_not (pt_val (pe_call GO hr (by rfl) gO ko bO .nil pass0 (pa_cons (pv 1) (pa_cons (pe_fld (pv 0) rfl) pa_nil))))) pss_never pss_nil)
    (pss_one (ps_ret (pe_dget (hu_of hr) (pe_fld (pv 0) rfl) (pv 1) (fun _ _ => rfl)))), ?_⟩
  refine ⟨.str z, rfl, .ref a, rfl, a, C, dx, _, _, rfl, e, Z.cls, Z.nn, scF_n, .str z, n, ts, true, rfl, hn.sq, .inl ⟨z, rfl, (decide_eq_true (List.mem_of_getElem? hj)).symm⟩, true, rfl, iteF ?_⟩
  have ets := fz_inj fz0 hn
  subst ets
  exact ⟨.ref a, rfl, a, C, dx, _, _, rfl, e, Z.cls, Z.np, scF_p, .str z, rfl, dp, _, rfl, (by have := DGet.k (k := Sum.inr z) ed; rw [plc_val nd hj] at this; exact this), q⟩
/-- a constructor by its name -/
def spCo (C : Addr) : Sp := fun vs H Q _ => ∃ (a k c n : Addr) (ts : List Str) (xs : List V) (z : Str) (j : Nat) (x : V), vs = [.ref a, .str z] ∧ Raw C H a k c n ∧ FzT H n (ts.map V.str) ∧ ts.Nodup ∧ ts[j]? = some z ∧ TupA H c xs ∧ xs[j]? = some x ∧ Q x H
theorem ok_co {f fp : Addr} {fd fdp : FuncData} (F : Fun K "constructor" "Schema.constructor" (cS 7) f fd) (Z : SCl K C)
    (GP : FnOk P w K mg base CX0 2 fp fdp ["self", "name"] (spPl C)) (mP : Meth K C "place" fp) (bP : Binds K fdp ["self", "name"] []) : FnOk P w K mg base CX0 3 f fd ["self", "name"] (spCo C) := by
  refine F.ok scCo (fun vs H Q E h => ?_) (fun cv A ou s H vs Q E hr h => ?_)
  · obtain ⟨a, k, c, n, ts, xs, z, j, x, rfl, _⟩ := h
    rfl
  obtain ⟨a, k, c, n, ts, xs, z, j, x, rfl, ⟨dx, ts0, ⟨dp, e, ed⟩, fz0⟩, hn, nd, hj, hc, hx, q⟩ := h
  refine ⟨_, pss_one (ps_ret (pe_ix ix_tup (pe_fld (pv 0) rfl) (pe_meth (pv 0) Z.cls mP GP hr bP .nil pass0 (pa_cons (pv 1) pa_nil)) (fun _ _ => rfl))), ?_⟩
  exact ⟨.ref a, rfl, a, C, dx, _, _, rfl, e, Z.cls, Z.nc, scF_c, .ref a, rfl, a, dx, _, rfl, e, rfl, .str z, rfl, a, k, c, n, ts, z, j, rfl, ⟨dx, ts0, ⟨dp, e, ed⟩, fz0⟩, hn, nd, hj, c, xs, _, x, rfl, rfl, hc.sq, atI_nat hx, q⟩
end
end Ks
set_option Elab.async false
set_option linter.all false
set_option maxRecDepth 100000
set_option maxHeartbeats 4000000
/-! operations on an instance of a class of one's own, by its defs: len, repr, in, bool, ==, != -/
namespace Gd
open PySem PySem.Spec PyProof.Rows L2
section
variable {X : Cx} {CX : CXT} {k : Nat} {C f a dx : Addr} {fs : List (Str × V)} {fd : FuncData} {ps : List Str} {sp : Sp} {E : XK} {pins : List (Addr × Obj)} {σ : L2.St} {H : Hp} {s : Shared} {Q : VK} {A : Around} {us : List Value} {vs : List V} {E' : Value → Shared → Prop}
theorem run_at (F : FnOk X.prog X.w X.K X.mg X.base CX k f fd ps sp) (hr : Room k A) (e0 : Env0 X.prog X.w X.K X.mg X.base A X.stack s H) (hb : Binds X.K fd ps []) (hx : Passes CX X.nox E) (I : Inv X pins σ H s) (r : Vals vs us) (h : sp vs H Q E) :
    wpAny (model X.prog X.w) A (call (.ref f) us) (EP X pins σ Q) E' s := by
  have hl : (us ++ ([] : List Value)).length = ps.length := by rw [List.append_nil, ← r.length]; exact F.len _ _ _ _ h
  have hB := hb s us I.kIn hl
  rw [List.append_nil] at hB
  refine wpAny_call (codeAny_mono (F.run A X.stack s H ⟨us, []⟩ us vs Q E hr e0 hB r h) fun r s' hq => ?_)
  cases r with
  | error er => exact False.elim (hx pins σ H s er s' (I.wish _) hq)
  | ok fl =>
    cases fl with
    | ret u =>
      obtain ⟨v, H', I3, rv, q3⟩ := I.after hq
      exact ⟨v, H', I3, rv, q3⟩
    | next => exact False.elim hq
    | brk => exact False.elim hq
    | cont => exact False.elim hq
/-- a def of the class with this name -/
structure Dm (K : PySem.W.Frag) (C : Addr) (m : Str) (f : Addr) : Prop where
  at_ : PySem.W.findIn K (.ref C) m = some (some (.ref f))
  fn : PySem.W.isFn K (.ref f) = true
/-- len(x) -/
def rLenO (C : Addr) (sp : Sp) (E : XK) : List V → Hp → VK → Prop := fun xs H Q => ∃ a dx fs, xs = [.ref a] ∧ H a = some (.ins C dx fs) ∧ sp [.ref a] H (fun v H' => ∃ n : Int, v = .int n ∧ 0 ≤ n ∧ n < 2 ^ 63 ∧ Q (.int n) H') E
theorem call_lenO (D : Dm X.K C "__len__" f) (F : FnOk X.prog X.w X.K X.mg X.base CX k f fd ps sp) (hr : Room (k + 1) X.A) (hb : Binds X.K fd ps []) (hx : Passes CX X.nox E) : CallR X (.builtin "len") (rLenO C sp E) := by
  intro pins s σ H xs us Q I r h
  obtain ⟨a, dx, fs, rfl, ea, q⟩ := h
  have e1 := Vals.ref1 r
  subst e1
  obtain ⟨mA, J, _⟩ := ins_get I.hok ea
  obtain ⟨od, J, _⟩ := J.look
  obtain ⟨m, hF⟩ := I.fr
  refine PySem.W.len_K hF I.ok.mod.kin J D.at_ D.fn (wpAny_mono (run_at F hr.in1 I.env0.in1 hb hx I r q) (fun v s' z => ?_) fun _ _ e => e)
  obtain ⟨y, H', I', ry, n, ey, n0, n1, q2⟩ := z
  subst ey
  obtain ⟨t, rfl⟩ := ry
  exact ⟨⟨n0, n1⟩, .int n, H', I'.tok _, ⟨_, rfl⟩, q2⟩
/-- repr(x) -/
def rReprO (C : Addr) (sp : Sp) (E : XK) : List V → Hp → VK → Prop := fun xs H Q => ∃ a dx fs, xs = [.ref a] ∧ H a = some (.ins C dx fs) ∧ sp [.ref a] H (fun v H' => ∃ z : Str, v = .str z ∧ Q (.str z) H') E
theorem call_reprO (D : Dm X.K C "__repr__" f) (F : FnOk X.prog X.w X.K X.mg X.base CX k f fd ps sp) (hr : Room (k + 1) X.A) (hb : Binds X.K fd ps []) (hx : Passes CX X.nox E) : CallR X (.builtin "repr") (rReprO C sp E) := by
  intro pins s σ H xs us Q I r h
  obtain ⟨a, dx, fs, rfl, ea, q⟩ := h
  have e1 := Vals.ref1 r
  subst e1
  obtain ⟨mA, J, _⟩ := ins_get I.hok ea
  obtain ⟨od, J, _⟩ := J.look
  obtain ⟨m, hF⟩ := I.fr
  refine PySem.W.repr_K hr.in1.units0 hF I.ok.mod.kin J D.at_ D.fn (wpAny_mono (run_at F hr.in1 I.env0.in1 hb hx I r q) (fun v s' z => ?_) fun _ _ e => e)
  obtain ⟨y, H', I', ry, z, ey, q2⟩ := z
  subst ey
  obtain ⟨t, rfl⟩ := ry
  exact ⟨.str z, H', I', ⟨_, rfl⟩, q2⟩
/-- v in x -/
def rInO (C : Addr) (sp : Sp) (E : XK) : R2 := fun v y H Q => ∃ a dx fs, y = .ref a ∧ H a = some (.ins C dx fs) ∧ sp [.ref a, v] H (fun r H' => ∃ b : Bool, r = .bl b ∧ Q (.bl b) H') E
theorem op_inO (D : Dm X.K C "__contains__" f) (F : FnOk X.prog X.w X.K X.mg X.base CX k f fd ps sp) (hr : Room k X.A) (hb : Binds X.K fd ps []) (hx : Passes CX X.nox E) : OpR X (compareOp .In) (rInO C sp E) := by
  intro pins s σ H x y v u Q I rx ry h
  obtain ⟨a, dx, fs, rfl, ea, q⟩ := h
  obtain rfl : u = Value.ref a := ry
  obtain ⟨mA, J, _⟩ := ins_get I.hok ea
  obtain ⟨od, J, _⟩ := J.look
  obtain ⟨m, hF⟩ := I.fr
  refine PySem.W.in_K hF I.ok.mod.kin J D.at_ D.fn (wpAny_mono (run_at F hr I.env0 hb hx I (.cons (show RelV (V.ref a) (Value.ref a) from rfl) (.cons rx .nil)) q) (fun r s' z => ?_) fun _ _ e => e)
  obtain ⟨y, H', I', ry, b, ey, q2⟩ := z
  subst ey
  obtain rfl : r = Value.bool b := ry
  exact wpAny_pure ⟨.bl b, H', I', rfl, q2⟩
/-- x == y, x an instance: y one too, or a value of a type that is no class above -/
def rEqO (K : PySem.W.Frag) (C : Addr) (sp : Sp) (E : XK) : R2 := fun x y H Q => ∃ a dx fs, x = .ref a ∧ H a = some (.ins C dx fs) ∧ ((∃ b dy gs, y = .ref b ∧ H b = some (.ins C dy gs)) ∨ ∃ t, TyOf K H y t ∧ PySem.W.notFirst K C t = true) ∧
  sp [.ref a, y] H (fun r H' => ∃ b : Bool, r = .bl b ∧ Q (.bl b) H') E
/-- what type a value has, as the machine asks -/
theorem looks_ty {M : Model} {K : PySem.W.Frag} {y : V} {u t : Value} (hK : X.K = K) (I : Inv X pins σ H s) (r : RelV y u) (ty : TyOf K H y t) : PySem.W.Looks M s.heap (typeOf u) t := by
  subst hK
  have ld : ∀ {b : Addr} {o : Obj}, s.heap.get? b = some o → PySem.W.Looks M s.heap (typeOf (.ref b)) o.cls := fun e => (PySem.W.Looks.ld e).andThen .now
  cases ty with
  | non => cases (show u = Value.none from r); exact .now
  | bl b => cases (show u = Value.bool b from r); exact .now
  | int i => obtain ⟨t, e⟩ := (show ∃ t, u = Value.int i t from r); cases e; exact .now
  | str z => obtain ⟨t, e⟩ := (show ∃ t, u = Value.str z t from r); cases e; exact .now
  | flt z => obtain ⟨t, e⟩ := (show ∃ t, u = Value.float z t from r); cases e; exact .now
  | @lst b xs e =>
    cases (show u = Value.ref b from r)
    obtain ⟨_, its, n, _, g⟩ := (show ObjOk X.prog X.w H s.heap b (.lst xs) from I.hok b _ e)
    exact ld g
  | @frz b ob xs e =>
    cases (show u = Value.ref b from r)
    obtain ⟨_, _, its, n, _, g⟩ := (show ObjOk X.prog X.w H s.heap b (.frz ob (.lst xs)) from I.hok b _ e)
    exact ld g
  | @tup b xs e =>
    cases (show u = Value.ref b from r)
    obtain ⟨_, its, _, o, g, c, _⟩ := (show ObjOk X.prog X.w H s.heap b (.tup xs) from I.hok b _ e)
    rw [← c]
    exact ld g
  | @dK b kvs e =>
    cases (show u = Value.ref b from r)
    obtain ⟨_, _, vs, _, o, es, ep, g, ex, _⟩ := (show ObjOk X.prog X.w H s.heap b (.dK kvs) from I.hok b _ e)
    rw [← ex.1]
    exact ld g
  | @dT b kvs e =>
    cases (show u = Value.ref b from r)
    obtain ⟨_, _, xs, _, o, es, ep, g, ex, _⟩ := (show ObjOk X.prog X.w H s.heap b (.dT kvs) from I.hok b _ e)
    rw [← ex.1]
    exact ld g
  | @ins b C dx fs e cl ha hn htk hm =>
    cases (show u = Value.ref b from r)
    obtain ⟨mA, J, _⟩ := ins_get I.hok e
    obtain ⟨od, J, _⟩ := J.look
    exact J.type
theorem op_eqO (D : Dm X.K C "__eq__" f) (F : FnOk X.prog X.w X.K X.mg X.base CX k f fd ps sp) (hr : Room k X.A) (hb : Binds X.K fd ps []) (hx : Passes CX X.nox E) : OpR X (compareOp .Eq) (rEqO X.K C sp E) := by
  intro pins s σ H x y v u Q I rx ry h
  obtain ⟨a, dx, fs, rfl, ea, hy, q⟩ := h
  obtain rfl : v = Value.ref a := rx
  obtain ⟨mA, J, _⟩ := ins_get I.hok ea
  obtain ⟨od, J, _⟩ := J.look
  obtain ⟨m, hF⟩ := I.fr
  obtain ⟨tb, hb', hn⟩ : ∃ tb, PySem.W.Looks (model X.prog X.w) s.heap (typeOf u) tb ∧ PySem.W.notFirst X.K C tb = true := by
    rcases hy with ⟨b, dy, gs, rfl, eb⟩ | ⟨t, ty, nf⟩
    · obtain rfl : u = Value.ref b := ry
      obtain ⟨mB, J2, _⟩ := ins_get I.hok eb
      obtain ⟨od2, J2, _⟩ := J2.look
      exact ⟨_, J2.type, by simp [PySem.W.notFirst]⟩
    · exact ⟨t, looks_ty rfl I ry ty, nf⟩
  show wpAny _ _ (richCompare .Eq (.ref a) u) _ _ _
  refine PySem.W.cmp_K (op := .Eq) hr.units0 hF I.ok.mod.kin J hb' hn D.at_ D.fn (wpAny_mono (run_at F hr I.env0 hb hx I (.cons (show RelV (V.ref a) (Value.ref a) from rfl) (.cons ry .nil)) q) (fun r s' z => ?_) fun _ _ e => e)
  obtain ⟨y, H', I', ry, b, ey, q2⟩ := z
  subst ey
  obtain rfl : r = Value.bool b := ry
  exact ⟨.bl b, H', I', rfl, q2⟩
end
end Gd
set_option Elab.async false
set_option linter.all false
set_option maxRecDepth 100000
set_option maxHeartbeats 4000000
namespace Ks
open PySem PySem.Spec PyProof.Rows L2 Gd Kx
theorem scEq : FnScope ["self", "other"] ["self", "other"] (defScope (cS 13)) := ⟨rfl, rfl, rfl, by decide +kernel, rfl, by decide +kernel, by decide +kernel⟩
theorem scRp : FnScope ["self"] ["self"] (defScope (cS 10)) := ⟨rfl, rfl, rfl, by decide +kernel, rfl, by decide +kernel, by decide +kernel⟩
/-! ### kinds and constructors as plain data -/
def dSs (ss : List Str) : PyData := .tuple (ss.map .str)
def dRw (r : Rw) : PyData := .tuple [.str r.1, .str r.2.1, dSs r.2.2]
def dRs (rs : List Rw) : PyData := .tuple (rs.map dRw)
section
variable {K : PySem.W.Frag} {H : Hp}
theorem dp_strs : ∀ ss : List Str, DpAll K H (ss.map V.str) (ss.map PyData.str)
  | [] => .nil
  | s :: r => .cons (.str s) (dp_strs r)
theorem dp_st {a : Addr} {ss : List Str} (h : SqT K H a (ss.map V.str)) : Dp K H (.ref a) (dSs ss) := .tup h (dp_strs ss)
theorem dp_row {x : V} {r : Rw} (h : RowV H x r) : Dp K H x (dRw r) := by
  obtain ⟨b, f, rfl, h1, h2⟩ := h
  exact .tup (SqT.of h1) (.cons (.str _) (.cons (.str _) (.cons (dp_st (SqT.of h2)) .nil)))
theorem dp_rws : ∀ {xs : List V} {rs : List Rw}, Paired (RowV H) xs rs → DpAll K H xs (rs.map dRw)
  | _, _, .nil => .nil
  | _, _, .cons h t => .cons (dp_row h) (dp_rws t)
theorem dp_rs {c : Addr} {rs : List Rw} (h : RowsT H c rs) : Dp K H (.ref c) (dRs rs) := by
  obtain ⟨xs, e, p⟩ := h
  exact .tup e.sq (dp_rws p)
end
theorem eqvAll_map {α : Type} [DecidableEq α] {d : α → PyData} (h : ∀ x y : α, PyData.eqv (d x) (d y) = decide (x = y)) : ∀ xs ys : List α, PyData.eqvAll (xs.map d) (ys.map d) = decide (xs = ys)
  | [], [] => rfl
  | [], y :: ys => rfl
  | x :: xs, [] => rfl
  | x :: xs, y :: ys => by
    show (PyData.eqv (d x) (d y) && PyData.eqvAll (xs.map d) (ys.map d)) = _
    rw [h, eqvAll_map h xs ys, Bool.eq_iff_iff]
    simp
theorem eqv_str (x y : Str) : PyData.eqv (.str x) (.str y) = decide (x = y) := by
  show (x == y) = _
  rw [Bool.eq_iff_iff]
  simp
theorem eqv_ss (a b : List Str) : PyData.eqv (dSs a) (dSs b) = decide (a = b) := eqvAll_map eqv_str a b
theorem eqv_rw (a b : Rw) : PyData.eqv (dRw a) (dRw b) = decide (a = b) := by
  show (PyData.eqv (.str a.1) (.str b.1) && (PyData.eqv (.str a.2.1) (.str b.2.1) && (PyData.eqv (dSs a.2.2) (dSs b.2.2) && true))) = _
  rw [eqv_str, eqv_str, eqv_ss, Bool.eq_iff_iff]
  obtain ⟨a1, a2, a3⟩ := a
  obtain ⟨b1, b2, b3⟩ := b
  simp
theorem eqv_rs (a b : List Rw) : PyData.eqv (dRs a) (dRs b) = decide (a = b) := eqvAll_map eqv_rw a b
theorem inN_ok {c : Nat} (h : inN c = true) : c < 0x110000 := by
  have m : c ∈ signs.cps.toList := of_decide_eq_true h
  have all : ∀ d ∈ signs.cps.toList, d < 0x110000 := by decide +kernel
  exact all c m
theorem nm_ok {z : Str} (h : nmS z = true) : PyData.strOk z = true := by
  unfold PyData.strOk
  rw [← Array.all_toList]
  unfold nmS at h
  cases ec : z.cps.toList with
  | nil => rfl
  | cons c r =>
    rw [ec, nmL_cons, Bool.and_eq_true_iff] at h
    exact List.all_eq_true.mpr fun d hd => decide_eq_true (inN_ok (List.all_eq_true.mp h.2 d hd))
theorem lay_all : ∀ {ds : List PyData}, (∀ d ∈ ds, d.canLay0 = true) → PyData.canLayAll0 ds = true
  | [], _ => rfl
  | d :: r, h => by
    show (PyData.canLay0 d && PyData.canLayAll0 r) = true
    rw [h d (List.mem_cons_self ..), lay_all fun x hx => h x (List.mem_cons_of_mem _ hx)]
    rfl
theorem dep_all {n : Nat} : ∀ {ds : List PyData}, (∀ d ∈ ds, d.depth ≤ n) → PyData.depthAll ds ≤ n + 1
  | [], _ => by show 0 ≤ _; omega
  | d :: r, h => by
    have a := h d (List.mem_cons_self ..)
    have b := dep_all fun x hx => h x (List.mem_cons_of_mem _ hx)
    rw [PyData.depthAll]
    omega
theorem lay_ss {ss : List Str} (h : ∀ s ∈ ss, nmS s = true) : (dSs ss).canLay0 = true ∧ (dSs ss).depth ≤ 3 := by
  refine ⟨lay_all fun d hd => ?_, ?_⟩
  · obtain ⟨s, hs, rfl⟩ := List.mem_map.mp hd
    exact nm_ok (h s hs)
  · have := dep_all (n := 1) (ds := ss.map PyData.str) fun d hd => by
      obtain ⟨s, hs, rfl⟩ := List.mem_map.mp hd
      rw [PyData.depth]
      omega
    unfold dSs
    rw [PyData.depth]
    omega
theorem lay_rw {ks : List Str} (hk : ∀ s ∈ ks, nmS s = true) {r : Rw} (g : RwOk ks r) : (dRw r).canLay0 = true ∧ (dRw r).depth ≤ 5 := by
  have e := lay_ss (ss := r.2.2) fun s hs => hk s (g.f s hs)
  have all : ∀ d ∈ [PyData.str r.1, .str r.2.1, dSs r.2.2], d.canLay0 = true ∧ d.depth ≤ 3 := by
    intro d hd
    simp only [List.mem_cons, List.not_mem_nil, or_false] at hd
    rcases hd with rfl | rfl | rfl
    · exact ⟨nm_ok g.n, by rw [PyData.depth]; omega⟩
    · exact ⟨nm_ok (hk _ g.k), by rw [PyData.depth]; omega⟩
    · exact e
  refine ⟨lay_all fun d hd => (all d hd).1, ?_⟩
  have := dep_all (n := 3) fun d hd => (all d hd).2
  unfold dRw
  rw [PyData.depth]
  omega
theorem Good.shK {m : Md} (g : Good m) : SeqAt.shaped (dSs m.ks) = true := by
  obtain ⟨h1, h2⟩ := lay_ss g.kn
  unfold SeqAt.shaped
  rw [h1, decide_eq_true (by omega)]
  rfl
theorem Good.shR {m : Md} (g : Good m) : SeqAt.shaped (dRs m.rs) = true := by
  have all : ∀ d ∈ m.rs.map dRw, d.canLay0 = true ∧ d.depth ≤ 5 := fun d hd => by
    obtain ⟨r, hr, rfl⟩ := List.mem_map.mp hd
    exact lay_rw g.kn (g.row hr)
  have d := dep_all (n := 5) fun d hd => (all d hd).2
  unfold SeqAt.shaped
  have e : (dRs m.rs).depth ≤ 64 := by
    unfold dRs
    rw [PyData.depth]
    omega
  rw [show (dRs m.rs).canLay0 = true from lay_all fun d hd => (all d hd).1, decide_eq_true e]
  rfl
/-- what isinstance asks of the class -/
structure SCi (K : PySem.W.Frag) (C : Addr) : Prop where
  ca : PySem.W.findIn K (.ref C) "__class__" = some (some (.builtin "object.__class__"))
  cn : PySem.W.specialIn K (.builtin "object.__class__") "__get__" = some (some (.builtin "getset_descriptor.__get__"))
  ct : PySem.W.takesIn K (.builtin "object.__class__") = some true
  mo : PySem.W.mroIn K C (.type "object") = some true
section
variable {P : Program} {w : World} {K : PySem.W.Frag} {mg : Str → Option Value} {base : Heap} {C : Addr}
theorem ScAt.ty {H : Hp} {a : Addr} {m : Md} (h : ScAt C H a m) (Z : SCl K C) (I : SCi K C) : TyOf K H (.ref a) (.ref C) := by
  obtain ⟨dx, k, c, n, ⟨dp, e, _⟩, _⟩ := h
  exact .ins e Z.cls I.ca I.cn I.ct I.mo
/-- the == of schemas -/
def spEq (K : PySem.W.Frag) (C : Addr) : Sp := fun vs H Q _ => ∃ (a : Addr) (y : V) (m : Md), vs = [.ref a, y] ∧ ScAt C H a m ∧ Good m ∧
  ((∃ (b : Addr) (m' : Md), y = .ref b ∧ ScAt C H b m' ∧ Good m' ∧ Q (.bl (decide (m.ks = m'.ks) && decide (m.rs = m'.rs))) H) ∨ (∃ t, TyX K H y t ∧ PySem.W.kitOne K t (.ref C) = some false ∧ Q (.bl false) H))
theorem ok_eq {f : Addr} {fd : FuncData} (F : Fun K "__eq__" "Schema.__eq__" (cS 13) f fd) (T : TS0 mg) (gS : mg "Schema" = some (.ref C)) (Z : SCl K C) (I : SCi K C) : FnOk P w K mg base CX0 1 f fd ["self", "other"] (spEq K C) := by
  refine F.ok scEq (fun vs H Q E h => ?_) (fun cv A ou s H vs Q E hr h => ?_)
  · obtain ⟨a, y, m, rfl, _⟩ := h
    rfl
  obtain ⟨a, y, m, rfl, ha, g, h⟩ := h
  have hu := hr.units
  refine ⟨_, pss_one (ps_ret (pe_and (pe_callB call_isi (by rfl) T.isi boot_isinstance (pa_cons (pv 1) (pa_cons (pe_glob (v := .ref C) (by rfl) gS rfl) pa_nil)))
    (pe_and (pe_cmpR (op_eqD hu) (pe_fld (pv 0) rfl) (pe_fld (pv 1) rfl) (nomark _)) (pe_one (pe_cmpR (op_eqD hu) (pe_fld (pv 0) rfl) (pe_fld (pv 1) rfl) (nomark _)))))), ?_⟩
  rcases h with ⟨b, m', rfl, hb, g', q⟩ | ⟨t, ty, ek, q⟩
  · refine ⟨.ref b, rfl, .ref b, .ref C, _, .ref C, true, rfl, .own C, .base (hb.ty Z I), ?_, _, rfl, ?_⟩
    · unfold PySem.W.kitOne
      rw [if_pos (beq_self_eq_true _)]
    refine iteT ?_
    obtain ⟨dx, k, c, n, ⟨dpa, ea, _⟩, ek, ec, en⟩ := ha
    obtain ⟨dy, k', c', n', ⟨dpb, eb, _⟩, ek', ec', en'⟩ := hb
    refine ⟨.ref a, rfl, a, C, dx, _, _, rfl, ea, Z.cls, Z.nk, scF_k, .ref b, rfl, b, C, dy, _, _, rfl, eb, Z.cls, Z.nk, scF_k, _, _, dp_st (SqT.of ek), dp_st (SqT.of ek'), g.shK, g'.shK, ?_⟩
    rw [eqv_ss]
    refine ⟨_, rfl, ?_⟩
    cases h1 : decide (m.ks = m'.ks) with
    | false =>
      rw [h1] at q
      exact iteF q
    | true =>
      rw [h1] at q
      refine iteT ⟨.ref a, rfl, a, C, dx, _, _, rfl, ea, Z.cls, Z.nc, scF_c, .ref b, rfl, b, C, dy, _, _, rfl, eb, Z.cls, Z.nc, scF_c, _, _, dp_rs ec, dp_rs ec', g.shR, g'.shR, ?_⟩
      rw [eqv_rs]
      exact q
  · refine ⟨y, rfl, y, .ref C, _, .ref C, false, rfl, .own C, ty, ek, _, rfl, iteF q⟩
end
end Ks
set_option Elab.async false
set_option linter.all false
set_option maxRecDepth 100000
set_option maxHeartbeats 4000000
namespace Ks
open PySem PySem.Spec PyProof.Rows L2 Gd Kx
section
variable {P : Program} {w : World} {K : PySem.W.Frag} {mg : Str → Option Value} {base : Heap} {C : Addr}
/-- repr of a schema -/
def rpS (m : Md) : Str := ((((Str.empty ++ Str.ofString "Schema(") ++ ((toString ((m.ks.length : Nat) : Int) : String) : Str)) ++ Str.ofString " kinds, ") ++ ((toString ((m.rs.length : Nat) : Int) : String) : Str)) ++ Str.ofString " constructors)"
def spRp (C : Addr) : Sp := fun vs H Q _ => ∃ (a : Addr) (m : Md), vs = [.ref a] ∧ ScAt C H a m ∧ Good m ∧ Q (.str (rpS m)) H
theorem ok_rp {f : Addr} {fd : FuncData} (F : Fun K "__repr__" "Schema.__repr__" (cS 10) f fd) (T : TS0 mg) (Z : SCl K C) : FnOk P w K mg base CX0 1 f fd ["self"] (spRp C) := by
  refine F.ok scRp (fun vs H Q E h => ?_) (fun cv A ou s H vs Q E hr h => ?_)
  · obtain ⟨a, m, rfl, _⟩ := h
    rfl
  obtain ⟨a, m, rfl, ⟨dx, k, c, n, ⟨dp, e, _⟩, ek, ⟨xs, ec, hp⟩, en⟩, g, q⟩ := h
  have ln : xs.length = m.rs.length := Paired.length hp
  refine ⟨_, pss_one (ps_ret (pe_joined (.cons pe_str (.cons (pe_fmt (pe_callB call_len_seq (by rfl) T.len PySem.boot_len (pa_cons (pe_fld (pv 0) rfl) pa_nil))) (.cons pe_str (.cons (pe_fmt (pe_callB call_len_seq (by rfl) T.len PySem.boot_len (pa_cons (pe_fld (pv 0) rfl) pa_nil))) (.cons pe_str .nil))))))), ?_⟩
  have k4 := g.k4
  have r6 := g.r6
  have i1 : ∀ j : Nat, j ≤ 6 → ((j : Nat) : Int).natAbs.log2 < 1920 ∧ (((toString ((j : Nat) : Int) : String) : Str)).length ≤ 1 := by
    intro j hj
    have : ∀ i : _root_.Fin 7, (((i.1 : Nat) : Int)).natAbs.log2 < 1920 ∧ (((toString ((i.1 : Nat) : Int) : String) : Str)).length ≤ 1 := by
      intro i
      refine ⟨?_, ?_⟩
      · have : i.1 < 2 ^ 3 := Nat.lt_trans i.2 (by decide)
        by_cases z : ((i.1 : Nat) : Int).natAbs = 0
        · rw [z]; decide
        · exact (Nat.log2_lt z).mpr (Nat.lt_of_lt_of_le (show ((i.1 : Nat) : Int).natAbs < 2 ^ 3 by omega) (Nat.pow_le_pow_right (by decide) (by decide)))
      · revert i
        decide +kernel
    exact this ⟨j, by omega⟩
  obtain ⟨a1, a2⟩ := i1 m.ks.length (by omega)
  obtain ⟨b1, b2⟩ := i1 m.rs.length (by omega)
  have l1 : (Str.ofString "Schema(").length = 7 := by decide +kernel
  have l2 : (Str.ofString " kinds, ").length = 8 := by decide +kernel
  have l3 : (Str.ofString " constructors)").length = 14 := by decide +kernel
  have l0 : Str.empty.length = 0 := rfl
  have sz := sizeLine_eq
  have e1 : (m.ks.map V.str).length = m.ks.length := List.length_map ..
  rw [← e1] at a1 a2
  rw [← ln] at b1 b2
  have ap := fun x y : Str => Str.length_append x y
  refine ⟨_, rfl, ?_, .ref a, rfl, a, C, dx, _, _, rfl, e, Z.cls, Z.nk, scF_k, k, _, rfl, .inr (SqT.of ek), .inr ⟨_, rfl, a1, _, rfl, ?_, _, rfl, ?_, .ref a, rfl, a, C, dx, _, _, rfl, e, Z.cls, Z.nc, scF_c, c, _, rfl, .inr ec.sq, .inr ⟨_, rfl, b1, _, rfl, ?_, _, rfl, ?_, ?_⟩⟩⟩
  · rw [ap, l0, l1]; omega
  · rw [ap, ap, l0, l1]; omega
  · rw [ap, ap, ap, l0, l1, l2]; omega
  · rw [ap, ap, ap, ap, l0, l1, l2]; omega
  · rw [ap, ap, ap, ap, ap, l0, l1, l2, l3]; omega
  · rw [e1, ln]
    exact q
end
end Ks
set_option Elab.async false
set_option linter.all false
set_option maxRecDepth 100000
set_option maxHeartbeats 4000000
/-! raise C(e), C an own class of one field over any built-in base -/
namespace Gd
open PySem PySem.Spec PyProof.Rows L2
open PySem.W (excInitIn excOver excTail)
section
variable {X : Cx} {CX : CXT} {k : Nat} {f C : Addr} {fd : FuncData} {ps : List Str} {sp : Sp} {x : Str} {p pos : Pos} {e : Expr}
theorem run_rai {pins : List (Addr × Obj)} {σ : L2.St} {H : Hp} {s : Shared} {Q : XK} {us ws : List Value} {kw : List (Str × Value)} {zs : List V} (N : Ini X.K C f) (ty : PySem.W.typeIn X.K (.ref C) = some (.type "type")) (F : FnOk X.prog X.w X.K X.mg X.base CX k f fd ps sp) (hR : Room (k + 1) X.A)
    (hx : Passes CX X E0) (I : Inv X pins σ H s) (hl : us.length ≤ sizeLine) (hB : ∀ (s' : Shared) (self : Value), X.K.In s'.heap → BindsTo s' fd ⟨self :: us, kw⟩ (ps.zip (self :: ws))) (hV : Vals zs ws)
    (h : ∀ a, H a = none → sp (.ref a :: zs) (upd H a (exo a C none)) (fun v H2 => v = .non ∧ ∃ d fs, H2 a = some (exo a C (some d)) ∧ H2 d = some (exd d fs) ∧ H d = none ∧ Q (.ref C) (some d) (upd (del H2 a) d (.xd fs))) E0) : wpAny (model X.prog X.w) X.A (call (.ref C) us kw) (MkP X pins σ Q) X.xe s := by
  obtain ⟨B, nid, iid, tl, FB, SF, hin, hov⟩ := N.xc.base
  obtain ⟨hp, g, dr, t0, os⟩ := s
  obtain ⟨nm, N', qn, bs, bm, hdct, sn, sub, ab, col, dd, k0, k1, k2, k3, k5, hC, hT⟩ := PySem.W.excInit_of I.kIn hin
  have le1 : hp.objs.size ≤ hp.objs.size + 1 := Nat.le_succ _
  have n1 : H (hp.objs.size + 1) = none := I.hok.fresh le1
  have q1 := h (hp.objs.size + 1) n1
  have kk : ∀ b o, hp.get? b = some o → ((hp.push (PySem.W.kdv_tup us)).push (PySem.HandSPX.excO C hp.objs.size)).get? b = some o := fun b o e => Heap.get?_push_of_some _ (Heap.get?_push_of_some _ e)
  have g1 : ((hp.push (PySem.W.kdv_tup us)).push (PySem.HandSPX.excO C hp.objs.size)).get? (hp.objs.size + 1) = some (PySem.HandSPX.excO C hp.objs.size) := by heap_get
  have I2 : Inv X pins σ (upd H (hp.objs.size + 1) (exo (hp.objs.size + 1) C none)) ⟨(hp.push (PySem.W.kdv_tup us)).push (PySem.HandSPX.excO C hp.objs.size), g, dr, t0, os⟩ :=
    I.laid (t' := t0) (a := hp.objs.size + 1) (o := exo (hp.objs.size + 1) C none) (h' := (hp.push (PySem.W.kdv_tup us)).push (PySem.HandSPX.excO C hp.objs.size)) kk le1 (exo_ok g1)
  have r2 : Vals (V.ref (hp.objs.size + 1) :: zs) (Value.ref (hp.objs.size + 1) :: ws) := .cons rfl hV
  have hR2 : Room k (X.A.under (.builtin "type.__call__" ⟨.ref C :: us, kw⟩)) := by
    have d1 : (X.A.under (.builtin "type.__call__" ⟨.ref C :: us, kw⟩)).depth = X.A.depth + 1 := by
      first | rfl | simp [Around.under, Code.weight, Code.isCreation, Code.isGuard, Code.isCaller, Code.frames, Code.isFrame, guardIds]
    have d2 : (X.A.under (.builtin "type.__call__" ⟨.ref C :: us, kw⟩)).units = X.A.units + 1 := by
      first | rfl | simp [Around.under, Code.cUnits, Code.frames, Code.isFrame]
    exact ⟨hR.hd, by have := hR.dp; rw [d1]; omega, by have := hR.un; rw [d2]; omega⟩
  have e0 := I2.env0
  have e1 : Env0 X.prog X.w X.K X.mg X.base (X.A.under (.builtin "type.__call__" ⟨.ref C :: us, kw⟩)) X.stack ⟨(hp.push (PySem.W.kdv_tup us)).push (PySem.HandSPX.excO C hp.objs.size), g, dr, t0, os⟩ (upd H (hp.objs.size + 1) (exo (hp.objs.size + 1) C none)) :=
    ⟨by first | exact e0.frames | (simpa [Around.under, Code.envs, Code.isFrame, pushEnvs] using e0.frames), e0.mod, e0.bs, e0.bsz, e0.funs, e0.frf, e0.hok, e0.bare⟩
  refine wpAny_call (PySem.Gk.call_kw FB hT hC (PySem.W.looks_findIn I.kIn N.at_) (fun self => PySem.W.bind_fn I.kIn self N.ty) hl
    (codeAny_mono (F.run _ X.stack _ _ ⟨Value.ref (hp.objs.size + 1) :: us, kw⟩ (Value.ref (hp.objs.size + 1) :: ws) _ _ E0 hR2 e1 (hB _ _ I2.kIn) r2 q1) fun r s' hq' => ?_))
  match r, hq' with
  | .error er, hq' => exact hx pins σ _ _ er s' I2 hq'
  | .ok (.ret u), hq' =>
    obtain ⟨v, H2, os2, bare2, un2, hok2, rv, ev, d, fs, ea, ed, hd1, q2⟩ := hq'
    subst ev
    obtain ⟨h2, g2, d2, t2, os'⟩ := s'
    exact ⟨rv, mk_end (raises_own N.xc.sB ty) I le1 kk un2 hok2 os2 bare2 ea ed hd1 q2⟩
  | .ok .next, hq' => exact False.elim hq'
  | .ok .brk, hq' => exact False.elim hq'
  | .ok .cont, hq' => exact False.elim hq'
/-- C(e): one value -/
def tRai (C : Addr) (f : Str) (te : TE) : L2.St → Hp → XK → Prop := fun σ H Q => te σ H fun v H1 => ∀ d H', Same H1 H' → H1 d = none → H' d = some (.xd [(f, v)]) → Q (.ref C) (some d) H'
theorem pmk_one {nm g : Str} {te : TE} (O : One X.prog X.w X.K X.mg X.base nm g C) (ty : PySem.W.typeIn X.K (.ref C) = some (.type "type")) (hR : Room 2 X.A) (hg : Gl X nm) (he : PE X e te) (hdb : (nm == ("__debug__" : Str)) = false := by decide)
    (hs : starEach [e] X.env = (false, eval e X.env) :: starEach [] X.env := by rfl) (hpl : (backTo pos (starEach [] X.env)).any (·.1) = false := by rfl) :
    PMk X (.Call (.Name nm p) [e] [] pos) (tRai C g te) := by
  intro pins s σ H Q I h
  obtain ⟨fa, fd, N, F, b, sb⟩ := O.ini
  refine wpAny_Call_Name_kw (ld_glob I hg O.gl ?_ hdb)
  refine PySem.W.callWith_K (h₀ := X.base) I.ok.mod.kin N.xc.kp (thn ((pa_cons he pa_nil hs).run pos pins s σ H (fun zs H1 => match zs with | [v] => ∀ d H', Same H1 H' → H1 d = none → H' d = some (.xd [(g, v)]) → Q (.ref C) (some d) H' | _ => False) I ?_) fun us s2 z2 => ?_) hs hpl
  · exact h
  obtain ⟨zs, H2, I2, r2, q2⟩ := z2
  obtain ⟨v, rfl, q2⟩ : ∃ v, zs = [v] ∧ ∀ d H', Same H2 H' → H2 d = none → H' d = some (.xd [(g, v)]) → Q (.ref C) (some d) H' := by
    match zs, q2 with
    | [v], q2 => exact ⟨v, rfl, q2⟩
  obtain ⟨u, rfl, ru⟩ := vals1 r2
  refine ⟨I2.kIn, ?_⟩
  refine run_rai (ws := [u]) (zs := [v]) N ty F hR pass0 I2 (by rw [sizeLine_eq]; exact (by decide : 1 ≤ 16777216)) (fun s' self ki => ?_) (.cons ru .nil) fun a na => ?_
  · have := b s' [self, u] ki rfl
    rw [List.append_nil] at this
    exact this
  · refine ⟨a, v, rfl, upd_same, fun d nd n => ⟨rfl, d, [(g, v)], upd_same, ?_, ?_, ?_⟩⟩
    · rw [upd_ne n, upd_same]
    · rw [upd_ne n] at nd
      exact nd
    · have nd' : H2 d = none := by rw [upd_ne n] at nd; exact nd
      refine q2 d _ (fun b o eb => ?_) nd' upd_same
      rw [upd_ne (ne_of_none eb nd'), del_ne (ne_of_none eb na), upd_ne (ne_of_none eb na), upd_ne (ne_of_none eb nd'), upd_ne (ne_of_none eb na)]
      exact eb
end
end Gd
set_option Elab.async false
set_option linter.all false
set_option maxRecDepth 100000
set_option maxHeartbeats 4000000
/-! try: body, except (A, B, C) as n: suite, the three own classes -/
namespace Gd
open PySem PySem.Spec PyProof.Rows L2
theorem fly_more {h h' B : Heap} {l : List Env} {e : Addr} {Z : Obj → Prop} (k : ∀ b o, h.get? b = some o → h'.get? b = some o) (f : HandSPX.FlyingZ B l e Z h) : HandSPX.FlyingZ B l e Z h' := by
  obtain ⟨f1, f2, f3, oe, vs, T, oT, ts, g1, g2, g3, g4, g5, g6, g7, g8, g9⟩ := f
  exact ⟨fun b o q => k b o (f1 b o q), f2, f3.of_keeps fun b o q _ => ⟨o, k b o q, rfl⟩, oe, vs, T, oT, ts, k _ _ g1, g2, g3, g4, g5, g6, k _ _ g7, g8, g9⟩
/-- what such a clause wishes of an exception of the body -/
def wTup (K : PySem.W.Frag) (n : Nat) (c1 c2 c3 : Value) (i : Nat) (ts : Addr → Value → Option Addr → TS) (Wout : WX) (D : Ends) : WX := fun cls d σ H =>
  ∃ b, PySem.W.exmAny K cls [c1, c2, c3] = some b ∧ (b = true → ∀ a, H a = none → σ.length = n → ts a cls d ⟨fun τ G => D.nx (τ.set i none) G, D.rt, fun τ G => D.bk (τ.set i none) G, fun τ G => D.ct (τ.set i none) G⟩ (σ.set i (some (.ref a))) H) ∧ (b = false → Wout cls d σ H)
section
variable {X : Cx} {x1 x2 x3 n : Str} {c1 c2 c3 : Value} {i k : Nat} {body suite : List Stmt} {b₀ : Stmt} {p1 p2 p3 tp pos hpos : Pos} {tb : WX → TS} {ts : Addr → Value → Option Addr → TS} {Wout : WX}
theorem ps_try3 (hs : X.stack = X.env :: X.outer) (hf : X.env.frame = some X.env.locals) (hN : X.N.Nodup) (hi : X.N[i]? = some n) (hln : X.env.kindOf n = some .local)
    (g1 : Gl X x1) (m1 : X.mg x1 = some c1) (g2 : Gl X x2) (m2 : X.mg x2 = some c2) (g3 : Gl X x3) (m3 : X.mg x3 = some c3) (tk : Takes X Wout)
    (hb : ∀ (W : WX) (pn : List (Addr × Obj)) (xe : Value → Shared → Prop), Takes (X.tr pn xe) W → PassesOwn (model X.prog X.w) X.A X.env xe → PSs (X.tr pn xe) body (tb W))
    (hsu : ∀ (a : Addr) (oe : Obj) (cls : Value) (d : Option Addr) (pn : List (Addr × Obj)), Zc cls d oe → (∃ vs, oe.data = .fields vs) → PSs (X.suite a ((a, oe) :: pn)) (b₀ :: suite) (ts a cls d))
    (d1 : (x1 == ("__debug__" : Str)) = false := by decide) (d2 : (x2 == ("__debug__" : Str)) = false := by decide) (d3 : (x3 == ("__debug__" : Str)) = false := by decide) :
    PS X (.Try body [.ExceptHandler (some (.Tuple [.Name x1 p1, .Name x2 p2, .Name x3 p3] k tp)) (some n) (b₀ :: suite) hpos] [] [] pos) (fun D σ H => tb (wTup X.K X.N.length c1 c2 c3 i ts Wout D) D σ H) := by
  constructor
  intro pins s σ H D I0 h0
  have okX := I0.ok
  have frX : X.A.frames = some (X.env :: X.outer) := by rw [okX.frames, hs]
  have locN : Loc X.env.scope n := .inl hln
  refine wpAny_Try_except ?_
  refine wpAny_mono ((hb (wTup X.K X.N.length c1 c2 c3 i ts Wout D) (X.pn ++ pins) (fun e t1 => wpAny (model X.prog X.w) X.A (noteFrame e X.env) (fun _ t2 => wpAny (model X.prog X.w) X.A (setFlight e none) (fun _ t3 =>
    wpAny (model X.prog X.w) X.A (handleBy e X.env [.ExceptHandler (some (.Tuple [.Name x1 p1, .Name x2 p2, .Name x3 p3] k tp)) (some n) (b₀ :: suite) hpos]) (SP X pins D) X.xe t3) X.xe t2) X.xe t1) (fun u z xx => ?_) PassesOwn.looking).run [] s σ H D (I0.toTry _) h0) (fun f s1 hsp => ?_) (fun e s1 he => he)
  · obtain ⟨a, B, y, pins2, τ, G, cls, d, rfl, J0, nb, up, sky, na, os, ag, b, hb1, hyes, hno⟩ := xx
    have J : Inv X pins τ G y := J0.ofTry okX
    have sky2 : Sky B (X.env :: X.outer) a (Zc cls d) X.env.locals z.heap := by rw [← hs]; exact sky
    show wpAny (model X.prog X.w) X.A (noteFrame (.ref a) X.env) _ _ _
    refine Sky.land Zc.steady frX hf sky2 fun h3 fl3 up3 => ?_
    -- the three classes make a tuple
    have kp : ∀ b o, h3.get? b = some o → (h3.push { cls := .type "tuple", data := .seq [c1, c2, c3].toArray }).get? b = some o := fun b o e => Heap.get?_push_of_some _ e
    have fl4 := fly_more kp fl3
    have up4 : y.heap.UpToSlots (h3.push { cls := .type "tuple", data := .seq [c1, c2, c3].toArray }) := (up.trans up3).trans (Heap.UpToSlots.of_keeps kp)
    have J3 : Inv X pins τ G { z with heap := h3 } := J.landed nb fl3.1 (up.trans up3) os ag
    have J4 : Inv X pins τ G { z with heap := h3.push { cls := .type "tuple", data := .seq [c1, c2, c3].toArray } } := J.landed nb fl4.1 up4 os ag
    obtain ⟨oe3, vs3, he3, hz3, hd3⟩ := fl3.there
    have off : ∀ {g : Heap} {o : Obj} {vs : Array Value}, g.FunFrames B (X.env :: X.outer) → g.get? a = some o → o.data = .fields vs → a ∉ frs (X.env :: X.outer) := by
      intro g o vs ff e dd hm
      obtain ⟨_, o2, e2, hnf⟩ := ff.mem hm
      rw [e] at e2
      cases e2
      exact hnf _ dd
    have nfr := off fl3.2.2.1 he3 hd3
    have nL : a ≠ X.env.locals := fun q => nfr (List.mem_filterMap.mpr ⟨X.env, List.mem_cons_self, by rw [hf, q]⟩)
    have nF : a ∉ X.fs := fun hm => by
      obtain ⟨e, he, q⟩ := List.mem_filterMap.mp hm
      exact nfr (List.mem_filterMap.mpr ⟨e, List.mem_cons_of_mem _ he, q⟩)
    have S3 := J3.suite he3 hd3 na nL nF
    refine wpAny_handleBy_cons (codeAny_handlers_test ?_) (by intro q; cases q)
    have he4 := kp _ _ he3
    have LT : PySem.W.Looks (model X.prog X.w) (h3.push { cls := .type "tuple", data := .seq [c1, c2, c3].toArray }) (typeOf (.ref a)) cls := fun A Q E t kk q => wpAny_typeOf_ref (kk _ _ he4) (by rw [hz3.1]; exact q)
    have LM := PySem.W.exm_tup3 (M := model X.prog X.w) J4.kIn LT (tp := h3.objs.size) (Heap.get?_push_size _ rfl) hb1
    have evalT : ∀ {Q : Value → Shared → Prop} {E : Value → Shared → Prop}, Q (.ref h3.objs.size) { z with heap := h3.push { cls := .type "tuple", data := .seq [c1, c2, c3].toArray } } →
        wpAny (model X.prog X.w) (X.A.mark (some (.ref a))) (eval (.Tuple [.Name x1 p1, .Name x2 p2, .Name x3 p3] k tp) X.env) Q E { z with heap := h3 } := by
      intro Q E q
      refine wpAny_Tuple_spliced ?_
      refine Calls.spliced_cons (ld_glob (X := X.suite a ((a, oe3) :: (X.pn ++ pins))) S3 g1 m1 ?_ d1)
      refine Calls.spliced_cons (ld_glob (X := X.suite a ((a, oe3) :: (X.pn ++ pins))) S3 g2 m2 ?_ d2)
      refine Calls.spliced_cons (ld_glob (X := X.suite a ((a, oe3) :: (X.pn ++ pins))) S3 g3 m3 ?_ d3)
      exact Calls.spliced_nil ⟨by rw [sizeLine_eq]; exact (by decide : 3 ≤ 16777216), q⟩
    refine evalT (LM.here ?_)
    cases b with
    | true =>
      refine codeAny_handlers_suite_as ?_
      refine HandSPX.lands_againZ fl4 fun h5 fl5 up5 => ?_
      have J5 : Inv X pins τ G { z with heap := h5 } := J.landed nb fl5.1 (up4.trans up5) os ag
      obtain ⟨oe5, vs5, he5, hz5, hd5⟩ := fl5.there
      have S5 := J5.suite he5 hd5 na nL nF
      refine store_ok (X := X.suite a ((a, oe5) :: (X.pn ++ pins))) (v := .ref a) S5 hN hi locN rfl (fun s6 S6 => ?_) (.inr hln)
      refine wpAny_mono ((hsu a oe5 cls d (X.pn ++ pins) hz5 ⟨_, hd5⟩).run [] s6 _ G _ S6 (hyes rfl a na J.len)) (fun f s7 hsp => ?_) (fun _ _ q => False.elim q)
      have leave : ∀ {τ7 : L2.St} {G7 : Hp} {Q : Shared → Prop}, Inv (X.suite a ((a, oe5) :: (X.pn ++ pins))) [] τ7 G7 s7 → (∀ s8, Inv X pins (τ7.set i none) G7 s8 → Q s8) →
          wpAny (model X.prog X.w) X.A (do bindName X.env n .none; unbindBehindTheSuite X.env n hpos) (fun _ s8 => Q s8) X.xe s7 := fun {τ7 G7 Q} S7 hq => gone_ok (S7.unsuite okX) hN hi hln hq
      cases f with
      | ret u =>
        obtain ⟨v7, τ7, G7, S7, r7, q7⟩ := hsp
        exact leave S7 fun s8 J8 => ⟨_, _, _, J8, r7, q7⟩
      | next =>
        obtain ⟨τ7, G7, S7, q7⟩ := hsp
        exact leave S7 fun s8 J8 => ⟨_, _, J8, q7⟩
      | brk =>
        obtain ⟨τ7, G7, S7, q7⟩ := hsp
        exact leave S7 fun s8 J8 => ⟨_, _, J8, q7⟩
      | cont =>
        obtain ⟨τ7, G7, S7, q7⟩ := hsp
        exact leave S7 fun s8 J8 => ⟨_, _, J8, q7⟩
    | false =>
      show wpAny _ X.A (handleBy (.ref a) X.env []) _ _ _
      refine wpAny_handleBy_nil ?_
      obtain ⟨_, _, _, oe, vs, T, oT, ts2, hea, hza, hda, hv1, _⟩ := id fl4
      unfold PySem.passOn
      refine wpAny_bind (wpAny_field hea hda hv1 ?_)
      rw [if_neg (show ¬ ((Value.ref T == Value.none) = true) from by simp)]
      have on : wpAny (model X.prog X.w) X.A (setFlight (.ref a) X.env.frame) (fun _ s8 => wpAny (model X.prog X.w) X.A (throw (.ref a) : Sem Flow) (SP X pins D) X.xe s8) X.xe { z with heap := h3.push { cls := .type "tuple", data := .seq [c1, c2, c3].toArray } } := by
        rw [hf]
        refine HandSPX.setFlight_upZ fl4 fun h5 hh5 up5 => wpAny_throw (tk _ _ ?_)
        exact ⟨a, B, y, pins, τ, G, cls, d, rfl, J, nb, up4.trans up5, .inr (.inr (by rw [hs]; exact hh5)), na, os, ag, hno rfl⟩
      first
        | exact wpAny_bind (wpAny_pure (wpAny_bind on))
        | exact wpAny_bind on
  · cases f with
    | ret u =>
      obtain ⟨v, τ, G, J0, r, q⟩ := hsp
      exact ⟨v, τ, G, J0.ofTry okX, r, q⟩
    | next =>
      obtain ⟨τ, G, J0, q⟩ := hsp
      exact wpAny_execs_nil ⟨τ, G, J0.ofTry okX, q⟩
    | brk =>
      obtain ⟨τ, G, J0, q⟩ := hsp
      exact ⟨τ, G, J0.ofTry okX, q⟩
    | cont =>
      obtain ⟨τ, G, J0, q⟩ := hsp
      exact ⟨τ, G, J0.ofTry okX, q⟩
end
end Gd
set_option Elab.async false
set_option linter.all false
set_option maxRecDepth 100000
set_option maxHeartbeats 4000000
/-! the exception that is handled, handed to a def: its class asked, its field read; repr of any plain thing -/
namespace Gd
open PySem PySem.Spec PyProof.Rows L2
/-! ### repr(x), x plain data of any kind -/
def rShowV (K : PySem.W.Frag) : List V → Hp → VK → Prop := fun xs H Q => ∃ (v : V) (d : PyData), xs = [v] ∧ Dp K H v d ∧ d.showable = true ∧ d.hasDict = false ∧ d.depth ≤ 60 ∧ d.shown.length ≤ sizeLine ∧ Q (.str d.shown) H
theorem call_showV {X : Cx} (hG : X.A.guards = some []) (hu : X.A.units + 64 < cLine) : CallR X (.builtin "repr") (rShowV X.K) := by
  intro pins s σ H xs us Q I r h
  obtain ⟨v, d, rfl, hd, hs, hn, hz, hl, q⟩ := h
  obtain ⟨u, rfl, ru⟩ := vals1 r
  cases hd with
  | non =>
    cases (show u = Value.none from ru)
    exact PySem.P.repr_of_none ⟨.str "None", H, I.tok _, ⟨_, rfl⟩, q⟩
  | bl b =>
    cases (show u = Value.bool b from ru)
    refine PySem.P.repr_of_bool ?_
    cases b with
    | true => exact ⟨.str "True", H, I.tok _, ⟨_, rfl⟩, q⟩
    | false => exact ⟨.str "False", H, I.tok _, ⟨_, rfl⟩, q⟩
  | int i =>
    obtain ⟨t, rfl⟩ := (show ∃ t, u = Value.int i t from ru)
    refine PySem.P.repr_of_int ?_ ⟨.str (toString i), H, I.tok _, ⟨_, rfl⟩, q⟩
    rw [PyData.showable] at hs
    exact of_decide_eq_true hs
  | str z =>
    obtain ⟨t, rfl⟩ := (show ∃ t, u = Value.str z t from ru)
    exact PySem.P.repr_of_str ⟨.str (reprText z), H, I.tok _, ⟨_, rfl⟩, q⟩ hl
  | lst h1 h2 => exact call_show hG hu pins s σ H _ _ Q I r ⟨_, _, rfl, .lst h1 h2, hs, hn, hz, hl, q⟩
  | tup h1 h2 => exact call_show hG hu pins s σ H _ _ Q I r ⟨_, _, rfl, .tup h1 h2, hs, hn, hz, hl, q⟩
/-! ### the exception that is handled -/
/-- its object is known and stays: of the class C, its dict at d -/
def Pnd (X : Cx) (a C d : Addr) : Prop := ∃ oe : Obj, (a, oe) ∈ X.pn ∧ Zc (.ref C) (some d) oe ∧ ∃ vs, oe.data = .fields vs
theorem Pnd.obj {X : Cx} {pins : List (Addr × Obj)} {σ : L2.St} {H : Hp} {s : Shared} {a C d : Addr} {fs : List (Str × V)} (p : Pnd X a C d) (I : Inv X pins σ H s) (e : H d = some (.xd fs)) :
    ∃ (ox od : Obj) (mA : Str → Option Value), PySem.W.InstAt s.heap a ox C (some od) ∧ (∀ name, PySem.W.lookIn name od = some (mA name)) ∧ ∀ f, RelO (fs.lookup f) (mA f) := by
  obtain ⟨oe, hm, hz, vs, hd⟩ := p
  obtain ⟨ha, _⟩ := I.pin (a, oe) (List.mem_append_left _ hm)
  obtain ⟨mA, hns, hr⟩ := (show ObjOk X.prog X.w H s.heap d (.xd fs) from I.hok d _ e)
  obtain ⟨od, ho, hl⟩ := lookIn_ns hns
  exact ⟨oe, od, mA, ⟨ha, hz.1, by unfold PySem.W.notCls; rw [hd] <;> rfl, by rw [hz.2]; exact ho⟩, hl, hr⟩
/-- isinstance(e, c) -/
def rIsP (X : Cx) : List V → Hp → VK → Prop := fun xs H Q => ∃ (a C d : Addr) (fs : List (Str × V)) (c : V) (u : Value) (b : Bool), xs = [.ref a, c] ∧ Pnd X a C d ∧ H d = some (.xd fs) ∧ ClsV c u ∧ XC X.K C ∧ PySem.W.kitOne X.K (.ref C) u = some b ∧ Q (.bl b) H
theorem call_isP {X : Cx} : CallR X (.builtin "isinstance") (rIsP X) := by
  intro pins s σ H xs us Q I r h
  obtain ⟨a, C, d, fs, c, u, b, rfl, pn, ed, k, T, e, q⟩ := h
  obtain ⟨u1, u2, rfl, r1, r2⟩ := vals2 r
  have e2 := k.eq r2
  subst e2
  have e1 : u1 = Value.ref a := r1
  subst e1
  have hcl : (PySem.W.clsIn X.K C).isSome = true := by
    obtain ⟨cd, hc, _⟩ := PySem.W.any_some T.hd
    rw [hc]
    rfl
  obtain ⟨ox, od, mA, J, hl, rel⟩ := pn.obj I ed
  exact PySem.W.kia_one (PySem.W.kitx_exc hcl T.ga T.gg T.sB T.ca T.cn T.ct T.mo) I.kIn J e (fun z => nomatch z) fun tk => ⟨.bl b, H, I.tok tk, rfl, q⟩
/-- e.f -/
def tFp (X : Cx) (f : Str) (te : TE) : TE := fun σ H Q => te σ H fun x H1 => ∃ (a C d : Addr) (fs : List (Str × V)) (v : V), x = .ref a ∧ Pnd X a C d ∧ XC X.K C ∧ PySem.W.findIn X.K (.ref C) f = some none ∧ H1 d = some (.xd fs) ∧ fs.lookup f = some v ∧ Q v H1
theorem pe_fp {X : Cx} {e : Expr} {te : TE} {pos : Pos} {f : Str} (he : PE X e te) (hb : attributeBase e f X.env (eval e X.env) = eval e X.env := by rfl) : PE X (.Attribute e f pos) (tFp X f te) := by
  constructor
  intro pins s σ H Q I h
  refine attr_of hb (thn (he.run pins s σ H _ I h) fun u s1 z => ?_)
  obtain ⟨x, H1, I1, rx, a, C, d, fs, v, ex, pn, T, hno, ed, l, q⟩ := z
  subst ex
  have eu : u = Value.ref a := rx
  subst eu
  obtain ⟨ox, od, mA, J, hl, rel⟩ := pn.obj I1 ed
  obtain ⟨u2, hu, ru⟩ := RelO.some_of (v := v) (o := mA f) (by rw [← l]; exact rel f)
  exact HandSPX.exc_get I1.kIn J T.ga T.gg T.sB (PySem.W.findObj_own T.hd hno rfl (by rw [hl, hu])) (handed_of ru) ⟨v, H1, I1.tok _, ru, q⟩
/-! ### a def that gets it -/
abbrev SpE : Type := Value → Option Addr → Hp → VK → Prop
structure FnE (P : Program) (w : World) (K : PySem.W.Frag) (mg : Str → Option Value) (base : Heap) (k : Nat) (f : Addr) (fd : FuncData) (y : Str) (sp : SpE) : Prop where
  run : ∀ (A : Around) (ou : List Env) (s : Shared) (H : Hp) (gs : Args) (p : Addr × Obj) (cls : Value) (d : Option Addr) (Q : VK), A.guards = some [] → L2H.RoomH k A → L2H.PinOk ou H s p → Zc cls d p.2 → (∃ vs, p.2.data = .fields vs) → Env0 P w K mg base A ou s H →
    BindsTo s fd gs [(y, .ref p.1)] → sp cls d H Q → codeAny (model P w) A (.call (.ref f) gs) (CR CX0 ou P w H s Q E0) s
theorem okE {P : Program} {w : World} {K : PySem.W.Frag} {mg : Str → Option Value} {base : Heap} {x qn y : Str} {st : Stmt} {f : Addr} {fd : FuncData} {N : List Str} {k : Nat} {sp : SpE} (F : Fun K x qn st f fd) (S : FnScope N [y] (defScope st))
    (hb : ∀ (cv : Value) (A : Around) (ou : List Env) (s : Shared) (H : Hp) (p : Addr × Obj) (cls : Value) (d : Option Addr) (Q : VK), A.guards = some [] → L2H.RoomH k (A.deeper (envOfC qn (defScope st) s.heap.objs.size f cv)) → Zc cls d p.2 → (∃ vs, p.2.data = .fields vs) → sp cls d H Q →
      ∃ t, PSs (L2H.cxH CX0 P w K mg base N qn (defScope st) f cv A ou s H E0 p) (defBody st) t ∧ t { nx := fun _ H' => Q .non H', rt := Q } (start N [.ref p.1]) H) : FnE P w K mg base (k + 1) f fd y sp := by
  obtain ⟨oc, od, kV, dc, pm, an, cv, ct, osl, rfl, lk, hc⟩ := F.ex
  constructor
  intro A ou s H gs p cls d Q hG hR hP hz hf e0 hB hS
  have inK : K.In s.heap := e0.mod.kin.keeps (fun b o e => (e0.bs b o e).left)
  have noL : s.heap.NoLimit := e0.mod.nolimit.keeps (fun b o e => (e0.bs b o e).left)
  have kinds : ∀ q ∈ [(y, Value.ref p.1)], (defScope st).names.lookup q.1 = some .local ∨ ((defScope st).names.lookup q.1 = some .cell ∧ ((cellsFrom (s.heap.objs.size + 1) (defScope st).names []).lookup q.1).isSome = true) := by
    intro q hq
    rw [List.mem_singleton.mp hq]
    cases S.par y (List.mem_singleton.mpr rfl) with
    | inl q => exact .inl q
    | inr q => exact .inr ⟨q, PySem.W.cellsFrom_some _ _ _ (.inl q)⟩
  refine codeAny_call_function hR.depth (inK _ _ lk) rfl S.co S.gen rfl (PySem.W.codeRec_of inK hc) (hB _ _ _ _ ?_)
  refine wpAny_newFunctionEnv_cells S.kind kinds fun ev he s2 y2 => ?_
  subst he
  refine ⟨noL.keeps y2.toInCall.keep, codeAny_func ?_⟩
  obtain ⟨t, ht, hq⟩ := hb cv A ou s H p cls d Q hG (hR.deeper _) hz hf hS
  have J0 : Inv (L2H.cxH CX0 P w K mg base N qn (defScope st) f cv A ou s H E0 p) [] (start N [.ref p.1]) H s2 := L2H.inv_startH (ps := [y]) (us := [.ref p.1]) S hP e0 rfl (.cons rfl .nil) y2
  refine wpAny_mono (ht.run [] s2 (start N [.ref p.1]) H _ J0 hq) (fun fl s3 h3 => ?_) fun _ _ z => z
  have fin : ∀ {τ : L2.St} {H' : Hp} {v : V} {u : Value}, Inv (L2H.cxH CX0 P w K mg base N qn (defScope st) f cv A ou s H E0 p) [] τ H' s3 → RelV v u → Q v H' → CE ou P w H s Q u s3 := by
    intro τ H' v u J rv q
    exact ⟨v, H', J.os, J.bare, J.base, J.hok, rv, q⟩
  match fl, h3 with
  | .ret u, ⟨v, τ, H', J, rv, q⟩ => exact fin J rv q
  | .next, ⟨τ, H', J, q⟩ => exact fin (v := V.non) (u := Value.none) J rfl q
  | .brk, ⟨_, _, _, q⟩ => exact False.elim q
  | .cont, ⟨_, _, _, q⟩ => exact False.elim q
/-- f(e) in the suite that handles e -/
theorem pe_callE {X : Cx} {a : Addr} {oe : Obj} {cls : Value} {d : Option Addr} {pn : List (Addr × Obj)} {k i : Nat} {f : Addr} {fd : FuncData} {x n y : Str} {sp : SpE} {p1 p2 pos : Pos} (F : FnE X.prog X.w X.K X.mg X.base k f fd y sp) (hG : X.A.guards = some []) (hR : L2H.RoomH k X.A)
    (hz : Zc cls d oe) (hf : ∃ vs, oe.data = .fields vs) (hg : Gl X x) (hm : X.mg x = some (.ref f)) (hk : PySem.W.keepIn X.K (.ref f) = true) (hb : Binds X.K fd [y] []) (hN : X.N[i]? = some n) (hv : Vis X.env.scope n)
    (hdb : (x == ("__debug__" : Str)) = false := by decide) (hd : (n == ("__debug__" : Str)) = false := by decide) (hcd : (n == ("__classdict__" : Str)) = false := by decide) :
    PE (X.suite a ((a, oe) :: pn)) (.Call (.Name x p1) [.Name n p2] [] pos) (fun σ H Q => σ[i]? = some (some (.ref a)) ∧ sp cls d H Q) := by
  constructor
  intro pins s σ H Q I h
  obtain ⟨hs, hsp⟩ := h
  refine wpAny_Call_Name_kw (ld_glob I hg hm ?_ hdb)
  refine PySem.W.callWith_K (h₀ := X.base) I.ok.mod.kin hk ?_ (by rfl) (by rfl)
  refine Calls.spliced_cons (thn ((pe_var (X := X.suite a ((a, oe) :: pn)) (pos := p2) (i := i) hN hv hd hcd).run pins s σ H (fun v H1 => v = .ref a ∧ H1 = H) I ⟨.ref a, hs, rfl, rfl⟩) fun u s1 z => ?_)
  obtain ⟨v, H1, I1, r1, ev, eH⟩ := z
  subst ev eH
  have eu : u = Value.ref a := r1
  subst eu
  refine Calls.spliced_nil ⟨I1.kIn, ?_⟩
  have P1 := I1.pin (a, oe) (List.mem_append_left _ List.mem_cons_self)
  have hpin : L2H.PinOk X.stack H1 s1 (a, oe) := ⟨P1.1, P1.2.1, fun hm => (List.mem_cons.mp (I1.stkSub a hm)).elim P1.2.2.1 P1.2.2.2.1, P1.2.2.2.2⟩
  have b := hb s1 [.ref a] I1.kIn rfl
  rw [List.append_nil] at b
  refine wpAny_call (codeAny_mono (F.run (X.A.mark (some (.ref a))) X.stack s1 H1 ⟨[.ref a], []⟩ (a, oe) cls d Q hG ⟨hR.dp, hR.un⟩ hpin hz hf I1.env0 b hsp) fun r s' hq => ?_)
  match r, hq with
  | .error e, hq => exact (show False from hq).elim
  | .ok (.ret u), hq => exact I1.after hq
  | .ok .next, hq => exact False.elim hq
  | .ok .brk, hq => exact False.elim hq
  | .ok .cont, hq => exact False.elim hq
end Gd
set_option Elab.async false
set_option linter.all false
set_option maxRecDepth 100000
set_option maxHeartbeats 4000000
/-! a def that calls what it got, catches three classes, and has another def say what was caught -/
namespace Gd
open PySem PySem.Spec PyProof.Rows L2 LamX
abbrev nTold : List Str := ["_law_act", "_law_told_here", "_law_e"]
def TTold3 (K : PySem.W.Frag) (c1 c2 c3 : Value) (sp : SpE) : (XK → Hp → VK → Prop) → Hp → VK → Prop := fun tl H Q =>
  tl (fun cls d H' => ∃ b, PySem.W.exmAny K cls [c1, c2, c3] = some b ∧ (b = true → sp cls d H' Q) ∧ (b = false → False)) H
    (fun v H' => ∃ v', (some (some v) : Option (Option V)) = some (some v') ∧ ([V.str "given", v'].length ≤ sizeLine ∧ ∀ p, H' p = none → Q (.ref p) (upd H' p (.lst [.str "given", v']))))
theorem told3 {X : Cx} {x q : Str} {sg : Scope} {g fs : Addr} {c1 c2 c3 : Value} {cdg : Value} {fds : FuncData} {sp : SpE} {k j1 j2 : Nat} {p1 p2 p3 p4 p5 p6 p7 p8 p9 p10 p11 p12 p13 p14 p15 p16 p17 p18 : Pos} (S : FnScope nTold ["_law_act"] sg)
    (le : sg.names.lookup ("_law_e" : Str) = some .local) (lt : sg.names.lookup ("_law_told_here" : Str) = some .local)
    (g1 : sg.names.lookup ("TreeError" : Str) = some .globalImplicit) (m1 : X.mg "TreeError" = some c1) (g2 : sg.names.lookup ("StateError" : Str) = some .globalImplicit) (m2 : X.mg "StateError" = some c2) (g3 : sg.names.lookup ("LimitError" : Str) = some .globalImplicit) (m3 : X.mg "LimitError" = some c3)
    (gs : sg.names.lookup ("_law_sort" : Str) = some .globalImplicit) (ms : X.mg "_law_sort" = some (.ref fs)) (F : FnE X.prog X.w X.K X.mg X.base k fs fds "_law_e" sp) (ks : PySem.W.keepIn X.K (.ref fs) = true) (bs : Binds X.K fds ["_law_e"] []) (hG : X.A.guards = some []) (hR : Room (k + 1) X.A) :
    GivesTo X nTold x sg g cdg [.Try [.Assign [.Name "_law_told_here" p1] (.Call (.Name "_law_act" p2) [] [] p3) p4] [.ExceptHandler (some (.Tuple [.Name "TreeError" p5, .Name "StateError" p6, .Name "LimitError" p7] j1 p8)) (some "_law_e") [.Return (some (.Call (.Name "_law_sort" p9) [.Name "_law_e" p10] [] p11)) p12] p13] [] [] p14,
      .Return (some (.List [.Constant (.str "given") j2 p15, .Name "_law_told_here" p16] p17)) p18] "_law_act" q (TTold3 X.K c1 c2 c3 sp) := by
  intro f c' s H Q tl act hc h
  have rm : Room k (X.A.deeper (envOfC x sg s.heap.objs.size g cdg)) := hR.deeper _
  refine ⟨_, pss_cons (ps_try3 (X := (cxOf C8.CX0 X.prog X.w X.K X.mg X.base nTold x sg g cdg X.A X.stack s H C8.E0).nox) (i := 2) (n := "_law_e") (c1 := c1) (c2 := c2) (c3 := c3)
      (tb := fun W D σ H => ∃ Ech : XK, (∀ cls d σ' H', Ech cls d H' → W cls d σ' H') ∧ σ[0]? = some (some (.ref f)) ∧ H c' = some (CodeO c' q) ∧ tl Ech H fun v H' => D.nx (σ.set 1 (some v)) H')
      rfl rfl S.nd rfl le g1 m1 g2 m2 g3 m3 LamX.takes0 (fun W pn xe tk _ => ?_) (fun a oe cls d pn hz hf => pss_one (ps_ret (pe_callE (n := "_law_e") (i := 2) F hG ⟨rm.dp, rm.un⟩ hz hf gs ms ks bs rfl (.inl le))))) (pss_one (ps_ret (pe_lst (pa_cons pe_str (pa_cons (pe_var (i := 1) rfl (.inl lt)) pa_nil))))), ?_⟩
  · refine ⟨fun pins s' σ H' D I h' => ?_⟩
    obtain ⟨Ech, hW, h1, h2, h3⟩ := h'
    have hp := act W pn xe Ech p2 p3 tk hW
    have hq := pss_one (ps_set (i := 1) (pos := p4) (pos' := p1) S.nd rfl (.inl lt) hp)
    exact hq.run pins s' σ H' D I ⟨h1, h2, h3⟩
  · refine ⟨_, fun cls d σ' H' z => ?_, rfl, hc, h⟩
    obtain ⟨b, e1, e2, e3⟩ := z
    exact ⟨b, e1, fun hb a na hl => ⟨by rw [List.getElem?_set_self (by rw [hl]; exact (by decide : 2 < 3))], e2 hb⟩, fun hb => (e3 hb).elim⟩
end Gd
set_option Elab.async false
set_option linter.all false
set_option maxRecDepth 100000
set_option maxHeartbeats 4000000
/-! defs with a star parameter; max with a default -/
namespace Gd
open PySem PySem.Spec PyProof.Rows L2 StX
theorem bind_star3 {B : List Value → Sem (List (Str × Value))} {p1 p2 p3 pv : Str} (h0 : ∀ a b c, B [a, b, c] = (newTuple [] >>= fun t => pure [(p1, a), (p2, b), (p3, c), (pv, t)])) (h1 : ∀ a b c r rs, B (a :: b :: c :: r :: rs) = (newTuple (r :: rs) >>= fun t => pure [(p1, a), (p2, b), (p3, c), (pv, t)])) :
    ∀ us rest : List Value, us.length = [p1, p2, p3].length → B (us ++ rest) = (newTuple rest >>= fun t => pure ([p1, p2, p3].zip us ++ [(pv, t)]))
  | [a, b, c], [], _ => h0 a b c
  | [a, b, c], r :: rs, _ => h1 a b c r rs
/-- the greatest of some, at least one -/
def maxL : List Int → Int
  | [] => 0
  | n :: r => PySem.W.maxOf n r
theorem reads_ints {h : Heap} : ∀ {ns : List Int} {its : List Value}, Vals (ns.map V.int) its → ∃ as, ReadsAll h its (ns.map PyData.int) as
  | [], its, r => by
    cases its with
    | nil => exact ⟨_, .nil⟩
    | cons _ _ => cases r
  | n :: ns, its, r => by
    cases r with
    | @cons _ u _ us r1 r2 =>
      obtain ⟨t, e⟩ := (show ∃ t, u = Value.int n t from r1)
      subst e
      obtain ⟨as, ih⟩ := reads_ints (h := h) r2
      exact ⟨_, .cons (.int n t) ih⟩
section
variable {X : Cx}
/-- max(xs, default=d), xs a list of whole numbers -/
def rMaxD (K : PySem.W.Frag) : List V → List V → Hp → VK → Prop := fun xs zs H Q => ∃ (a : Addr) (ns : List Int) (d : V), xs = [.ref a] ∧ zs = [d] ∧ SqL K H a (ns.map V.int) ∧ (ns = [] → Q d H) ∧ (ns ≠ [] → Q (.int (maxL ns)) H)
theorem call_maxD (hc : X.calm = true) (hu : X.A.units + 1 < cLine) : CallRK X (.builtin "max") ["default"] (rMaxD X.K) := by
  intro pins s σ H xs zs us ws Q I r rz h
  obtain ⟨a, ns, d, rfl, rfl, hl, h0, h1⟩ := h
  obtain ⟨u, rfl, rx⟩ := r.one
  cases rx
  obtain ⟨dv, rfl, rd⟩ := rz.one
  obtain ⟨its, rv, pl, hz⟩ := I.list hl
  have hold : PySem.W.HoldAll s.heap its.toArray.toList ns := by
    obtain ⟨as, q⟩ := reads_ints (h := s.heap) rv
    have : its.toArray.toList = its := by simp
    rw [this]
    exact ⟨as, q⟩
  show wpAny _ _ (call (.builtin "max") [.ref a] [(Str.ofString "default", dv)]) _ _ _
  refine PySem.W.max_list_datum_default (I.ok.hd hc) pl.isList hold (by show X.A.units + 1 + 0 < cLine; omega) (fun e h' tk hk => ⟨d, H, I.kept (t' := tk) hk, rd, h0 e⟩) fun y ys i v h' tk e hi hh hk => ?_
  subst e
  obtain ⟨as, q⟩ := hh
  refine ⟨_, H, I.kept (t' := tk) hk, ?_, h1 (by simp)⟩
  have q' : Reads h' v (.int (PySem.W.maxOf y ys)) as := q
  cases q' with
  | int _ t => exact ⟨t, rfl⟩
end
/-! ### an instance made by keywords, the star parameter empty -/
def FnRK (P : Program) (w : World) (K : PySem.W.Frag) (mg : Str → Option Value) (base : Heap) (CX : CXT) (k : Nat) (f : Addr) (ks : List Str) (sp : Sp) : Prop :=
  ∀ (A : Around) (outer : List Env) (s : Shared) (H : Hp) (u : Value) (v : V) (ws : List Value) (zs : List V) (Q : VK) (E : XK), Room k A → Env0 P w K mg base A outer s H → RelV v u → Vals zs ws → zs.length = ks.length → sp (v :: zs) H Q E →
    codeAny (model P w) A (.call (.ref f) ⟨[u], ks.zip ws⟩) (CR CX outer P w H s Q E) s
section
variable {CX : CXT} {P : Program} {w : World} {K : PySem.W.Frag} {mg : Str → Option Value} {base : Heap} {k : Nat} {f : Addr} {name qual : Str} {params : Arguments} {body : List Stmt} {scope : Scope} {dV kV doc pm cdv ct oc : Value} {an od : Option Addr}
  {osl : Array (Option Value)} {N ps ks : List Str} {sp : Sp} {g : List Value → List Value} {gV : List V → List V} {pv : Str}
theorem fn_starK (lk : K.lookup f = some ⟨oc, od, .func (PySem.W.fnOf name qual params body scope dV kV doc pm an cdv ct), osl⟩) (hcd : PySem.W.codeIn K cdv qual = true) (S : FnScope N (ps ++ [pv]) scope) (hCX : CXUp CX)
    (hb : ∀ (u : Value) (ws : List Value), ws.length = ks.length → bindArgs (PySem.W.fnOf name qual params body scope dV kV doc pm an cdv ct) ⟨[u], ks.zip ws⟩ = (newTuple [] >>= fun t => pure (ps.zip (u :: g ws) ++ [(pv, t)])))
    (hg : ∀ (zs : List V) (ws : List Value), Vals zs ws → zs.length = ks.length → Vals (gV zs) (g ws) ∧ (gV zs).length + 1 = ps.length)
    (hbody : ∀ (A : Around) (outer : List Env) (s : Shared) (H : Hp) (vs : List V) (Q : VK) (E : XK), Room k (A.deeper (envOfC qual scope s.heap.objs.size f cdv)) → sp vs H Q E →
      ∃ t, PSs (cxOf CX P w K mg base N qual scope f cdv A outer s H E) body t ∧ t { nx := fun _ H' => Q .non H', rt := Q } (start N vs) H) :
    FnRK P w K mg base CX (k + 1) f ks (fun vs H Q E => ∃ v zs, vs = v :: zs ∧ ∀ p, H p = Option.none → sp (v :: gV zs ++ [V.ref p]) (upd H p (.tup [])) Q E) := by
  intro A outer s H u v ws zs Q E hr e0 r rz hl hsp
  obtain ⟨v', zs', ev, hq⟩ := hsp
  injection ev with e1 e2
  subst e1 e2
  have hn : H s.heap.objs.size = Option.none := e0.hok.fresh (Nat.le_refl _)
  obtain ⟨g1, g2⟩ := hg zs ws rz hl
  refine run_bnd lk hcd S hr e0 (G := fun xs H2 => ∃ p, H p = Option.none ∧ xs = v :: gV zs ++ [V.ref p] ∧ H2 = upd H p (.tup [])) (fun A' Ex Q' h => ?_) fun s2 H2 xs ⟨p, hp, ex, eH⟩ hr' => ?_
  · rw [hb u ws (by rw [← rz.length]; exact hl)]
    refine wpAny_bind (wpAny_newTuple (wpAny_pure ?_) (Nat.zero_le _))
    have new : ObjOk P w (upd H s.heap.objs.size (.tup [])) (s.heap.push ({ cls := .type "tuple", data := .seq ([] : List Value).toArray } : Obj)) s.heap.objs.size (.tup []) := ⟨Nat.zero_le _, [], .nil, ⟨_, Heap.get?_push_size _ rfl, rfl, _, rfl⟩⟩
    have un := un_laid (fs := frs outer) (s := s) (o := ({ cls := .type "tuple", data := .seq ([] : List Value).toArray } : Obj)) (u := .tup []) hn
    have r2 : Vals (v :: gV zs) (u :: g ws) := .cons r g1
    have z := h _ _ (v :: gV zs ++ [V.ref s.heap.objs.size]) (u :: g ws ++ [Value.ref s.heap.objs.size]) (env0_laid e0 new) un rfl (fun e s' => hCX outer s H _ _ E e s' un (fun b o q => Heap.get?_push_of_some _ q) rfl) (r2.append (.cons rfl .nil))
      (by rw [List.length_append, List.length_append, List.length_cons, g2] <;> rfl) ⟨_, hn, rfl, rfl⟩
    have el : (u :: g ws).length = ps.length := by rw [← r2.length, List.length_cons, g2]
    rw [List.zip_append el.symm] at z
    exact z
  · subst ex eH
    exact hbody A outer s2 _ _ Q E hr' (hq p hp)
end
def tMakeRK (C : Addr) (ks : List Str) (sp : Sp) (E : XK) (tk : TA) : TE := fun σ H Q => tk σ H fun zs H1 => zs.length = ks.length ∧ ∀ x dx, H1 x = Option.none → H1 dx = Option.none → dx ≠ x →
  sp (V.ref x :: zs) (upd (upd H1 dx (.own x)) x (.ins C dx [])) (fun v H2 => v = .non ∧ Q (.ref x) H2) E
section
variable {X : Cx} {CX : CXT} {k i : Nat} {f C : Addr} {sp : Sp} {E : XK} {x : Str} {kws : List Keyword} {ks : List Str} {tk : TA} {p pos : Pos}
theorem pe_makeRK (M : Mk X.K C f) (F : FnRK X.prog X.w X.K X.mg X.base CX k f ks sp) (hr : Room (k + 1) X.A) (hg : Gl X x) (hm : X.mg x = some (.ref C)) (hx : Passes CX X E) (hkw : PK X kws tk)
    (hall : (backToKw pos (keywordEach kws X.env)).all (·.1.isSome) = true := by rfl) (hks : (backToKw pos (keywordEach kws X.env)).filterMap (·.1) = ks := by rfl) (hdb : (x == ("__debug__" : Str)) = false := by decide)
    (hpl : ((backTo pos (starEach [] X.env)).any (·.1) || (backToKw pos (keywordEach kws X.env)).any (·.1.isNone)) = false := by rfl) : PE X (.Call (.Name x p) [] kws pos) (tMakeRK C ks sp E tk) := by
  refine ⟨fun pins s σ H Q I h => ?_⟩
  refine wpAny_Call_Name_kw (ld_glob I hg hm ?_ hdb)
  refine PySem.W.callWith_KW0 (h₀ := X.base) I.ok.mod.kin M.kp hall ?_ hpl
  refine thn (hkw.run pos pins s σ H _ I h) fun ws s2 ⟨zs, H2, I2, rz, l2, q2⟩ => ⟨I2.kIn, ?_⟩
  rw [hks]
  have hq := q2 (s2.heap.objs.size + 1) s2.heap.objs.size (I2.hok.fresh (Nat.le_succ _)) (I2.hok.fresh (Nat.le_refl _)) (Nat.ne_of_lt (Nat.lt_succ_self _))
  have I3 := Inv.made (C := C) I2
  refine wpAny_call (make_map (f := f) I2.kIn M.makes M.init (beq_iff_eq.mp M.fn) (codeAny_mono (F _ X.stack _ _ (Value.ref (s2.heap.objs.size + 1)) (V.ref (s2.heap.objs.size + 1)) ws zs _ E (hr.make C [] (ks.zip ws)) (I3.env0.make C [] (ks.zip ws)) rfl rz l2 hq) fun r s' hq' => ?_))
  cases r with
  | error e => exact hx pins σ _ _ e s' I3 hq'
  | ok fl =>
    cases fl with
    | ret u =>
      obtain ⟨v, H', I4, rv, ev, q3⟩ := I3.after hq'
      subst ev
      exact ⟨rv, ⟨V.ref (s2.heap.objs.size + 1), H', I4, rfl, q3⟩⟩
    | next => exact False.elim hq'
    | brk => exact False.elim hq'
    | cont => exact False.elim hq'
end
end Gd
set_option Elab.async false
set_option linter.all false
set_option maxRecDepth 100000
set_option maxHeartbeats 4000000
/-! an instance made through a value that is its class, the last fields by a star -/
namespace Gd
open PySem PySem.Spec PyProof.Rows L2 StX
def tMakeV (C : Addr) (sp : Sp) (E : XK) (tf : TE) (t : TA) : TE := fun σ H Q => tf σ H fun y H0 => y = .ref C ∧ t σ H0 fun vs H1 => ∀ x dx, H1 x = Option.none → H1 dx = Option.none → dx ≠ x →
  sp (V.ref x :: vs) (upd (upd H1 dx (.own x)) x (.ins C dx [])) (fun v H2 => v = .non ∧ Q (.ref x) H2) E
section
variable {X : Cx} {CX : CXT} {k i : Nat} {f C : Addr} {sp : Sp} {E : XK} {x : Str} {e fe : Expr} {es : List Expr} {te tf : TE} {t : TA} {p pos : Pos}
theorem pe_makeVS (hf : PE X fe tf) (M : Mk X.K C f) (F : FnR X.prog X.w X.K X.mg X.base CX k f sp) (hr : Room (k + 1) X.A) (hx : Passes CX X E) (ha : PA X (e :: es) t)
    (ht : eval (.Call fe (e :: es) [] pos) X.env = (do callWith pos (← eval fe X.env) [] (backTo pos (starEach (e :: es) X.env)) (backToKw pos (keywordEach [] X.env))) := by rfl)
    (he : starEach (e :: es) X.env = (false, eval e X.env) :: starEach es X.env := by rfl) (hst : (backTo pos (starEach es X.env)).any (·.1) = true := by rfl) : PE X (.Call fe (e :: es) [] pos) (tMakeV C sp E tf t) := by
  refine ⟨fun pins s σ H Q I h => ?_⟩
  refine Call_ (thn (hf.run pins s σ H _ I h) fun u s1 ⟨y, H1, I1, ry, ey, q⟩ => ?_) ht
  subst ey
  obtain rfl : u = Value.ref C := ry
  refine PySem.W.callWith_S2 (h₀ := X.base) I1.ok.mod.kin M.kp (thn (ha.run pos pins s1 σ H1 _ I1 q) fun us s2 ⟨vs, H2, I2, r, q2⟩ => ⟨I2.kIn, ?_⟩) he hst
  exact run_makeR M F hr hx I2 r q2
end
/-! ### v not in x, x an instance -/
def rNotInO (C : Addr) (sp : Sp) (E : XK) : R2 := fun v y H Q => ∃ a dx fs, y = .ref a ∧ H a = some (.ins C dx fs) ∧ sp [.ref a, v] H (fun r H' => ∃ b : Bool, r = .bl b ∧ Q (.bl (!b)) H') E
section
variable {X : Cx} {CX : CXT} {k : Nat} {C f : Addr} {fd : FuncData} {ps : List Str} {sp : Sp} {E : XK}
theorem op_notInO (D : Dm X.K C "__contains__" f) (F : FnOk X.prog X.w X.K X.mg X.base CX k f fd ps sp) (hr : Room k X.A) (hb : Binds X.K fd ps []) (hx : Passes CX X.nox E) : OpR X (compareOp .NotIn) (rNotInO C sp E) := by
  intro pins s σ H x y v u Q I rx ry h
  obtain ⟨a, dx, fs, rfl, ea, q⟩ := h
  obtain rfl : u = Value.ref a := ry
  obtain ⟨mA, J, _⟩ := ins_get I.hok ea
  obtain ⟨od, J, _⟩ := J.look
  obtain ⟨m, hF⟩ := I.fr
  refine PySem.W.notIn_K hF I.ok.mod.kin J D.at_ D.fn (wpAny_mono (run_at F hr I.env0 hb hx I (.cons (show RelV (V.ref a) (Value.ref a) from rfl) (.cons rx .nil)) q) (fun r s' z => ?_) fun _ _ e => e)
  obtain ⟨y, H', I', ry, b, ey, q2⟩ := z
  subst ey
  obtain rfl : r = Value.bool b := ry
  exact wpAny_pure ⟨.bl (!b), H', I', rfl, q2⟩
end
/-! ### a comprehension over zip of two tuples of one length -/
theorem lc_zipT {K : PySem.W.Frag} {a b : Addr} {xs ys : List V} {g : TG} {tt : TT} {te : TE} {vs : List Nat} {σ : L2.St} {H1 : Hp} {D : Addr} {Qd : Hp → Prop} (hl : xs.length = ys.length) (Pv : Nat → Hp → Prop) (h0 : Pv 0 (upd H1 D (.lst []))) (hq : ∀ i H, Pv i H → SqT K H a xs ∧ SqT K H b ys)
    (hs : ∀ (i : Nat) (x y : V) (T : Addr) (H : Hp), xs[i]? = some x → ys[i]? = some y → Pv i H → H T = none → g (.ref T) (wipe σ vs) (upd H T (.tup [x, y])) fun σ2 H2 => wipe σ2 vs = wipe σ vs ∧ tt σ2 H2 fun b H3 =>
      if b = true then te σ2 H3 fun y H4 => ∃ acc, H4 D = some (.lst acc) ∧ acc.length < sizeLine ∧ Pv (i + 1) (upd H4 D (.lst (acc ++ [y]))) else Pv (i + 1) H3) (hd : ∀ H, Pv xs.length H → Qd H) :
    ∃ W : Nat → Nat → Hp → Prop, (∃ m, W 0 m (upd H1 D (.lst []))) ∧ ∀ i m H, W i m H →
      ((RZ.ItzT K a b).stop i H ∧ Qd H) ∨ ((RZ.ItzT K a b).go i H ∧ ∃ Nx : Hp → Prop, (∀ H', Nx H' → ∃ m', m' < m ∧ W (i + 1) m' H') ∧ ∀ x H', (RZ.ItzT K a b).yld i H x H' → g x (wipe σ vs) H' fun σ2 H2 => wipe σ2 vs = wipe σ vs ∧ tt σ2 H2 fun b H3 =>
        if b = true then te σ2 H3 fun y H4 => ∃ acc, H4 D = some (.lst acc) ∧ acc.length < sizeLine ∧ Nx (upd H4 D (.lst (acc ++ [y]))) else Nx H3) := by
  refine ⟨fun i m H => m = xs.length - i ∧ i ≤ xs.length ∧ Pv i H, ⟨xs.length, rfl, Nat.zero_le _, h0⟩, ?_⟩
  rintro i m H ⟨rfl, hi, p⟩
  obtain ⟨qx, qy⟩ := hq i H p
  by_cases hlt : i < xs.length
  · have hx : xs[i]? = some xs[i] := List.getElem?_eq_getElem hlt
    have hlt2 : i < ys.length := by omega
    have hy : ys[i]? = some ys[i] := List.getElem?_eq_getElem hlt2
    refine .inr ⟨⟨xs, ys, _, _, qx, qy, hx, hy⟩, Pv (i + 1), fun H' p' => ⟨xs.length - (i + 1), by omega, rfl, hlt, p'⟩, fun v H' y => ?_⟩
    obtain ⟨T, x', y', rfl, hT, rfl, f1, f2⟩ := y
    exact hs i x' y' T H (f1 xs qx) (f2 ys qy) p hT
  · have e : i = xs.length := by omega
    subst e
    exact .inl ⟨⟨xs, ys, qx, qy, Or.inl (Nat.le_refl _)⟩, hd H p⟩
/-! ### C.m(k = v, ..), m a classmethod: keywords alone -/
def tCMethK (C : Addr) (sp : Sp) (gV : List V → List V → List V) (E : XK) (ta : TE) (tk : TA) : TE := fun σ H Q => ta σ H fun x H1 => x = .ref C ∧ tk σ H1 fun zs H2 => sp (gV [.ref C] zs) H2 Q E
section
variable {X : Cx} {CX : CXT} {k : Nat} {C p f : Addr} {mc : Value} {fd : FuncData} {ps ks : List Str} {sp : Sp} {E : XK} {ta : TE} {tk : TA} {o : Expr} {m : Str} {apos pos : Pos} {kws : List Keyword} {g : List Value → List Value → List Value} {gV : List V → List V → List V}
theorem run_fnkC {pins : List (Addr × Obj)} {σ : L2.St} {H : Hp} {s : Shared} {Q : VK} {us ws : List Value} {vs zs : List V} (F : FnOk X.prog X.w X.K X.mg X.base CX k f fd ps sp) (hr : Room k X.A) (hb : KBinds X.K fd ps ks g gV) (hx : Passes CX X E)
    (I : Inv X pins σ H s) (r : Vals vs us) (rz : Vals zs ws) (h : sp (gV vs zs) H Q E) : codeAny (model X.prog X.w) X.A (.call (.ref f) ⟨us, ks.zip ws⟩) (fun r s' => match r with | .ok (.ret v) => EP X pins σ Q v s' | .ok _ => False | .error e => X.xe e s') s := by
  have r2 := hb.rel r rz
  have hl : (g us ws).length = ps.length := by rw [← r2.length]; exact F.len _ _ _ _ h
  refine codeAny_mono (F.run X.A X.stack s H ⟨us, ks.zip ws⟩ (g us ws) (gV vs zs) Q E hr I.env0 (hb.to s us ws I.kIn hl) r2 h) fun r s' hq => ?_
  cases r with
  | error e => exact hx pins σ H s e s' I hq
  | ok fl =>
    cases fl with
    | ret u => exact I.after hq
    | next => exact False.elim hq
    | brk => exact False.elim hq
    | cont => exact False.elim hq
theorem pe_cmethK0 {pl : Sem Bool} (he : PE X o ta) (rd : ClX.CRead X.K C mc) (c : ClX.CMet X.K C mc m p f) (F : FnOk X.prog X.w X.K X.mg X.base CX k f fd ps sp) (hr : Room k X.A) (hb : KBinds X.K fd ps ks g gV) (hx : Passes CX X E)
    (hkw : PK X kws tk) (hall : (backToKw pos (keywordEach kws X.env)).all (·.1.isSome) = true := by rfl) (hks : (backToKw pos (keywordEach kws X.env)).filterMap (·.1) = ks := by rfl)
    (hpl : ((backTo pos (starEach [] X.env)).any (·.1) || (backToKw pos (keywordEach kws X.env)).any (·.1.isNone)) = false := by rfl)
    (ht : eval (.Call (.Attribute o m apos) [] kws pos) X.env = (do
      let ov ← eval o X.env
      standAt apos.atName
      let (f, first) ← holding [ov] (getMethod ov m pl)
      callWith pos f first (backTo pos (starEach [] X.env)) (backToKw pos (keywordEach kws X.env))) := by rfl) :
    PE X (.Call (.Attribute o m apos) [] kws pos) (tCMethK C sp gV E ta tk) := by
  refine ⟨fun pins s σ H Q I h => ?_⟩
  refine PySem.W.methodCall_KW (pl := pl) (thn (he.run pins s σ H _ I h) fun u s1 ⟨x, H1, I1, rx, ex, q⟩ => ?_) ht
  subst ex
  obtain rfl : u = Value.ref C := rx
  refine ClX.getmethcm_ok I1 rd c fun s2 I2 => ?_
  refine PySem.W.callWith_of (P := PySem.W.MethP X.K _ f (.ref C)) hpl (PySem.W.keeps_M c.fi) (evalArgs_kw2_nil hall (thn (hkw.run pos _ s2 σ H1 _ I2 q) fun us s3 ⟨zs, H2, I3, rz, q2⟩ => ⟨⟨ClX.pin_at I3, I3.kIn⟩, ?_⟩))
  rw [hks]
  have z : wpAny (model X.prog X.w) X.A (call (.ref s1.heap.objs.size) [] (ks.zip us)) (EP X ((s1.heap.objs.size, PySem.W.methodObj (.ref f) (.ref C)) :: pins) σ Q) X.xe s3 :=
    wpAny_call (PySem.W.method_call (ClX.pin_at I3) (run_fnkC (us := [.ref C]) (vs := [.ref C]) F hr hb hx I3 (.cons rfl .nil) rz q2))
  exact thn z fun _ _ y => ClX.unpinE y
end
end Gd
set_option Elab.async false
set_option linter.all false
set_option maxRecDepth 100000
set_option maxHeartbeats 4000000
/-! a def called where an exception is handled (its repr asked there); a handled exception without attributes; readings of one call -/
namespace Gd
open PySem PySem.Spec PyProof.Rows L2
structure FnP (P : Program) (w : World) (K : PySem.W.Frag) (mg : Str → Option Value) (base : Heap) (k : Nat) (f : Addr) (fd : FuncData) (ps : List Str) (sp : Sp) : Prop where
  len : ∀ vs H Q E, sp vs H Q E → vs.length = ps.length
  run : ∀ (A : Around) (ou : List Env) (s : Shared) (H : Hp) (gs : Args) (us : List Value) (vs : List V) (Q : VK) (p : Addr × Obj), L2H.RoomH k A → L2H.PinOk ou H s p → Env0 P w K mg base A ou s H → BindsTo s fd gs (ps.zip us) → Vals vs us → sp vs H Q E0 →
    codeAny (model P w) A (.call (.ref f) gs) (CR CX0 ou P w H s Q E0) s
theorem okP {P : Program} {w : World} {K : PySem.W.Frag} {mg : Str → Option Value} {base : Heap} {x qn : Str} {st : Stmt} {f : Addr} {fd : FuncData} {N ps : List Str} {k : Nat} {sp : Sp} (F : Fun K x qn st f fd) (S : FnScope N ps (defScope st)) (hl : ∀ vs H Q E, sp vs H Q E → vs.length = ps.length)
    (hb : ∀ (cv : Value) (A : Around) (ou : List Env) (s : Shared) (H : Hp) (vs : List V) (Q : VK) (p : Addr × Obj), L2H.RoomH k (A.deeper (envOfC qn (defScope st) s.heap.objs.size f cv)) → sp vs H Q E0 →
      ∃ t, PSs (L2H.cxH CX0 P w K mg base N qn (defScope st) f cv A ou s H E0 p) (defBody st) t ∧ t { nx := fun _ H' => Q .non H', rt := Q } (start N vs) H) : FnP P w K mg base (k + 1) f fd ps sp := by
  obtain ⟨oc, od, kV, dc, pm, an, cv, ct, osl, rfl, lk, hc⟩ := F.ex
  refine ⟨hl, fun A ou s H gs us vs Q p hR hP e0 hB rv0 hS => ?_⟩
  have len := hl _ _ _ _ hS
  have inK : K.In s.heap := e0.mod.kin.keeps (fun b o e => (e0.bs b o e).left)
  have noL : s.heap.NoLimit := e0.mod.nolimit.keeps (fun b o e => (e0.bs b o e).left)
  have kinds : ∀ q ∈ ps.zip us, (defScope st).names.lookup q.1 = some .local ∨ ((defScope st).names.lookup q.1 = some .cell ∧ ((cellsFrom (s.heap.objs.size + 1) (defScope st).names []).lookup q.1).isSome = true) := by
    intro q hq
    have hm := (List.of_mem_zip (a := q.1) (b := q.2) hq).1
    cases S.par q.1 hm with
    | inl q => exact .inl q
    | inr q => exact .inr ⟨q, PySem.W.cellsFrom_some _ _ _ (.inl q)⟩
  refine codeAny_call_function hR.depth (inK _ _ lk) rfl S.co S.gen rfl (PySem.W.codeRec_of inK hc) (hB _ _ _ _ ?_)
  refine wpAny_newFunctionEnv_cells S.kind kinds fun ev he s2 y2 => ?_
  subst he
  refine ⟨noL.keeps y2.toInCall.keep, codeAny_func ?_⟩
  obtain ⟨t, ht, hq⟩ := hb cv A ou s H vs Q p (hR.deeper _) hS
  have J0 : Inv (L2H.cxH CX0 P w K mg base N qn (defScope st) f cv A ou s H E0 p) [] (start N vs) H s2 := L2H.inv_startH S hP e0 len rv0 y2
  refine wpAny_mono (ht.run [] s2 (start N vs) H _ J0 hq) (fun fl s3 h3 => ?_) fun _ _ z => z
  have fin : ∀ {τ : L2.St} {H' : Hp} {v : V} {u : Value}, Inv (L2H.cxH CX0 P w K mg base N qn (defScope st) f cv A ou s H E0 p) [] τ H' s3 → RelV v u → Q v H' → CE ou P w H s Q u s3 := by
    intro τ H' v u J rv q
    exact ⟨v, H', J.os, J.bare, J.base, J.hok, rv, q⟩
  match fl, h3 with
  | .ret u, ⟨v, τ, H', J, rv, q⟩ => exact fin J rv q
  | .next, ⟨τ, H', J, q⟩ => exact fin (v := V.non) (u := Value.none) J rfl q
  | .brk, ⟨_, _, _, q⟩ => exact False.elim q
  | .cont, ⟨_, _, _, q⟩ => exact False.elim q
theorem roomH_in1 {k : Nat} {A : Around} (r : L2H.RoomH (k + 1) A) : L2H.RoomH k A.in1 :=
  ⟨by have := r.dp; show A.depth + 3 * k + 5 < _; omega, by have := r.un; show A.units + 1 + 16 * k + 200 < _; omega⟩
theorem call_reprP {X : Cx} {k : Nat} {C f : Addr} {fd : FuncData} {ps : List Str} {sp : Sp} (D : Dm X.K C "__repr__" f) (F : FnP X.prog X.w X.K X.mg X.base k f fd ps sp) (hr : L2H.RoomH (k + 1) X.A) (hb : Binds X.K fd ps []) (hp : ∃ p, p ∈ X.pn) : CallR X (.builtin "repr") (rReprO C sp E0) := by
  intro pins s σ H xs us Q I r h
  obtain ⟨a, dx, fs, rfl, ea, q⟩ := h
  have e1 := Vals.ref1 r
  subst e1
  obtain ⟨mA, J, _⟩ := ins_get I.hok ea
  obtain ⟨od, J, _⟩ := J.look
  obtain ⟨m, hF⟩ := I.fr
  obtain ⟨p, hp⟩ := hp
  have P1 := I.pin p (List.mem_append_left _ hp)
  have hpin : L2H.PinOk X.stack H s p := ⟨P1.1, P1.2.1, fun hm => (List.mem_cons.mp (I.stkSub p.1 hm)).elim P1.2.2.1 P1.2.2.2.1, P1.2.2.2.2⟩
  have r1 := roomH_in1 hr
  have hl : ([Value.ref a] ++ ([] : List Value)).length = ps.length := by rw [List.append_nil]; exact F.len _ _ _ _ q
  have hB := hb s [.ref a] I.kIn hl
  rw [List.append_nil] at hB
  have hu : X.A.in1.units < cLine := by have := r1.un; omega
  refine PySem.W.repr_K hu hF I.ok.mod.kin J D.at_ D.fn (wpAny_call (codeAny_mono (F.run X.A.in1 X.stack s H ⟨[.ref a], []⟩ [.ref a] [.ref a] _ p r1 hpin I.env0.in1 hB r q) fun r s' hq => ?_))
  cases r with
  | error er => exact (show False from hq).elim
  | ok fl =>
    cases fl with
    | ret u =>
      obtain ⟨y, H', I', ry, z, ey, q2⟩ := I.after hq
      subst ey
      obtain ⟨t, rfl⟩ := ry
      exact ⟨.str z, H', I', ⟨_, rfl⟩, q2⟩
    | next => exact False.elim hq
    | brk => exact False.elim hq
    | cont => exact False.elim hq
/-- one call with two readings -/
theorem call_or {X : Cx} {f : Value} {r1 r2 : List V → Hp → VK → Prop} (h1 : CallR X f r1) (h2 : CallR X f r2) : CallR X f (fun xs H Q => r1 xs H Q ∨ r2 xs H Q) := by
  intro pins s σ H xs us Q I r h
  rcases h with h | h
  · exact h1 pins s σ H xs us Q I r h
  · exact h2 pins s σ H xs us Q I r h
/-- a handled exception without attributes -/
def Pn0 (X : Cx) (a C : Addr) : Prop := ∃ oe : Obj, (a, oe) ∈ X.pn ∧ Zc (.ref C) none oe ∧ ∃ vs, oe.data = .fields vs
def rIsP0 (X : Cx) : List V → Hp → VK → Prop := fun xs H Q => ∃ (a C : Addr) (c : V) (u : Value) (b : Bool), xs = [.ref a, c] ∧ Pn0 X a C ∧ ClsV c u ∧ XC X.K C ∧ PySem.W.kitOne X.K (.ref C) u = some b ∧ Q (.bl b) H
theorem call_isP0 {X : Cx} : CallR X (.builtin "isinstance") (rIsP0 X) := by
  intro pins s σ H xs us Q I r h
  obtain ⟨a, C, c, u, b, rfl, ⟨oe, hm, hz, vs, hd⟩, k, T, e, q⟩ := h
  obtain ⟨u1, u2, rfl, r1, r2⟩ := vals2 r
  have e2 := k.eq r2
  subst e2
  have e1 : u1 = Value.ref a := r1
  subst e1
  have hcl : (PySem.W.clsIn X.K C).isSome = true := by
    obtain ⟨cd, hc, _⟩ := PySem.W.any_some T.hd
    rw [hc]
    rfl
  obtain ⟨ha, _⟩ := I.pin (a, oe) (List.mem_append_left _ hm)
  have J : PySem.W.InstAt s.heap a oe C none := ⟨ha, hz.1, by unfold PySem.W.notCls; rw [hd] <;> rfl, by rw [hz.2]; trivial⟩
  exact PySem.W.kia_one (PySem.W.kitx_exc hcl T.ga T.gg T.sB T.ca T.cn T.ct T.mo) I.kIn J e (fun z => nomatch z) fun tk => ⟨.bl b, H, I.tok tk, rfl, q⟩
theorem passX0 {X : Cx} : Passes (CX X.prog X.w) X E0 := by
  intro pins σ H s e s' _ c
  obtain ⟨_, _, _, _, _, _, _, _, _, _, _, _, z⟩ := c
  exact z.elim
/-- f(k = v, ..), keywords alone -/
def tCallK0 (sp : Sp) (gV : List V → List V → List V) (E : XK) (tk : TA) : TE := fun σ H Q => tk σ H fun zs H2 => sp (gV [] zs) H2 Q E
theorem pe_callK0 {X : Cx} {CX : CXT} {k : Nat} {f : Addr} {fd : FuncData} {ps ks : List Str} {sp : Sp} {E : XK} {tk : TA} {x : Str} {p pos : Pos} {kws : List Keyword} {g : List Value → List Value → List Value} {gV : List V → List V → List V} (F : FnOk X.prog X.w X.K X.mg X.base CX k f fd ps sp) (hr : Room k X.A) (hg : Gl X x) (hm : X.mg x = some (.ref f))
    (hk : PySem.W.keepIn X.K (.ref f) = true) (hb : KBinds X.K fd ps ks g gV) (hx : Passes CX X E) (hkw : PK X kws tk) (hall : (backToKw pos (keywordEach kws X.env)).all (·.1.isSome) = true := by rfl) (hks : (backToKw pos (keywordEach kws X.env)).filterMap (·.1) = ks := by rfl)
    (hpl : ((backTo pos (starEach [] X.env)).any (·.1) || (backToKw pos (keywordEach kws X.env)).any (·.1.isNone)) = false := by rfl) (hdb : (x == ("__debug__" : Str)) = false := by decide) : PE X (.Call (.Name x p) [] kws pos) (tCallK0 sp gV E tk) := by
  refine ⟨fun pins s σ H Q I h => ?_⟩
  refine wpAny_Call_Name_kw (ld_glob I hg hm ?_ hdb)
  refine PySem.W.callWith_of hpl (PySem.W.keeps_K hk) (evalArgs_kw2_nil hall (thn (hkw.run pos pins s σ H _ I h) fun us s3 ⟨zs, H2, I3, rz, q2⟩ => ⟨I3.kIn, ?_⟩))
  rw [hks]
  exact wpAny_call (run_fnkC (us := []) (vs := []) F hr hb hx I3 .nil rz q2)
/-- two keywords, turned -/
def gCO {α : Type} : List α → List α → List α
  | [], [y, x] => [x, y]
  | _, _ => []
theorem gCO_rel {vs : List V} {us : List Value} {zs : List V} {ws : List Value} (h : Vals vs us) (k : Vals zs ws) : Vals (gCO vs zs) (gCO us ws) := by
  cases h with
  | cons _ _ => exact .nil
  | nil =>
    cases k with
    | nil => exact .nil
    | cons b k =>
      cases k with
      | nil => exact .nil
      | cons c k =>
        cases k with
        | nil => exact .cons c (.cons b .nil)
        | cons _ _ => exact .nil
end Gd
set_option Elab.async false
set_option linter.all false
set_option maxRecDepth 100000
set_option maxHeartbeats 4000000
/-! A head by one run, with facts of one's own: a Bool over the written part, and the defs. -/
namespace Gd
open PySem PySem.Spec PyProof.Rows L2
abbrev AlX : Type := Bool × List He.FnV
def obsX (tab : PySem.W.Frag → Bool) (fn : List He.FnD) (K : PySem.W.Frag) : AlX := (tab K && fn.all fun d => PySem.W.keepIn K (.ref (He.fAd K d.at_)) && (He.Fa.code d.at_ d.qual).ok K, fn.map fun d => He.fnObs K d.at_)
def SaysX (tab : PySem.W.Frag → Bool) (fn : List He.FnD) (K : PySem.W.Frag) : Prop := obsX tab fn K = (true, fn.map He.FnD.val)
def obsXG (n : Nat) (tab : PySem.W.Frag → Bool) (fn : List He.FnD) (g : Addr → Option Obj) : AlX := obsX tab fn (He.frG g (He.asG g n))
def hookX (n : Nat) (tab : PySem.W.Frag → Bool) (fn : List He.FnD) : PySem.W.Hook where
  α := AlX
  obs := fun s => obsXG n tab fn s.heap.get?
  val := fun _ => (true, fn.map He.FnD.val)
  says := fun _ h => ∃ K : PySem.W.Frag, K.In h ∧ SaysX tab fn K
  of := fun _ _ e => ⟨_, He.frG_in, e⟩
  keeps := fun _ _ _ ⟨K, hK, c⟩ k => ⟨K, PySem.W.Frag.In.keeps hK k, c⟩
theorem obsXG_eq {n : Nat} {tab : PySem.W.Frag → Bool} {fn : List He.FnD} {g : Addr → Option Obj} {s : Shared} (h : ∀ a, g a = s.heap.get? a) : obsXG n tab fn g = (hookX n tab fn).obs s := by
  obtain rfl : g = s.heap.get? := funext h
  rfl
section
variable {tab : PySem.W.Frag → Bool} {fn : List He.FnD} {K : PySem.W.Frag}
theorem SaysX.facts (c : SaysX tab fn K) : tab K = true := (He.ba (show (tab K && fn.all fun d => PySem.W.keepIn K (.ref (He.fAd K d.at_)) && (He.Fa.code d.at_ d.qual).ok K) = true from congrArg Prod.fst c)).1
/-- a def of the text where the run left it -/
theorem SaysX.fun_ (c : SaysX tab fn K) (i : Nat) {d : He.FnD} {st : Stmt} (h : fn[i]? = some d) (e : d = ⟨d.at_, d.name, d.qual, defArgs st, defBody st, defScope st⟩) : ∃ fd, Fun K d.name d.qual st (He.fAd K d.at_) fd := by
  have c2 := (He.ba (show (tab K && fn.all fun d => PySem.W.keepIn K (.ref (He.fAd K d.at_)) && (He.Fa.code d.at_ d.qual).ok K) = true from congrArg Prod.fst c)).2
  obtain ⟨k1, k2⟩ := He.ba (List.all_eq_true.mp c2 d (List.mem_of_getElem? h))
  have e1 : fn.map (fun d => He.fnObs K d.at_) = fn.map He.FnD.val := congrArg Prod.snd c
  have e2 : (fn.map fun d => He.fnObs K d.at_)[i]? = (fn.map He.FnD.val)[i]? := by rw [e1]
  rw [List.getElem?_map, List.getElem?_map, h] at e2
  obtain ⟨oc, od, osl, kV, doc, pm, an, cdv, ct, lk, hc⟩ := He.fn_ok (Option.some.inj e2) k2
  rw [e] at lk
  exact ⟨_, ⟨⟨oc, od, kV, doc, pm, an, cdv, ct, osl, rfl, lk, hc⟩, k1⟩⟩
end
theorem walk_goE {l : PySem.W.OpenLaw} {n k : Nat} {q : Program} {loose : List Str} {XP : (Str → Option Value) → Heap → Prop} {YP : World → Heap → Prop} {d : DefRec} {x : Str}
    (hn : l.most = some n) (hn2 : n ≤ sizeLine) (hdf : d.params.defaults = []) (hR : Room k callerA)
    (F : ∀ (w : World) (mg : Str → Option Value) (fa : Addr) (h : Heap), YP w h → h.Ns mainGlobals mg → mg d.name = some (.ref fa) →
      ∃ (K : PySem.W.Frag) (fd : FuncData) (sp : Sp), K.In h ∧ (∀ (s : Shared) (u : Value), BindsTo s fd ⟨[u], []⟩ [(x, u)]) ∧ (∀ (H : Hp) (a : Addr) (ns : List Int), ns.length ≤ n → SqL K H a (ns.map V.int) → sp [.ref a] H (fun v _ => v = .bl true) fun _ _ _ => False) ∧
        ∀ base : Heap, K.In base → base.Ns mainGlobals mg → Pr l.prog w K mg base CX0 k fa fd [x] sp) :
    PySem.W.WalkO q loose XP YP l.row.toRowW d [] (fun f vs => PySem.call f vs) := by
  refine Att.attach_call hn hdf fun w s0 s1 mg mb fa o pm cd doc a vs ns G Y ho hd hcd hmg hobj hints hlen hg => ?_
  obtain ⟨K, fd, sp, KX, hb, hsp, hF⟩ := F w mg fa _ Y G.T.g hmg
  exact law_go KX G.T.g G.T.b G.T.builtins G.T.nolimit hg hobj hints (Nat.le_trans hlen hn2) hR hF hb (fun H _ hS => hsp H a ns hlen hS) fun _ _ _ z => z
end Gd
set_option Elab.async false
set_option linter.all false
set_option maxRecDepth 100000
set_option maxHeartbeats 4000000
/-! own error classes of one field, their facts as Bools -/
namespace Gd
open PySem PySem.Spec PyProof.Rows L2
structure Xd where
  nm : Str
  ba : Nat
  f : Str
def xtl : Nat → List Value
  | 0 => [.type "ValueError", .type "Exception", .type "BaseException", .type "object"]
  | 1 => [.type "LookupError", .type "Exception", .type "BaseException", .type "object"]
  | _ => [.type "ArithmeticError", .type "Exception", .type "BaseException", .type "object"]
def xnid : Nat → String
  | 0 => "ValueError.__new__"
  | 1 => "LookupError.__new__"
  | _ => "ArithmeticError.__new__"
def xclB (K : PySem.W.Frag) (C : Addr) (b : Nat) : Bool :=
  PySem.W.excInitIn K C (xtl b) (xnid b) && (PySem.W.excOver K C (xtl b) && (PySem.W.hasDictIn K C && (He.eqO (PySem.W.findIn K (.ref C) "__setattr__") (some (some (.builtin "object.__setattr__"))) &&
  (He.eqO (PySem.W.findIn K (.ref C) "__getattribute__") (some (some (.builtin "BaseException.__getattribute__"))) && (He.eqO (PySem.W.findIn K (.ref C) "__getattr__") (some none) && (decide (PySem.W.subIn K (.ref C) (.type "BaseException") = some true) &&
  (He.eqO (PySem.W.findIn K (.ref C) "__class__") (some (some (.builtin "object.__class__"))) && (He.eqO (PySem.W.specialIn K (.builtin "object.__class__") "__get__") (some (some (.builtin "getset_descriptor.__get__"))) &&
  (decide (PySem.W.takesIn K (.builtin "object.__class__") = some true) && (decide (PySem.W.mroIn K C (.type "object") = some true) && PySem.W.keepIn K (.ref C)))))))))))
def xdB (K : PySem.W.Frag) (d : Xd) : Bool := (He.Fa.glo d.nm).ok K && (xclB K (He.ga K d.nm) d.ba && (He.eqO (PySem.W.takerIn K (He.ga K d.nm) d.f) (some none) && (He.eqO (PySem.W.findIn K (.ref (He.ga K d.nm)) d.f) (some none) &&
  (He.eqO (PySem.W.findIn K (.ref (He.ga K d.nm)) "__init__") (some (some (.ref (He.ma K (He.ga K d.nm) "__init__")))) && (decide (PySem.W.typeIn K (.ref (He.ma K (He.ga K d.nm) "__init__")) = some (.type "function")) && decide (PySem.W.typeIn K (.ref (He.ga K d.nm)) = some (.type "type")))))))
section
variable {P : Program} {w : World} {K : PySem.W.Frag} {mg : Str → Option Value} {base : Heap} {h : Heap}
theorem xcl_of {C : Addr} {b : Nat} (q : xclB K C b = true) : XC K C := by
  obtain ⟨q1, q⟩ := He.ba q
  obtain ⟨q2, q⟩ := He.ba q
  obtain ⟨q3, q⟩ := He.ba q
  obtain ⟨q4, q⟩ := He.ba q
  obtain ⟨q5, q⟩ := He.ba q
  obtain ⟨q6, q⟩ := He.ba q
  obtain ⟨q7, q⟩ := He.ba q
  obtain ⟨q8, q⟩ := He.ba q
  obtain ⟨q9, q⟩ := He.ba q
  obtain ⟨q10, q⟩ := He.ba q
  obtain ⟨q11, q12⟩ := He.ba q
  refine ⟨?_, q3, He.eqO_ok q4, He.eqO_ok q5, He.eqO_ok q6, of_decide_eq_true q7, He.eqO_ok q8, He.eqO_ok q9, of_decide_eq_true q10, of_decide_eq_true q11, q12⟩
  match b, q1, q2 with
  | 0, q1, q2 => exact ⟨_, _, _, _, PySem.F.excBase_ValueError, PySem.F.store_ValueError, q1, q2⟩
  | 1, q1, q2 => exact ⟨_, _, _, _, PySem.F.excBase_LookupError, PySem.F.store_LookupError, q1, q2⟩
  | n + 2, q1, q2 => exact ⟨_, _, _, _, PySem.F.excBase_ArithmeticError, PySem.F.store_ArithmeticError, q1, q2⟩
theorem xd_glo {d : Xd} (q : xdB K d = true) : (He.Fa.glo d.nm).ok K = true := (He.ba q).1
theorem xd_xc {d : Xd} (q : xdB K d = true) : XC K (He.ga K d.nm) := xcl_of (He.ba (He.ba q).2).1
theorem xd_no {d : Xd} (q : xdB K d = true) : PySem.W.findIn K (.ref (He.ga K d.nm)) d.f = some none := He.eqO_ok (He.ba (He.ba (He.ba (He.ba q).2).2).2).1
theorem xd_ty {d : Xd} (q : xdB K d = true) : PySem.W.typeIn K (.ref (He.ga K d.nm)) = some (.type "type") := of_decide_eq_true (He.ba (He.ba (He.ba (He.ba (He.ba (He.ba q).2).2).2).2).2).2
theorem xd_one {nm f qn : Str} {b : Nat} {st : Stmt} {fd : FuncData} {p1 p2 p3 p4 : Pos} (X : K.In h) (G : h.Ns mainGlobals mg) (q : xdB K ⟨nm, b, f⟩ = true) (F : Fun K "__init__" qn st (He.ma K (He.ga K nm) "__init__") fd)
    (S : FnScope ["self", f] ["self", f] (defScope st)) (hb : defBody st = [.Assign [.Attribute (.Name "self" p1) f p2] (.Name f p3) p4])
    (hd : (f == ("__debug__" : Str)) = false) (hc : (f == ("__classdict__" : Str)) = false) (hs : ∀ env : Env, swapsWith (.Name f p3) (some (.Attribute (.Name "self" p1) f p2)) p4.line env = pure false)
    (b1 : ∀ (kV doc pm : Value) (an : Option Addr) (cdv ct : Value) (us : List Value), us.length = 2 → bindArgs (PySem.W.fnOf "__init__" qn (defArgs st) (defBody st) (defScope st) .none kV doc pm an cdv ct) ⟨us, []⟩ = pure ((["self", f] : List Str).zip us))
    (b2 : ∀ (kV doc pm : Value) (an : Option Addr) (cdv ct self v : Value), bindArgs (PySem.W.fnOf "__init__" qn (defArgs st) (defBody st) (defScope st) .none kV doc pm an cdv ct) ⟨[self], [(f, v)]⟩ = pure [(("self" : Str), self), (f, v)]) : One P w K mg base nm f (He.ga K nm) := by
  have T := xd_xc q
  obtain ⟨_, q'⟩ := He.ba q
  obtain ⟨_, q'⟩ := He.ba q'
  obtain ⟨t1, q'⟩ := He.ba q'
  obtain ⟨t2, q'⟩ := He.ba q'
  obtain ⟨i1, q'⟩ := He.ba q'
  obtain ⟨i2, _⟩ := He.ba q'
  refine ⟨He.glo_ok X G (xd_glo q), ⟨_, fd, ⟨T, He.eqO_ok i1, of_decide_eq_true i2⟩, ok_i1 F S hb hd hc hs T (He.eqO_ok t1), F.binds b1, ⟨fun s self ws _ hl => ?_, fun z => z⟩⟩, He.eqO_ok t2⟩
  obtain ⟨oc, od, kV, doc, pm, an, cdv, ct, osl, rfl, lk, hcd⟩ := F.ex
  match ws, hl with
  | [v], _ => exact .of_eq (b2 kV doc pm an cdv ct self v)
end
end Gd
set_option Elab.async false
set_option linter.all false
set_option maxRecDepth 100000
set_option maxHeartbeats 4000000
/-! own errors whose context is None, raised where nothing is handled; raised from None in the suite that handles another -/
namespace Gd
open PySem PySem.Spec PyProof.Rows L2
open PySem.W (excInitIn excOver excTail)
section
variable {P : Program} {w : World} {K : PySem.W.Frag} {mg : Str → Option Value} {base : Heap}
theorem okXN {x qual : Str} {st : Stmt} {f : Addr} {fd : FuncData} {N ps : List Str} {k : Nat} {sp : Sp} (F : Fun K x qual st f fd) (S : FnScope N ps (defScope st)) (len : ∀ vs H Q E, sp vs H Q E → vs.length = ps.length)
    (hbody : ∀ (cdv : Value) (A : Around) (outer : List Env) (s : Shared) (H : Hp) (vs : List V) (Q : VK) (E : XK), Room k (A.deeper (envOfC qual (defScope st) s.heap.objs.size f cdv)) → sp vs H Q E →
      ∃ t, PSs (cxOf (L2N.CX P w) P w K mg base N qual (defScope st) f cdv A outer s H E) (defBody st) t ∧ t { nx := fun _ H' => Q .non H', rt := Q } (start N vs) H) : FnOk P w K mg base (L2N.CX P w) (k + 1) f fd ps sp := by
  obtain ⟨oc, od, kV, doc, pm, an, cdv, ct, osl, rfl, lk, hcd⟩ := F.ex
  exact fn_of lk hcd S len fun A outer s H vs Q E hr hsp => hbody cdv A outer s H vs Q E hr hsp
theorem okN_weak {k : Nat} {f : Addr} {fd : FuncData} {ps : List Str} {sp : Sp} (F : FnOk P w K mg base (L2N.CX P w) k f fd ps sp) : FnOk P w K mg base (L2.CX P w) k f fd ps sp :=
  ⟨F.len, fun A ou s H gs us vs Q E hr e0 hb r h => codeAny_mono (F.run A ou s H gs us vs Q E hr e0 hb r h) fun r s' hq => by
    match r, hq with
    | .error e, ⟨a, B, H', cls, d, e1, fl, rest⟩ => exact ⟨a, B, H', cls, d, e1, L2H.flyingZ_imp (fun o z => z.zc) fl, rest⟩
    | .ok (.ret u), hq => exact hq
    | .ok .next, hq => exact False.elim hq
    | .ok .brk, hq => exact False.elim hq
    | .ok .cont, hq => exact False.elim hq⟩
end
section
variable {X : Cx} {CX : CXT} {k : Nat} {f C : Addr} {fd : FuncData} {ps : List Str} {sp : Sp} {x : Str} {p pos : Pos} {e : Expr}
theorem run_raiN {pins : List (Addr × Obj)} {σ : L2.St} {H : Hp} {s : Shared} {Q : XK} {us ws : List Value} {kw : List (Str × Value)} {zs : List V} (N : Ini X.K C f) (ty : PySem.W.typeIn X.K (.ref C) = some (.type "type"))
    (hrun : ∀ (A : Around) (s1 : Shared) (H1 : Hp) (gs : Args) (us1 : List Value) (vs1 : List V) (Q1 : VK), A = X.A.under (.builtin "type.__call__" ⟨.ref C :: us, kw⟩) → Inv X pins σ H1 s1 → Env0 X.prog X.w X.K X.mg X.base A X.stack s1 H1 → BindsTo s1 fd gs (ps.zip us1) → Vals vs1 us1 → sp vs1 H1 Q1 E0 →
      codeAny (model X.prog X.w) A (.call (.ref f) gs) (CR CX0 X.stack X.prog X.w H1 s1 Q1 E0) s1)
    (I : Inv X pins σ H s) (hl : us.length ≤ sizeLine) (hB : ∀ (s' : Shared) (self : Value), X.K.In s'.heap → BindsTo s' fd ⟨self :: us, kw⟩ (ps.zip (self :: ws))) (hV : Vals zs ws)
    (h : ∀ a, H a = none → sp (.ref a :: zs) (upd H a (exo a C none)) (fun v H2 => v = .non ∧ ∃ d fs, H2 a = some (exo a C (some d)) ∧ H2 d = some (exd d fs) ∧ H d = none ∧ Q (.ref C) (some d) (upd (del H2 a) d (.xd fs))) E0) :
    wpAny (model X.prog X.w) X.A (call (.ref C) us kw) (fun u s' => L2N.MkP X pins σ Q u s' ∧ L2H.Six u s') X.xe s := by
  obtain ⟨B, nid, iid, tl, FB, SF, hin, hov⟩ := N.xc.base
  obtain ⟨hp, g, dr, t0, os⟩ := s
  obtain ⟨nm, N', qn, bs, bm, hdct, sn, sub, ab, col, dd, k0, k1, k2, k3, k5, hC, hT⟩ := PySem.W.excInit_of I.kIn hin
  have le1 : hp.objs.size ≤ hp.objs.size + 1 := Nat.le_succ _
  have n1 : H (hp.objs.size + 1) = none := I.hok.fresh le1
  have q1 := h (hp.objs.size + 1) n1
  have kk : ∀ b o, hp.get? b = some o → ((hp.push (PySem.W.kdv_tup us)).push (PySem.HandSPX.excO C hp.objs.size)).get? b = some o := fun b o e => Heap.get?_push_of_some _ (Heap.get?_push_of_some _ e)
  have g1 : ((hp.push (PySem.W.kdv_tup us)).push (PySem.HandSPX.excO C hp.objs.size)).get? (hp.objs.size + 1) = some (PySem.HandSPX.excO C hp.objs.size) := by heap_get
  have I2 : Inv X pins σ (upd H (hp.objs.size + 1) (exo (hp.objs.size + 1) C none)) ⟨(hp.push (PySem.W.kdv_tup us)).push (PySem.HandSPX.excO C hp.objs.size), g, dr, t0, os⟩ :=
    I.laid (t' := t0) (a := hp.objs.size + 1) (o := exo (hp.objs.size + 1) C none) (h' := (hp.push (PySem.W.kdv_tup us)).push (PySem.HandSPX.excO C hp.objs.size)) kk le1 (exo_ok g1)
  have r2 : Vals (V.ref (hp.objs.size + 1) :: zs) (Value.ref (hp.objs.size + 1) :: ws) := .cons rfl hV
  have e0 := I2.env0
  have e1 : Env0 X.prog X.w X.K X.mg X.base (X.A.under (.builtin "type.__call__" ⟨.ref C :: us, kw⟩)) X.stack ⟨(hp.push (PySem.W.kdv_tup us)).push (PySem.HandSPX.excO C hp.objs.size), g, dr, t0, os⟩ (upd H (hp.objs.size + 1) (exo (hp.objs.size + 1) C none)) :=
    ⟨by first | exact e0.frames | (simpa [Around.under, Code.envs, Code.isFrame, pushEnvs] using e0.frames), e0.mod, e0.bs, e0.bsz, e0.funs, e0.frf, e0.hok, e0.bare⟩
  refine wpAny_call (PySem.Gk.call_kw FB hT hC (PySem.W.looks_findIn I.kIn N.at_) (fun self => PySem.W.bind_fn I.kIn self N.ty) hl
    (codeAny_mono (hrun _ _ _ ⟨Value.ref (hp.objs.size + 1) :: us, kw⟩ (Value.ref (hp.objs.size + 1) :: ws) _ _ rfl I2 e1 (hB _ _ I2.kIn) r2 q1) fun r s' hq' => ?_))
  match r, hq' with
  | .error er, hq' => exact (show False from hq').elim
  | .ok (.ret u), hq' =>
    obtain ⟨v, H2, os2, bare2, un2, hok2, rv, ev, d, fs, ea, ed, hd1, q2⟩ := hq'
    subst ev
    obtain ⟨h2, g2, d2, t2, os'⟩ := s'
    obtain ⟨t0', G, J, kG, ge, hoe, na⟩ := mk_end0 (d2 := d2) (t2 := t2) I le1 kk un2 hok2 os2 bare2 ea ed hd1
    refine ⟨rv, ⟨hp.objs.size + 1, _, _, ⟨G, g2, d2, t2, os'⟩, _, .ref C, some d, rfl, J, kG, ge, hoe, ⟨rfl, rfl, fun vs hv => ?_⟩, rfl, rfl, na, rfl, bare2, raises_own N.xc.sB ty, q2⟩, fun a oe vs ea2 hg2 hd2 => ?_⟩
    · cases hv
      rfl
    · cases ea2
      have hg3 : h2.get? (hp.objs.size + 1) = some oe := hg2
      rw [hoe] at hg3
      cases hg3
      cases hd2
      show (4 : Nat) < 6
      decide
  | .ok .next, hq' => exact False.elim hq'
  | .ok .brk, hq' => exact False.elim hq'
  | .ok .cont, hq' => exact False.elim hq'
theorem under_room {k : Nat} {A : Around} {C : Addr} {us : List Value} {kw : List (Str × Value)} (hR : Room (k + 1) A) : Room k (A.under (.builtin "type.__call__" ⟨.ref C :: us, kw⟩)) := by
  have d1 : (A.under (.builtin "type.__call__" ⟨.ref C :: us, kw⟩)).depth = A.depth + 1 := by
    first | rfl | simp [Around.under, Code.weight, Code.isCreation, Code.isGuard, Code.isCaller, Code.frames, Code.isFrame, guardIds]
  have d2 : (A.under (.builtin "type.__call__" ⟨.ref C :: us, kw⟩)).units = A.units + 1 := by
    first | rfl | simp [Around.under, Code.cUnits, Code.frames, Code.isFrame]
  exact ⟨hR.hd, by have := hR.dp; rw [d1]; omega, by have := hR.un; rw [d2]; omega⟩
theorem mk_q {H1 : Hp} {C a d : Addr} {g : Str} {v : V} {Q : XK} (na : H1 a = none) (nd : upd H1 a (exo a C none) d = none) (n : d ≠ a) (h : ∀ d H', Same H1 H' → H1 d = none → H' d = some (.xd [(g, v)]) → Q (.ref C) (some d) H') :
    V.non = V.non ∧ ∃ d' fs, upd (upd (upd H1 a (exo a C none)) d (exd d [(g, v)])) a (exo a C (some d)) a = some (exo a C (some d')) ∧ upd (upd (upd H1 a (exo a C none)) d (exd d [(g, v)])) a (exo a C (some d)) d' = some (exd d' fs) ∧ H1 d' = none ∧
      Q (.ref C) (some d') (upd (del (upd (upd (upd H1 a (exo a C none)) d (exd d [(g, v)])) a (exo a C (some d))) a) d' (.xd fs)) := by
  have nd' : H1 d = none := by rw [upd_ne n] at nd; exact nd
  refine ⟨rfl, d, [(g, v)], upd_same, ?_, nd', h d _ (fun b o eb => ?_) nd' upd_same⟩
  · rw [upd_ne n, upd_same]
  · rw [upd_ne (ne_of_none eb nd'), del_ne (ne_of_none eb na), upd_ne (ne_of_none eb na), upd_ne (ne_of_none eb nd'), upd_ne (ne_of_none eb na)]
    exact eb
/-- C(e), where nothing is handled -/
theorem pmkN_one {nm g : Str} {te : TE} (O : One X.prog X.w X.K X.mg X.base nm g C) (ty : PySem.W.typeIn X.K (.ref C) = some (.type "type")) (hR : Room 2 X.A) (hg : Gl X nm) (he : PE X e te) (hdb : (nm == ("__debug__" : Str)) = false := by decide)
    (hs : starEach [e] X.env = (false, eval e X.env) :: starEach [] X.env := by rfl) (hpl : (backTo pos (starEach [] X.env)).any (·.1) = false := by rfl) :
    L2N.PMk X (.Call (.Name nm p) [e] [] pos) (tRai C g te) := by
  intro pins s σ H Q I h
  obtain ⟨fa, fd, N, F, b, sb⟩ := O.ini
  refine wpAny_Call_Name_kw (ld_glob I hg O.gl ?_ hdb)
  refine PySem.W.callWith_K (h₀ := X.base) I.ok.mod.kin N.xc.kp (thn ((pa_cons he pa_nil hs).run pos pins s σ H (fun zs H1 => match zs with | [v] => ∀ d H', Same H1 H' → H1 d = none → H' d = some (.xd [(g, v)]) → Q (.ref C) (some d) H' | _ => False) I ?_) fun us s2 z2 => ?_) hs hpl
  · exact h
  obtain ⟨zs, H2, I2, r2, q2⟩ := z2
  obtain ⟨v, rfl, q2⟩ : ∃ v, zs = [v] ∧ ∀ d H', Same H2 H' → H2 d = none → H' d = some (.xd [(g, v)]) → Q (.ref C) (some d) H' := by
    match zs, q2 with
    | [v], q2 => exact ⟨v, rfl, q2⟩
  obtain ⟨u, rfl, ru⟩ := vals1 r2
  refine ⟨I2.kIn, ?_⟩
  refine thn (run_raiN (ws := [u]) (zs := [v]) (kw := []) N ty (fun A s1 H1 gs us1 vs1 Q1 eA _ e1 hB hV hsp => by
    subst eA
    exact F.run _ X.stack s1 H1 gs us1 vs1 Q1 E0 (under_room hR) e1 hB hV hsp) I2 (by rw [sizeLine_eq]; exact (by decide : 1 ≤ 16777216)) (fun s' self ki => ?_) (.cons ru .nil) fun a na => ?_) fun _ _ x => x.1
  · have := b s' [self, u] ki rfl
    rw [List.append_nil] at this
    exact this
  · exact ⟨a, v, rfl, upd_same, fun d nd n => mk_q na nd n q2⟩
end
/-- a class of one field, for where an exception is handled -/
structure OneH (P : Program) (w : World) (K : PySem.W.Frag) (mg : Str → Option Value) (base : Heap) (nm f : Str) (C : Addr) : Prop where
  gl : mg nm = some (.ref C)
  ini : ∃ (fa : Addr) (fd : FuncData), Ini K C fa ∧ FnP P w K mg base 1 fa fd ["self", f] (spI1 C f) ∧ Binds K fd ["self", f] []
section
variable {X : Cx} {C : Addr} {p pos : Pos} {e : Expr}
theorem pmk5_one {nm g : Str} {te : TE} (O : OneH X.prog X.w X.K X.mg X.base nm g C) (ty : PySem.W.typeIn X.K (.ref C) = some (.type "type")) (hR : L2H.RoomH 2 X.A) (hp : ∃ p, p ∈ X.pn) (hg : Gl X nm) (he : PE X e te) (hdb : (nm == ("__debug__" : Str)) = false := by decide)
    (hs : starEach [e] X.env = (false, eval e X.env) :: starEach [] X.env := by rfl) (hpl : (backTo pos (starEach [] X.env)).any (·.1) = false := by rfl) :
    L2H.PMk5 X (.Call (.Name nm p) [e] [] pos) (tRai C g te) := by
  intro pins s σ H Q I h
  obtain ⟨fa, fd, N, F, b⟩ := O.ini
  refine wpAny_Call_Name_kw (ld_glob I hg O.gl ?_ hdb)
  refine PySem.W.callWith_K (h₀ := X.base) I.ok.mod.kin N.xc.kp (thn ((pa_cons he pa_nil hs).run pos pins s σ H (fun zs H1 => match zs with | [v] => ∀ d H', Same H1 H' → H1 d = none → H' d = some (.xd [(g, v)]) → Q (.ref C) (some d) H' | _ => False) I ?_) fun us s2 z2 => ?_) hs hpl
  · exact h
  obtain ⟨zs, H2, I2, r2, q2⟩ := z2
  obtain ⟨v, rfl, q2⟩ : ∃ v, zs = [v] ∧ ∀ d H', Same H2 H' → H2 d = none → H' d = some (.xd [(g, v)]) → Q (.ref C) (some d) H' := by
    match zs, q2 with
    | [v], q2 => exact ⟨v, rfl, q2⟩
  obtain ⟨u, rfl, ru⟩ := vals1 r2
  refine ⟨I2.kIn, ?_⟩
  obtain ⟨pn, hpn⟩ := hp
  refine run_raiN (ws := [u]) (zs := [v]) (kw := []) N ty (fun A s1 H1 gs us1 vs1 Q1 eA I1 e1 hB hV hsp => by
    subst eA
    have P1 := I1.pin pn (List.mem_append_left _ hpn)
    have hpin : L2H.PinOk X.stack H1 s1 pn := ⟨P1.1, P1.2.1, fun hmm => (List.mem_cons.mp (I1.stkSub pn.1 hmm)).elim P1.2.2.1 P1.2.2.2.1, P1.2.2.2.2⟩
    exact F.run _ X.stack s1 H1 gs us1 vs1 Q1 pn (hR.make C _ _) hpin e1 hB hV hsp) I2 (by rw [sizeLine_eq]; exact (by decide : 1 ≤ 16777216)) (fun s' self ki => ?_) (.cons ru .nil) fun a na => ?_
  · have := b s' [self, u] ki rfl
    rw [List.append_nil] at this
    exact this
  · exact ⟨a, v, rfl, upd_same, fun d nd n => mk_q na nd n q2⟩
end
section
variable {P : Program} {w : World} {K : PySem.W.Frag} {mg : Str → Option Value} {base : Heap}
theorem ok_i1P {qn f : Str} {st : Stmt} {fa C : Addr} {fd : FuncData} {p1 p2 p3 p4 : Pos} (F : Fun K "__init__" qn st fa fd) (S : FnScope ["self", f] ["self", f] (defScope st)) (hb : defBody st = [.Assign [.Attribute (.Name "self" p1) f p2] (.Name f p3) p4])
    (hd : (f == ("__debug__" : Str)) = false) (hc : (f == ("__classdict__" : Str)) = false) (hs : ∀ env : Env, swapsWith (.Name f p3) (some (.Attribute (.Name "self" p1) f p2)) p4.line env = pure false) (T : XC K C) (ht : PySem.W.takerIn K C f = some none) : FnP P w K mg base 1 fa fd ["self", f] (spI1 C f) := by
  refine okP F S (fun vs H Q E h => ?_) (fun cv A ou s H vs Q p hr h => ?_)
  · obtain ⟨a, v, rfl, _⟩ := h
    rfl
  obtain ⟨a, v, rfl, ea, q⟩ := h
  rw [hb]
  refine ⟨_, pss_one (ps_est (pe_var (i := 0) rfl ((S.par "self" (List.Mem.head _)).elim (fun z => .inl z) (fun z => .inr (.inl z)))) (pe_var (i := 1) rfl ((S.par f (.tail _ (List.Mem.head _))).elim (fun z => .inl z) (fun z => .inr (.inl z))) hd hc) (hs _)), ?_⟩
  exact ⟨v, rfl, .ref a, rfl, a, C, rfl, T, ht, .inl ⟨ea, q⟩⟩
theorem xd_oneH {h : Heap} {nm f qn : Str} {b : Nat} {st : Stmt} {fd : FuncData} {p1 p2 p3 p4 : Pos} (X : K.In h) (G : h.Ns mainGlobals mg) (q : xdB K ⟨nm, b, f⟩ = true) (F : Fun K "__init__" qn st (He.ma K (He.ga K nm) "__init__") fd)
    (S : FnScope ["self", f] ["self", f] (defScope st)) (hb : defBody st = [.Assign [.Attribute (.Name "self" p1) f p2] (.Name f p3) p4])
    (hd : (f == ("__debug__" : Str)) = false) (hc : (f == ("__classdict__" : Str)) = false) (hs : ∀ env : Env, swapsWith (.Name f p3) (some (.Attribute (.Name "self" p1) f p2)) p4.line env = pure false)
    (b1 : ∀ (kV doc pm : Value) (an : Option Addr) (cdv ct : Value) (us : List Value), us.length = 2 → bindArgs (PySem.W.fnOf "__init__" qn (defArgs st) (defBody st) (defScope st) .none kV doc pm an cdv ct) ⟨us, []⟩ = pure ((["self", f] : List Str).zip us)) : OneH P w K mg base nm f (He.ga K nm) := by
  have T := xd_xc q
  obtain ⟨_, q'⟩ := He.ba q
  obtain ⟨_, q'⟩ := He.ba q'
  obtain ⟨t1, q'⟩ := He.ba q'
  obtain ⟨t2, q'⟩ := He.ba q'
  obtain ⟨i1, q'⟩ := He.ba q'
  obtain ⟨i2, _⟩ := He.ba q'
  exact ⟨He.glo_ok X G (xd_glo q), ⟨_, fd, ⟨T, He.eqO_ok i1, of_decide_eq_true i2⟩, ok_i1P F S hb hd hc hs T (He.eqO_ok t1), F.binds b1⟩⟩
end
end Gd
set_option Elab.async false
set_option linter.all false
set_option maxRecDepth 100000
set_option maxHeartbeats 4000000
namespace Ks
open PySem PySem.Spec PyProof.Rows L2 Gd Kx
/-! ### Schema(kinds, rows) of any kinds and rows of texts -/
structure KsOk (ks : List Str) : Prop where
  k1 : 1 ≤ ks.length
  k4 : ks.length ≤ 4
  kn : ∀ k ∈ ks, nmS k = true
  kd : ks.Nodup
structure RsOk (ks : List Str) (rs : List Rw) : Prop where
  r1 : 1 ≤ rs.length
  r6 : rs.length ≤ 6
  ok : ∀ r ∈ rs, RwOk ks r
  rd : (rs.map (·.1)).Nodup
/-- rows that are not too long to be looked at -/
structure RsB (rs : List Rw) : Prop where
  n : ∀ r ∈ rs, r.1.length ≤ 900
  f : ∀ r ∈ rs, r.2.2.length ≤ 900
def rwB (ks : List Str) (r : Rw) : Bool := nmS r.1 && decide (r.2.1 ∈ ks) && decide (r.2.2.length ≤ 3) && r.2.2.all fun z => decide (z ∈ ks)
theorem rwB_ok {ks : List Str} {r : Rw} (h : rwB ks r = true) : RwOk ks r := by
  unfold rwB at h
  simp only [Bool.and_eq_true, decide_eq_true_eq, List.all_eq_true] at h
  exact ⟨h.1.1.1, h.1.1.2, h.1.2, h.2⟩
theorem rwB_of {ks : List Str} {r : Rw} (h : RwOk ks r) : rwB ks r = true := by
  unfold rwB
  simp only [Bool.and_eq_true, decide_eq_true_eq, List.all_eq_true]
  exact ⟨⟨⟨h.n, h.k⟩, h.l⟩, h.f⟩
theorem small1000' {n : Nat} (h : n ≤ 990) : n + 1 ≤ 1000 := by omega
section
variable {P : Program} {w : World} {K : PySem.W.Frag} {mg : Str → Option Value} {base : Heap} {C : Addr}
def spKdT (C : Addr) : Sp := fun vs H Q E => ∃ (a : Addr) (ks : List Str), vs = [.ref a] ∧ StT H a ks ∧ (∀ z ∈ ks, z.length ≤ 900) ∧ (KsOk ks → ∀ H', Same H H' → Q .non H') ∧ (¬ KsOk ks → ∀ d v H', Same H H' → H' d = some (.xd [("index", v)]) → E (.ref C) (some d) H')
set_option maxHeartbeats 8000000 in
theorem ok_kdT {f fi : Addr} {fd fdi : FuncData} (F : Fun K "_check_kinds" "_check_kinds" sCk f fd) (T : TS0 mg) (GI : FnOk P w K mg base CX0 1 fi fdi ["value"] (spIs K)) (ki : PySem.W.keepIn K (.ref fi) = true) (bI : Binds K fdi ["value"] []) (gI : mg "is_name" = some (.ref fi)) (O : One P w K mg base "InvalidKinds" "index" C) (ty : PySem.W.typeIn K (.ref C) = some (.type "type")) :
    FnOk P w K mg base (L2N.CX P w) 3 f fd ["kinds"] (spKdT C) := by
  obtain ⟨t4, m4⟩ := T.mki
  refine okXN F scCk (fun vs H Q E h => ?_) (fun cv A ou s H vs Q E hr h => ?_)
  · obtain ⟨a, ks, rfl, _⟩ := h
    rfl
  obtain ⟨a, ks, rfl, hs, hl, q, qE⟩ := h
  have hr1 : Room 1 (A.deeper (envOfC "_check_kinds" (defScope sCk) s.heap.objs.size f cv)) := hr.mono (by decide)
  refine ⟨_, pss_cons (ps_if (PW.pt (pw_or (pt_not (pt_val (pe_callB call_isi (by rfl) T.isi boot_isinstance (pa_cons (pv 0) (pa_cons (pe_bltn (v := .ty "tuple") (by rfl) T.tup boot_tuple rfl) pa_nil)))))
        (pw_or1 (pt_not (pt_chain op_le op_le pe_int (pe_callB call_len_seq (by rfl) T.len PySem.boot_len (pa_cons (pv 0) pa_nil)) (pe_glob (v := .int 4) (by rfl) m4 ⟨_, rfl⟩)))))) (pss_one (L2N.ps_raise rfl (L2N.takes_of rfl rfl rfl rfl) (pmkN_one O ty hr (by rfl) pe_non))) pss_nil)
    (pss_one (ps_for PassesOwn.leaving rfl (pi_enT (by rfl) T.enu (pa_cons (pv 0) pa_nil)) (pg_tup rfl (pgs_cons (pg_name (i := 1) scCk.nd rfl (.inl rfl)) (pgs_cons (pg_name (i := 2) scCk.nd rfl (.inl rfl)) pgs_nil)))
      (pss_one (ps_if (PW.pt (pw_or (pt_not (pt_val (pe_call GI hr1 (by rfl) gI ki bI .nil pass0 (pa_cons (pv 2) pa_nil)))) (pw_or1 (pt_cmpR op_in_seq (pv 2) (pe_slice sl_tup (pv 0) po_none (po_some (pv 1))) (by rfl))))) (pss_one (L2N.ps_raise rfl (L2N.takes_of rfl rfl rfl rfl) (pmkN_one O ty hr (by rfl) (pv 1)))) pss_nil)))), ?_⟩
  refine ⟨.ref a, rfl, .ref a, .ty "tuple", _, _, true, rfl, .ty "tuple", .base (.tup hs), kit_ty (by decide +kernel), _, rfl, iteF ?_⟩
  refine ⟨.ref a, rfl, a, _, rfl, .inr (SqT.of hs), _, _, rfl, rfl, _, rfl, ?_⟩
  by_cases k1 : 1 ≤ ks.length
  rotate_left
  · rw [decide_eq_false (show ¬ (1 : Int) ≤ ((ks.map V.str).length : Int) by rw [List.length_map]; omega)]
    exact iteF ⟨_, rfl, iteT (fun d H' s n e => qE (fun h => k1 h.k1) d _ H' s e)⟩
  rw [decide_eq_true (show (1 : Int) ≤ ((ks.map V.str).length : Int) by rw [List.length_map]; omega)]
  refine iteT ⟨_, _, rfl, rfl, _, rfl, ?_⟩
  by_cases k4 : ks.length ≤ 4
  rotate_left
  · rw [decide_eq_false (show ¬ ((ks.map V.str).length : Int) ≤ 4 by rw [List.length_map]; omega)]
    exact iteT (fun d H' s n e => qE (fun h => k4 h.k4) d _ H' s e)
  rw [decide_eq_true (show ((ks.map V.str).length : Int) ≤ 4 by rw [List.length_map]; omega)]
  refine iteF ?_
  refine ⟨.ref a, rfl, a, _, rfl, SqT.of hs, for_enT (K := K) (t := a) (xs := ks.map V.str) (fun i σ H' => ∃ o1 o2 : Option V, σ = [some (.ref a), o1, o2] ∧ Same H H' ∧ (∀ k ∈ ks.take i, nmS k = true) ∧ (ks.take i).Nodup) ⟨none, none, rfl, fun _ _ e => e, fun k hk => (by rw [List.take_zero] at hk; cases hk), by rw [List.take_zero]; exact .nil⟩ (fun i σ H' _ p => ?_) ?_ ?_⟩
  · obtain ⟨_, _, _, s1, _⟩ := p
    exact SqT.of (s1 _ _ hs)
  · rintro i x σ H1 p hx ⟨o1, o2, rfl, s1, an, nd⟩ np
    obtain ⟨z, hz, rfl⟩ : ∃ z, ks[i]? = some z ∧ x = V.str z := by
      rw [List.getElem?_map] at hx
      cases e : ks[i]? with
      | none => rw [e] at hx; cases hx
      | some z => rw [e] at hx; exact ⟨z, rfl, (Option.some.inj hx).symm⟩
    have hi : i < ks.length := (List.getElem?_eq_some_iff.mp hz).1
    have zm := List.mem_of_getElem? hz
    have s2 : Same H1 (upd H1 p (.tup [.int (i : Nat), .str z])) := same_new np
    refine ⟨p, _, rfl, SqT.of upd_same, rfl, ?_⟩
    refine ⟨_, _, rfl, _, _, rfl, rfl, .str z, rfl, .str z, rfl, .inl ⟨z, rfl, by have := hl z zm; omega, fun H2 s3 => ?_⟩⟩
    have sA := s1.trans (s2.trans s3)
    cases hn : nmS z with
    | false => exact ⟨false, rfl, iteT ⟨.int ((i : Nat) : Int), rfl, fun d H' s n e => qE (fun h => by rw [h.kn z zm] at hn; cases hn) d _ H' (sA.trans s) e⟩⟩
    | true =>
    refine ⟨true, rfl, iteF ?_⟩
    refine ⟨.str z, rfl, .ref a, rfl, .int (i : Nat), rfl, _, rfl, a, ks.map V.str, rfl, SqT.of (sA _ _ hs), ?_, fun L nL => ?_⟩
    · rintro ⟨_, e⟩
      rw [HT.sIx_nat, List.length_map] at e
      omega
    rw [cut_take (by rw [List.length_map]; omega), ← List.map_take]
    have sB := sA.trans (same_new (o := .tup ((ks.take i).map V.str)) nL)
    refine ⟨L, _, rfl, .inr (SqT.of upd_same), rfl, all_flat _, _, rfl, ?_⟩
    rw [if_neg (by decide), inV_str]
    by_cases hm : z ∈ ks.take i
    · rw [decide_eq_true hm]
      refine iteT ⟨.int ((i : Nat) : Int), rfl, fun d H' s n e => qE (fun h => ?_) d _ H' (sB.trans s) e⟩
      obtain ⟨j, hj, ej⟩ := List.getElem_of_mem hm
      rw [List.length_take] at hj
      rw [List.getElem_take] at ej
      have e2 : ks[j]? = ks[i]? := by rw [hz, List.getElem?_eq_getElem (by omega), ej]
      have := (List.getElem?_inj (by omega) h.kd).mp e2
      omega
    · rw [decide_eq_false hm]
      have et : ks.take (i + 1) = ks.take i ++ [z] := by rw [List.take_add_one, hz]; rfl
      refine iteF ⟨_, _, rfl, sB, ?_, ?_⟩
      · intro k hk
        rw [et] at hk
        rcases List.mem_append.mp hk with m | m
        · exact an k m
        · rw [List.mem_singleton.mp m]
          exact hn
      · rw [et, List.nodup_append]
        exact ⟨nd, List.nodup_cons.mpr ⟨by simp, .nil⟩, fun x hx y hy e => hm (by rw [List.mem_singleton.mp hy] at e; rw [← e]; exact hx)⟩
  · rintro σ H1 ⟨o1, o2, rfl, s1, an, nd⟩
    rw [List.length_map, List.take_length] at an nd
    exact q ⟨k1, k4, an, nd⟩ H1 s1
def spIsT : Sp := fun vs H Q _ => ∃ (x : V) (a : Addr) (ks : List Str) (r : Rw), vs = [x, .ref a] ∧ StT H a ks ∧ RowV H x r ∧ r.1.length ≤ 900 ∧ r.2.2.length < sizeLine ∧ ∀ H', Same H H' → Q (.bl (rwB ks r)) H'
theorem ok_isT {f fi fo : Addr} {fd fdi fdo : FuncData} (F : Fun K "_is_constructor" "_is_constructor" sIsC f fd) (T : TS0 mg)
    (GI : FnOk P w K mg base CX0 1 fi fdi ["value"] (spIs K)) (ki : PySem.W.keepIn K (.ref fi) = true) (bI : Binds K fdi ["value"] []) (gI : mg "is_name" = some (.ref fi))
    (GO : FnOk P w K mg base CX0 1 fo fdo ["value", "names"] (spOne K)) (ko : PySem.W.keepIn K (.ref fo) = true) (bO : Binds K fdo ["value", "names"] []) (gO : mg "_is_one_of" = some (.ref fo)) :
    FnOk P w K mg base CX0 2 f fd ["value", "kinds"] spIsT := by
  obtain ⟨t3, m3⟩ := T.mfi
  refine F.ok scIsC (fun vs H Q E h => ?_) (fun cv A ou s H vs Q E hr h => ?_)
  · obtain ⟨x, a, ks, r, rfl, _⟩ := h
    rfl
  obtain ⟨x, a, ks, r, rfl, hs, ⟨b, fa, rfl, hb, hf⟩, l1, l2, q⟩ := h
  refine ⟨_, pss_cons (ps_if (PW.pt (pw_or (pt_not (pt_val (pe_callB call_isi (by rfl) T.isi boot_isinstance (pa_cons (pv 0) (pa_cons (pe_bltn (v := .ty "tuple") (by rfl) T.tup boot_tuple rfl) pa_nil)))))
        (pw_or1 (pt_cmpR op_ne (pe_callB call_len_seq (by rfl) T.len PySem.boot_len (pa_cons (pv 0) pa_nil)) pe_int (nomark _))))) (pss_one (ps_ret pe_bl)) pss_nil)
    (pss_cons (ps_asg (pv 0) (pg_tup (by rfl) (pgs_cons (pg_name (i := 2) scIsC.nd rfl (.inl rfl)) (pgs_cons (pg_name (i := 3) scIsC.nd rfl (.inl rfl)) (pgs_cons (pg_name (i := 4) scIsC.nd rfl (.inl rfl)) pgs_nil)))))
    (pss_cons (ps_if (PW.pt (pw_or (pt_not (pt_val (pe_call GI hr (by rfl) gI ki bI .nil pass0 (pa_cons (pv 2) pa_nil)))) (pw_or1 (pt_not (pt_val (pe_call GO hr (by rfl) gO ko bO .nil pass0 (pa_cons (pv 3) (pa_cons (pv 1) pa_nil)))))))) (pss_one (ps_ret pe_bl)) pss_nil)
    (pss_cons (ps_if (PW.pt (pw_or (pt_not (pt_val (pe_callB call_isi (by rfl) T.isi boot_isinstance (pa_cons (pv 4) (pa_cons (pe_bltn (v := .ty "tuple") (by rfl) T.tup boot_tuple rfl) pa_nil)))))
        (pw_or1 (pt_cmpR op_gt (pe_callB call_len_seq (by rfl) T.len PySem.boot_len (pa_cons (pv 4) pa_nil)) (pe_glob (v := .int 3) (by rfl) m3 ⟨_, rfl⟩) (nomark _))))) (pss_one (ps_ret pe_bl)) pss_nil)
    (pss_one (ps_ret (pe_callB (cr_all rfl) (by rfl) T.all boot_all (pa_cons (pe_lc (own := [("field", 5)]) (g := gName 5) (tt := tYes) rfl scIsC.nd (pi_tup (pv 4)) (blkOk_by (own := [("field", 5)]) (N := ["value", "kinds", "name", "kind", "fields", "field"]) (sc := defScope sIsC) (by decide +kernel))
      (fun _ _ _ _ _ => pg_name (i := 5) scIsC.nd rfl (Or.inl rfl)) (fun _ _ _ _ _ => pts_nil)
      (fun _ _ _ _ _ => asTE (te := tCall (spOne K) [] E0 (tCons (tVar 5) (tCons (tVar 1) tNil))) (pe_call GO hr (by rfl) gO ko bO .nil pass0 (pa_cons (pv 5) (pa_cons (pv 1) pa_nil))) rfl)) pa_nil))))))), ?_⟩
  refine ⟨.ref b, rfl, .ref b, .ty "tuple", _, _, true, rfl, .ty "tuple", .base (.tup hb), kit_ty (by decide +kernel), _, rfl, iteF ?_⟩
  refine ⟨.ref b, rfl, b, _, rfl, .inr (SqT.of hb), rfl, _, rfl, ?_⟩
  rw [show decide (V.int ((([V.str r.1, .str r.2.1, .ref fa] : List V).length : Nat) : Int) = V.int 3) = true from decide_eq_true rfl]
  refine iteF ?_
  refine ⟨.ref b, rfl, b, _, rfl, SqT.of hb, rfl, _, _, rfl, _, _, rfl, _, _, rfl, rfl, ?_⟩
  refine ⟨.str r.1, rfl, .str r.1, rfl, .inl ⟨r.1, rfl, by omega, fun H2 s2 => ?_⟩⟩
  have hs2 : StT H2 a ks := s2 _ _ hs
  have hf2 : H2 fa = _ := s2 _ _ hf
  have q2 := q H2 s2
  unfold rwB at q2
  cases gn : nmS r.1 with
  | false =>
    rw [gn] at q2
    exact ⟨false, rfl, iteT q2⟩
  | true =>
  rw [gn, Bool.true_and] at q2
  refine ⟨true, rfl, iteF ?_⟩
  by_cases gk : r.2.1 ∈ ks
  rotate_left
  · rw [decide_eq_false gk] at q2
    exact ⟨.str r.2.1, rfl, .ref a, rfl, .str r.2.1, a, ks, false, rfl, SqT.of hs2, .inl ⟨r.2.1, rfl, (decide_eq_false gk).symm⟩, false, rfl, iteT q2⟩
  rw [decide_eq_true gk, Bool.true_and] at q2
  refine ⟨.str r.2.1, rfl, .ref a, rfl, .str r.2.1, a, ks, true, rfl, SqT.of hs2, .inl ⟨r.2.1, rfl, (decide_eq_true gk).symm⟩, true, rfl, iteF ?_⟩
  refine ⟨.ref fa, rfl, .ref fa, .ty "tuple", _, _, true, rfl, .ty "tuple", .base (.tup hf2), kit_ty (by decide +kernel), _, rfl, iteF ?_⟩
  refine ⟨.ref fa, rfl, fa, _, rfl, .inr (SqT.of hf2), _, _, rfl, rfl, _, rfl, ?_⟩
  by_cases gl : r.2.2.length ≤ 3
  rotate_left
  · rw [decide_eq_false gl] at q2
    rw [decide_eq_true (show ((r.2.2.map V.str).length : Int) > 3 by rw [List.length_map]; omega)]
    exact iteT q2
  rw [decide_eq_true gl, Bool.true_and] at q2
  rw [decide_eq_false (show ¬ ((r.2.2.map V.str).length : Int) > 3 by rw [List.length_map]; omega)]
  refine iteF ?_
  refine ⟨.ref fa, rfl, fa, rfl, ⟨_, SqT.of hf2⟩, fun D nD => lc_funT (K := K) (a := fa) (xs := r.2.2.map V.str) (ys := (r.2.2.map fun z => decide (z ∈ ks)).map V.bl) (fun _ => rfl) nD (SqT.of hf2) (by rw [List.length_map]; omega) (by rw [List.length_map, List.length_map, List.length_map]) (fun i x y H3 hx hy s3 q => ?_) fun H3 s3 eD => ?_⟩
  · intro k
    rw [List.getElem?_map] at hx
    cases e : r.2.2[i]? with
    | none => rw [e] at hx; cases hx
    | some z =>
      rw [e] at hx
      cases hx
      rw [List.getElem?_map, List.getElem?_map, e] at hy
      cases hy
      exact ⟨.str z, rfl, .ref a, rfl, .str z, a, ks, _, rfl, SqT.of (s3 _ _ hs2), .inl ⟨z, rfl, rfl⟩, k H3 fun _ _ e => e⟩
  · refine ⟨D, r.2.2.map (fun z => decide (z ∈ ks)), rfl, SqL.of eD, ?_⟩
    have q3 := q H3 (s2.trans s3)
    unfold rwB at q3
    rw [gn, decide_eq_true gk, decide_eq_true gl, Bool.true_and, Bool.true_and, Bool.true_and] at q3
    rw [show (r.2.2.map fun z => decide (z ∈ ks)).all id = r.2.2.all fun z => decide (z ∈ ks) by rw [List.all_map]; rfl]
    exact q3
def spCdT (C : Addr) : Sp := fun vs H Q E => ∃ (c a : Addr) (ks : List Str) (rs : List Rw), vs = [.ref c, .ref a] ∧ StT H a ks ∧ RowsT H c rs ∧ RsB rs ∧
  (RsOk ks rs → ∀ H', Same H H' → Q .non H') ∧ (¬ RsOk ks rs → ∀ d v H', Same H H' → H' d = some (.xd [("index", v)]) → E (.ref C) (some d) H')
set_option maxHeartbeats 8000000 in
theorem ok_cdT {f fi : Addr} {fd fdi : FuncData} (F : Fun K "_check_constructors" "_check_constructors" sCc f fd) (T : TS0 mg)
    (GI : FnOk P w K mg base CX0 2 fi fdi ["value", "kinds"] spIsT) (ki : PySem.W.keepIn K (.ref fi) = true) (bI : Binds K fdi ["value", "kinds"] []) (gI : mg "_is_constructor" = some (.ref fi)) (O : One P w K mg base "InvalidConstructors" "index" C) (ty : PySem.W.typeIn K (.ref C) = some (.type "type")) :
    FnOk P w K mg base (L2N.CX P w) 3 f fd ["constructors", "kinds"] (spCdT C) := by
  obtain ⟨t6, m6⟩ := T.mco
  refine okXN F scCc (fun vs H Q E h => ?_) (fun cv A ou s H vs Q E hr h => ?_)
  · obtain ⟨c, a, ks, rs, rfl, _⟩ := h
    rfl
  obtain ⟨c, a, ks, rs, rfl, hs, ⟨xs, hc, hp⟩, g, q, qE⟩ := h
  have ln : xs.length = rs.length := Paired.length hp
  refine ⟨_, pss_cons (ps_if (PW.pt (pw_or (pt_not (pt_val (pe_callB call_isi (by rfl) T.isi boot_isinstance (pa_cons (pv 0) (pa_cons (pe_bltn (v := .ty "tuple") (by rfl) T.tup boot_tuple rfl) pa_nil)))))
        (pw_or1 (pt_not (pt_chain op_le op_le pe_int (pe_callB call_len_seq (by rfl) T.len PySem.boot_len (pa_cons (pv 0) pa_nil)) (pe_glob (v := .int 6) (by rfl) m6 ⟨_, rfl⟩)))))) (pss_one (L2N.ps_raise rfl (L2N.takes_of rfl rfl rfl rfl) (pmkN_one O ty hr (by rfl) pe_non))) pss_nil)
    (pss_cons (ps_set (i := 2) scCc.nd rfl (.inl rfl) (pe_lst pa_nil))
    (pss_one (ps_for PassesOwn.leaving rfl (pi_enT (by rfl) T.enu (pa_cons (pv 0) pa_nil)) (pg_tup rfl (pgs_cons (pg_name (i := 3) scCc.nd rfl (.inl rfl)) (pgs_cons (pg_name (i := 4) scCc.nd rfl (.inl rfl)) pgs_nil)))
      (pss_cons (ps_if (PW.pt (pw_or (pt_not (pt_val (pe_call GI hr (by rfl) gI ki bI .nil pass0 (pa_cons (pv 4) (pa_cons (pv 1) pa_nil))))) (pw_or1 (pt_cmpR op_in_seq (pe_ix ix_tup (pv 4) pe_int (fun _ _ => rfl)) (pv 2) (by rfl))))) (pss_one (L2N.ps_raise rfl (L2N.takes_of rfl rfl rfl rfl) (pmkN_one O ty hr (by rfl) (pv 3)))) pss_nil)
      (pss_one (ps_expr (pe_bm PySem.F.plainAttrs_list PySem.F.slot_list_append PySem.F.type_list_append mt_append (pv 2) (pa_cons (pe_ix ix_tup (pv 4) pe_int (fun _ _ => rfl)) pa_nil)))))))), ?_⟩
  refine ⟨.ref c, rfl, .ref c, .ty "tuple", _, _, true, rfl, .ty "tuple", hc.ty, kit_ty (by decide +kernel), _, rfl, iteF ?_⟩
  refine ⟨.ref c, rfl, c, _, rfl, .inr hc.sq, _, _, rfl, rfl, _, rfl, ?_⟩
  by_cases r1 : 1 ≤ rs.length
  rotate_left
  · rw [decide_eq_false (show ¬ (1 : Int) ≤ ((xs.length : Nat) : Int) by omega)]
    exact iteF ⟨_, rfl, iteT (fun d H' s n e => qE (fun h => r1 h.r1) d _ H' s e)⟩
  rw [decide_eq_true (show (1 : Int) ≤ ((xs.length : Nat) : Int) by omega)]
  refine iteT ⟨_, _, rfl, rfl, _, rfl, ?_⟩
  by_cases r6 : rs.length ≤ 6
  rotate_left
  · rw [decide_eq_false (show ¬ ((xs.length : Nat) : Int) ≤ 6 by omega)]
    exact iteT (fun d H' s n e => qE (fun h => r6 h.r6) d _ H' s e)
  rw [decide_eq_true (show ((xs.length : Nat) : Int) ≤ 6 by omega)]
  refine iteF ⟨(by show 0 ≤ sizeLine; exact Nat.zero_le _), fun L nL => ?_⟩
  refine ⟨.ref c, rfl, c, _, rfl, (hc.keep (same_new nL)).sq, for_enT (K := K) (t := c) (xs := xs) (fun i σ H' => ∃ o3 o4 : Option V, σ = [some (.ref c), some (.ref a), some (.ref L), o3, o4] ∧ Same H H' ∧ H' L = some (.lst (((rs.take i).map (·.1)).map V.str)) ∧ (∀ r ∈ rs.take i, RwOk ks r) ∧ ((rs.take i).map (·.1)).Nodup) ⟨none, none, rfl, same_new nL, upd_same, fun r hr => (by rw [List.take_zero] at hr; cases hr), by rw [List.take_zero]; exact .nil⟩ (fun i σ H' _ p => ?_) ?_ ?_⟩
  · obtain ⟨_, _, _, s1, _⟩ := p
    exact (hc.keep s1).sq
  · rintro i x σ H1 p hx ⟨o3, o4, rfl, s1, eL, gd, nd⟩ np
    obtain ⟨r, hr2, b, fa, rfl, hb, hf⟩ := rows_at hp hx
    have hi : i < rs.length := (List.getElem?_eq_some_iff.mp hr2).1
    have rm := List.mem_of_getElem? hr2
    have s2 : Same H1 (upd H1 p (.tup [.int (i : Nat), .ref b])) := same_new np
    refine ⟨p, _, rfl, SqT.of upd_same, rfl, ?_⟩
    have sA := s1.trans s2
    have sl := sizeLine_eq
    refine ⟨_, _, rfl, _, _, rfl, rfl, .ref b, rfl, .ref a, rfl, .ref b, a, ks, r, rfl, sA _ _ hs, ⟨b, fa, rfl, sA _ _ hb, sA _ _ hf⟩, g.n r rm, (by have := g.f r rm; omega), fun H2 s3 => ?_⟩
    have sB := sA.trans s3
    cases hw : rwB ks r with
    | false => exact ⟨false, rfl, iteT ⟨.int ((i : Nat) : Int), rfl, fun d H' s n e => qE (fun h => by rw [rwB_of (h.ok r rm)] at hw; cases hw) d _ H' (sB.trans s) e⟩⟩
    | true =>
    refine ⟨true, rfl, iteF ?_⟩
    have eL2 := s3 _ _ (s2 _ _ eL)
    have hb2 := sB _ _ hb
    have lt : ((rs.take i).map (·.1)).length ≤ 6 := by rw [List.length_map, List.length_take]; omega
    have et : rs.take (i + 1) = rs.take i ++ [r] := by rw [List.take_add_one, hr2]; rfl
    refine ⟨.ref b, rfl, b, _, _, .str r.1, rfl, rfl, SqT.of hb2, rfl, .ref L, rfl, L, _, rfl, .inl (SqL.of eL2), rfl, all_flat _, _, rfl, ?_⟩
    rw [if_neg (by decide), inV_str]
    by_cases hm : r.1 ∈ (rs.take i).map (·.1)
    · rw [decide_eq_true hm]
      refine iteT ⟨.int ((i : Nat) : Int), rfl, fun d H' s n e => qE (fun h => ?_) d _ H' (sB.trans s) e⟩
      have rd := h.rd
      rw [← List.take_append_drop (i + 1) rs, List.map_append, et, List.map_append] at rd
      exact (List.nodup_append.mp (List.nodup_append.mp rd).1).2.2 _ hm r.1 (by simp) rfl
    · rw [decide_eq_false hm]
      refine iteF ⟨.ref L, rfl, .inl ⟨rfl, _, SqL.of eL2⟩, .ref b, rfl, b, _, _, .str r.1, rfl, rfl, SqT.of hb2, rfl, L, _, _, rfl, rfl, eL2, ?_, _, _, rfl, same_upd sB nL, ?_, ?_, ?_⟩
      · rw [List.length_map]
        exact small1000 (by omega)
      · rw [upd_same, et, List.map_append, List.map_append]
        rfl
      · intro r' hr'
        rw [et] at hr'
        rcases List.mem_append.mp hr' with m | m
        · exact gd r' m
        · rw [List.mem_singleton.mp m]
          exact rwB_ok hw
      · rw [et, List.map_append, List.nodup_append]
        exact ⟨nd, List.nodup_cons.mpr ⟨by simp, .nil⟩, fun x hx y hy e => hm (by have ey : y = r.1 := List.mem_singleton.mp hy; rw [ey] at e; rw [e] at hx; exact hx)⟩
  · rintro σ H1 ⟨o3, o4, rfl, s1, _, gd, nd⟩
    rw [ln, List.take_length] at gd nd
    exact q ⟨r1, r6, gd, nd⟩ H1 s1
end
/-! the kinds that have a tree, filled in rounds -/
def stp (fl : List Str) (r : Rw) : List Str := if r.2.1 ∉ fl ∧ (r.2.2.all fun z => decide (z ∈ fl)) = true then fl ++ [r.2.1] else fl
def rds (rs : List Rw) : Nat → List Str
  | 0 => []
  | n + 1 => rs.foldl stp (rds rs n)
def fullOf (ks : List Str) (rs : List Rw) : List Str := rds rs ks.length
/-- the first kind without a tree -/
def emp (ks : List Str) (rs : List Rw) : Option Str := ks.find? fun k => !decide (k ∈ fullOf ks rs)
structure FullK (ks fl : List Str) : Prop where
  nd : fl.Nodup
  sub : ∀ x ∈ fl, x ∈ ks
theorem FullK.len {ks fl : List Str} (f : FullK ks fl) (g : ks.length ≤ 4) : fl.length ≤ 4 := Nat.le_trans (nd_le fl ks f.nd f.sub) g
theorem all_in {l fl : List Str} : (l.map fun z => decide (z ∈ fl)).all id = l.all fun z => decide (z ∈ fl) := by
  rw [List.all_map]
  rfl
theorem find_at {z : Str} {fl : List Str} : ∀ {ks : List Str} {j : Nat}, (∀ k ∈ ks.take j, k ∈ fl) → ks[j]? = some z → z ∉ fl → (ks.find? fun k => !decide (k ∈ fl)) = some z
  | [], _, _, h, _ => by cases h
  | x :: r, 0, _, h, n => by
    cases h
    rw [List.find?_cons, decide_eq_false n]
    rfl
  | x :: r, j + 1, p, h, n => by
    rw [List.find?_cons, decide_eq_true (p x (by rw [List.take_succ_cons]; exact List.mem_cons_self ..))]
    exact find_at (j := j) (fun k hk => p k (by rw [List.take_succ_cons]; exact List.mem_cons_of_mem _ hk)) h n
theorem find_no {fl ks : List Str} (h : ∀ k ∈ ks, k ∈ fl) : (ks.find? fun k => !decide (k ∈ fl)) = none := by
  rw [List.find?_eq_none]
  intro x hx
  rw [decide_eq_true (h x hx)]
  decide
section
variable {P : Program} {w : World} {K : PySem.W.Frag} {mg : Str → Option Value} {base : Heap} {C : Addr}
def spCtX (C : Addr) : Sp := fun vs H Q E => ∃ (a c : Addr) (ks : List Str) (rs : List Rw), vs = [.ref a, .ref c] ∧ StT H a ks ∧ RowsT H c rs ∧ ks.length ≤ 4 ∧ (∀ r ∈ rs, RwOk ks r) ∧
  (emp ks rs = none → ∀ H', Same H H' → Q .non H') ∧ (∀ z, emp ks rs = some z → ∀ d H', Same H H' → H' d = some (.xd [("kind", .str z)]) → E (.ref C) (some d) H')
theorem ok_ctX {f : Addr} {fd : FuncData} (F : Fun K "_check_trees" "_check_trees" sCt f fd) (T : TS0 mg) (O : One P w K mg base "EmptyKind" "kind" C) (ty : PySem.W.typeIn K (.ref C) = some (.type "type")) : FnOk P w K mg base (L2N.CX P w) 3 f fd ["kinds", "constructors"] (spCtX C) := by
  refine okXN F scCt (fun vs H Q E h => ?_) (fun cv A ou s H vs Q E hr h => ?_)
  · obtain ⟨c, a, ks, rs, rfl, _⟩ := h
    rfl
  obtain ⟨a, c, ks, rs, rfl, hs, ⟨xs, hc, hp⟩, k4, g, q, qE⟩ := h
  have ln : xs.length = rs.length := Paired.length hp
  refine ⟨_, pss_cons (ps_set (i := 2) scCt.nd rfl (.inr rfl) (pe_lst pa_nil))
    (pss_cons (ps_for PassesOwn.leaving rfl (pi_range1 rfl T.rng (pa_cons (pe_callB call_len_seq (by rfl) T.len PySem.boot_len (pa_cons (pv 0) pa_nil)) pa_nil)) (pg_name (i := 3) scCt.nd rfl (.inl rfl))
      (pss_one (ps_for PassesOwn.leaving rfl (pi_tup (pv 1)) (pg_name (i := 4) scCt.nd rfl (.inl rfl))
        (pss_cons (ps_par (i := 5) (j := 6) (by rfl) scCt.nd rfl rfl (by decide) rfl rfl (pa_cons (pe_ix ix_tup (pv 4) pe_int (fun _ _ => rfl)) (pa_cons (pe_ix ix_tup (pv 4) pe_int (fun _ _ => rfl)) pa_nil)) (by rfl))
        (pss_one (ps_if (PW.pt (pw_and (pt_cmpR op_notIn_seq (pv 5) (pv 2) (by rfl)) (pw_and1 (pt_val (pe_callB (cr_all rfl) (by rfl) T.all boot_all (pa_cons (pe_lc (own := [("field", 7)]) (g := gName 7) (tt := tYes) rfl scCt.nd (pi_tup (pv 6)) (blkOk_by (own := [("field", 7)]) (N := ["kinds", "constructors", "full", "_", "constructor", "kind", "fields", "field"]) (sc := defScope sCt) (by decide +kernel))
            (fun _ _ _ _ _ => pg_name (i := 7) scCt.nd rfl (Or.inl rfl)) (fun _ _ _ _ _ => pts_nil)
            (fun _ _ _ _ _ => asTE (te := tOp (rIn K false) (tVar 7) (tVar 2)) (pe_cmpR op_in_seq (pv 7) (pv 2) (by rfl)) rfl)) pa_nil))))))
          (pss_one (ps_expr (pe_bm PySem.F.plainAttrs_list PySem.F.slot_list_append PySem.F.type_list_append mt_append (pv 2) (pa_cons (pv 5) pa_nil)))) pss_nil))))))
    (pss_one (ps_for PassesOwn.leaving rfl (pi_tup (pv 0)) (pg_name (i := 5) scCt.nd rfl (.inl rfl)) (pss_one (ps_if (pt_cmpR op_notIn_seq (pv 5) (pv 2) (by rfl)) (pss_one (L2N.ps_raise rfl (L2N.takes_of rfl rfl rfl rfl) (pmkN_one O ty hr (by rfl) (pv 5)))) pss_nil))))), ?_⟩
  refine ⟨(by show 0 ≤ sizeLine; exact Nat.zero_le _), fun L nL => ?_⟩
  refine ⟨.ref a, rfl, a, _, rfl, .inr (SqT.of (same_new nL _ _ hs)), _, rfl, ?_, ?_, for_range (fun i σ H' => ∃ (o3 o4 o5 o6 : Option V) (fl : List Str), σ = [some (.ref a), some (.ref c), some (.ref L), o3, o4, o5, o6, none] ∧ Same H H' ∧ H' L = some (.lst (fl.map V.str)) ∧ FullK ks fl ∧ fl = rds rs i)
    ⟨none, none, none, none, [], rfl, same_new nL, upd_same, ⟨.nil, fun x hx => by cases hx⟩, rfl⟩ ?_ ?_⟩
  · omega
  · rw [List.length_map]
    omega
  · rintro i σ H1 hi ⟨o3, o4, o5, o6, fl, rfl, s1, eL, fu, al⟩
    refine ⟨.ref c, rfl, c, rfl, ⟨_, (hc.keep s1).sq⟩, for_tup (K := K) (a := c) (xs := xs) (fun j σ H' => ∃ (o4 o5 o6 : Option V) (fl : List Str), σ = [some (.ref a), some (.ref c), some (.ref L), some (.int (0 + (i : Int))), o4, o5, o6, none] ∧ Same H H' ∧ H' L = some (.lst (fl.map V.str)) ∧ FullK ks fl ∧ fl = (rs.take j).foldl stp (rds rs i))
      ⟨o4, o5, o6, fl, rfl, s1, eL, fu, al⟩ (fun j σ H' _ p => ?_) ?_ ?_⟩
    · obtain ⟨_, _, _, _, _, s2, _⟩ := p
      exact (hc.keep s2).sq
    · clear eL fu al
      rintro j x σ H2 hx ⟨o4, o5, o6, fl, rfl, s2, eL, fu, al⟩
      obtain ⟨r, hr2, b, fa, rfl, hb, hf⟩ := rows_at hp hx
      have hrm := List.mem_of_getElem? hr2
      have hb2 := s2 _ _ hb
      have hf2 : StT H2 fa r.2.2 := s2 _ _ hf
      have l4 := fu.len k4
      have gf := (g r hrm).l
      refine ⟨.ref b, rfl, b, _, _, .str r.2.1, rfl, rfl, SqT.of hb2, rfl, .ref b, rfl, b, _, _, .ref fa, rfl, rfl, SqT.of hb2, rfl, _, _, rfl, ?_⟩
      have tk : stp fl r = (rs.take (j + 1)).foldl stp (rds rs i) := by
        rw [List.take_add_one, hr2, List.foldl_append, ← al]
        rfl
      refine ⟨.str r.2.1, rfl, .ref L, rfl, L, _, rfl, .inl (SqL.of eL), rfl, all_flat _, _, rfl, ?_⟩
      rw [if_pos rfl, inV_str]
      by_cases hk : r.2.1 ∈ fl
      · rw [decide_eq_true hk]
        refine iteF (iteF ?_)
        exact ⟨_, _, _, fl, rfl, s2, eL, fu, by rw [← tk, stp, if_neg (fun h => h.1 hk)]⟩
      · rw [decide_eq_false hk]
        refine iteT ?_
        refine ⟨.ref fa, rfl, fa, rfl, ⟨_, SqT.of hf2⟩, fun D nD => lc_funT (K := K) (a := fa) (xs := r.2.2.map V.str) (ys := (r.2.2.map fun z => decide (z ∈ fl)).map V.bl) (fun _ => rfl) nD (SqT.of hf2) (by rw [List.length_map]; omega) (by rw [List.length_map, List.length_map, List.length_map]) (fun n x y H3 hx hy s3 q => ?_) fun H3 s3 eD => ?_⟩
        · intro k
          rw [List.getElem?_map] at hx
          cases e : r.2.2[n]? with
          | none => rw [e] at hx; cases hx
          | some z =>
            rw [e] at hx
            cases hx
            rw [List.getElem?_map, List.getElem?_map, e] at hy
            cases hy
            refine ⟨.str z, rfl, .ref L, rfl, L, _, rfl, .inl (SqL.of (s3 _ _ eL)), rfl, all_flat _, ?_⟩
            rw [if_neg (by decide), inV_str]
            exact k H3 fun _ _ e => e
        · refine ⟨D, _, rfl, SqL.of eD, _, rfl, ?_⟩
          have eL3 := s3 _ _ eL
          have s4 := s2.trans s3
          cases hb : (r.2.2.map fun z => decide (z ∈ fl)).all id with
          | false =>
            refine iteF ⟨_, _, _, fl, rfl, s4, eL3, fu, ?_⟩
            rw [← tk, stp, if_neg (fun h => ?_)]
            rw [all_in, h.2] at hb
            cases hb
          | true =>
            refine iteT ⟨.ref L, rfl, .inl ⟨rfl, _, SqL.of eL3⟩, .str r.2.1, rfl, L, _, _, rfl, rfl, eL3, ?_, _, _, _, fl ++ [r.2.1], rfl, same_upd s4 nL, ?_, ⟨?_, ?_⟩, by rw [← tk, stp, if_pos ⟨hk, by rw [← all_in]; exact hb⟩]⟩
            · rw [List.length_map]
              exact small1000 (by omega)
            · rw [upd_same, List.map_append]
              rfl
            · rw [List.nodup_append]
              exact ⟨fu.nd, List.nodup_cons.mpr ⟨by simp, .nil⟩, fun x hx y hy e => hk (by rw [List.mem_singleton.mp hy] at e; rw [← e]; exact hx)⟩
            · intro x hx
              rcases List.mem_append.mp hx with z | z
              · exact fu.sub x z
              · rw [List.mem_singleton.mp z]
                exact (g r hrm).k
    · clear eL fu al
      rintro σ H2 ⟨o4, o5, o6, fl, rfl, s2, eL, fu, al⟩
      refine ⟨_, o4, o5, o6, fl, rfl, s2, eL, fu, ?_⟩
      rw [al, ln, List.take_length]
      rfl
  · rintro σ H1 ⟨o3, o4, o5, o6, fl, rfl, s1, eL, fu, al⟩
    have al2 : fl = fullOf ks rs := by rw [al, List.length_map]; rfl
    refine ⟨.ref a, rfl, a, rfl, ⟨_, SqT.of (s1 _ _ hs)⟩, for_tup (K := K) (a := a) (xs := ks.map V.str) (fun j σ H' => ∃ (o3 o4 o5 o6 : Option V), σ = [some (.ref a), some (.ref c), some (.ref L), o3, o4, o5, o6, none] ∧ H' = H1 ∧ ∀ k ∈ ks.take j, k ∈ fl) ⟨_, _, _, _, rfl, rfl, fun k hk => by rw [List.take_zero] at hk; cases hk⟩ (fun j σ H' _ p => ?_) ?_ ?_⟩
    · obtain ⟨_, _, _, _, _, rfl, _⟩ := p
      exact SqT.of (s1 _ _ hs)
    · rintro j x σ H2 hx ⟨o3, o4, o5, o6, rfl, rfl, pf⟩
      obtain ⟨z, hz, rfl⟩ : ∃ z, ks[j]? = some z ∧ x = V.str z := by
        rw [List.getElem?_map] at hx
        cases e : ks[j]? with
        | none => rw [e] at hx; cases hx
        | some z => rw [e] at hx; exact ⟨z, rfl, (Option.some.inj hx).symm⟩
      refine ⟨.str z, rfl, .ref L, rfl, L, _, rfl, .inl (SqL.of eL), rfl, all_flat _, _, rfl, ?_⟩
      rw [if_pos rfl, inV_str]
      by_cases hf : z ∈ fl
      · rw [decide_eq_true hf]
        refine iteF ⟨_, _, _, _, rfl, rfl, fun k hk => ?_⟩
        rw [List.take_add_one, hz] at hk
        rcases List.mem_append.mp hk with m | m
        · exact pf k m
        · have : k = z := by simpa using m
          rw [this]
          exact hf
      · rw [decide_eq_false hf]
        refine iteT ⟨.str z, rfl, fun d H3 s4 _ e3 => qE z ?_ d H3 (s1.trans s4) e3⟩
        rw [al2] at pf hf
        exact find_at pf hz hf
    · rintro σ H2 ⟨o3, o4, o5, o6, rfl, rfl, pf⟩
      refine q ?_ _ s1
      rw [List.length_map, List.take_length, al2] at pf
      exact find_no pf
end
end Ks
set_option Elab.async false
set_option linter.all false
set_option maxRecDepth 100000
set_option maxHeartbeats 4000000
namespace Ks
open PySem PySem.Spec PyProof.Rows L2 Gd Kx
section
variable {P : Program} {w : World} {K : PySem.W.Frag} {mg : Str → Option Value} {base : Heap} {C CK CC CE : Addr}
def spIniT (C CK CC CE : Addr) : Sp := fun vs H Q E => ∃ (x dx k c : Addr) (ks : List Str) (rs : List Rw), vs = [.ref x, .ref k, .ref c] ∧ H x = some (.ins C dx []) ∧ StT H k ks ∧ RowsT H c rs ∧ (∀ z ∈ ks, z.length ≤ 900) ∧ RsB rs ∧
  (KsOk ks → RsOk ks rs → emp ks rs = none → ∀ n H', But x H H' → n ≠ x → InS C H' x dx k c n (rs.map (·.1)) → FzT H' n ((rs.map (·.1)).map V.str) → Q .non H') ∧
  (¬ KsOk ks → ∀ d v H', Same H H' → H' d = some (.xd [("index", v)]) → E (.ref CK) (some d) H') ∧
  (KsOk ks → ¬ RsOk ks rs → ∀ d v H', Same H H' → H' d = some (.xd [("index", v)]) → E (.ref CC) (some d) H') ∧
  (KsOk ks → RsOk ks rs → ∀ z, emp ks rs = some z → ∀ d H', Same H H' → H' d = some (.xd [("kind", .str z)]) → E (.ref CE) (some d) H')
set_option maxHeartbeats 8000000 in
theorem ok_iniT {f fk fc ft : Addr} {fd fdk fdc fdt : FuncData} (F : Fun K "__init__" "Schema.__init__" (cS 0) f fd) (T : TS0 mg) (Z : SCl K C)
    (GK : FnOk P w K mg base (L2N.CX P w) 3 fk fdk ["kinds"] (spKdT CK)) (kk : PySem.W.keepIn K (.ref fk) = true) (bK : Binds K fdk ["kinds"] []) (gK : mg "_check_kinds" = some (.ref fk))
    (GC : FnOk P w K mg base (L2N.CX P w) 3 fc fdc ["constructors", "kinds"] (spCdT CC)) (kc : PySem.W.keepIn K (.ref fc) = true) (bC : Binds K fdc ["constructors", "kinds"] []) (gC : mg "_check_constructors" = some (.ref fc))
    (GT : FnOk P w K mg base (L2N.CX P w) 3 ft fdt ["kinds", "constructors"] (spCtX CE)) (kt : PySem.W.keepIn K (.ref ft) = true) (bT : Binds K fdt ["kinds", "constructors"] []) (gT : mg "_check_trees" = some (.ref ft)) :
    FnOk P w K mg base (L2N.CX P w) 4 f fd ["self", "kinds", "constructors"] (spIniT C CK CC CE) := by
  refine okXN F scIni (fun vs H Q E h => ?_) (fun cv A ou s H vs Q E hr h => ?_)
  · obtain ⟨x, dx, k, c, ks, rs, rfl, _⟩ := h
    rfl
  obtain ⟨x, dx, k, c, ks, pre, rfl, hx, hs, hc, hl, hb9, q, qK, qC, qE⟩ := h
  refine ⟨_, pss_cons (ps_expr (pe_call GK hr (by rfl) gK kk bK .nil (L2N.passes_call (L2N.takes_of rfl rfl rfl rfl) (fun _ _ _ _ h => h)) (pa_cons (pv 1) pa_nil)))
    (pss_cons (ps_expr (pe_call GC hr (by rfl) gC kc bC .nil (L2N.passes_call (L2N.takes_of rfl rfl rfl rfl) (fun _ _ _ _ h => h)) (pa_cons (pv 2) (pa_cons (pv 1) pa_nil))))
    (pss_cons (ps_expr (pe_call GT hr (by rfl) gT kt bT .nil (L2N.passes_call (L2N.takes_of rfl rfl rfl rfl) (fun _ _ _ _ h => h)) (pa_cons (pv 1) (pa_cons (pv 2) pa_nil))))
    (pss_cons (ps_fld (pv 0) (pv 1) rfl)
    (pss_cons (ps_fld (pv 0) (pv 2) rfl)
    (pss_cons (ps_fld (pv 0) (pe_tupF (by rfl) T.tup (pe_lc (own := [("constructor", 3)]) (g := gName 3) (tt := tYes) rfl scIni.nd (pi_tup (pv 2)) (blkOk_by (own := [("constructor", 3)]) (N := nIni) (sc := defScope (cS 0)) (by decide +kernel))
      (fun _ _ _ _ _ => pg_name (i := 3) scIni.nd rfl (Or.inl rfl)) (fun _ _ _ _ _ => pts_nil) (fun _ _ _ _ _ => asTE (te := tOp (rIxT K) (tVar 3) (tC (.int 0))) (pe_ix ix_tup (pv 3) pe_int (fun _ _ => rfl)) rfl))) rfl)
    (pss_one (ps_fld (pv 0) (pe_dc (own := [("place", 4), ("name", 5)]) (g := gTup K 2 (gCons (gName 4) (gCons (gName 5) gNil))) (tt := tYes) (tk := tVar 5) (tv := tVar 4) rfl scIni.nd (pi_enT (by rfl) T.enu (pa_cons (pe_fld (pv 0) rfl) pa_nil)) (blkOk_by (own := [("place", 4), ("name", 5)]) (N := nIni) (sc := defScope (cS 0)) (by decide +kernel))
      (fun _ _ _ _ _ => pg_tup (by rfl) (pgs_cons (pg_name (i := 4) scIni.nd rfl (Or.inl rfl)) (pgs_cons (pg_name (i := 5) scIni.nd rfl (Or.inl rfl)) pgs_nil))) (fun _ _ _ _ _ => pts_nil) (fun _ _ _ _ _ => pv 5) (fun _ _ _ _ _ => pv 4)) rfl))))))), ?_⟩
  refine ⟨.ref k, rfl, k, ks, rfl, hs, hl, fun gk H1 s1 => ?_, fun e d v H1 s1 e1 => qK e d v H1 s1 e1⟩
  refine ⟨.ref c, rfl, .ref k, rfl, c, k, ks, pre, rfl, s1 _ _ hs, hc.keep s1, hb9, fun gr H2 s2 => ?_, fun e d v H2 s2 e2 => qC gk e d v H2 (s1.trans s2) e2⟩
  have s12 := s1.trans s2
  refine ⟨.ref k, rfl, .ref c, rfl, k, c, ks, pre, rfl, s12 _ _ hs, hc.keep s12, gk.k4, gr.ok, fun ee H3 s3 => ?_, fun z ee d H3 s3 e3 => qE gk gr z ee d H3 (s12.trans s3) e3⟩
  have s13 := s12.trans s3
  refine ⟨.ref k, rfl, .ref x, rfl, x, C, dx, [], rfl, s13 _ _ hx, Z.cls, Z.nk, by decide, ?_⟩
  refine ⟨.ref c, rfl, .ref x, rfl, x, C, dx, _, rfl, upd_same, Z.cls, Z.nc, (show 1 < 1000 by decide), ?_⟩
  have hs' : H k = some (.tup (ks.map V.str)) := hs
  have kx : k ≠ x := fun e => by rw [e, hx] at hs'; cases hs'
  obtain ⟨xs, hc1, hp⟩ := hc
  have b5 : But x H (upd (upd H3 x (.ins C dx (putF "_kinds" (V.ref k) []))) x (.ins C dx (putF "_constructors" (V.ref c) (putF "_kinds" (V.ref k) [])))) := fun b o n e => by
    rw [upd_ne n, upd_ne n]
    exact s13 _ _ e
  have x5 : (upd (upd H3 x (.ins C dx (putF "_kinds" (V.ref k) []))) x (.ins C dx (putF "_constructors" (V.ref c) (putF "_kinds" (V.ref k) [])))) x = some (.ins C dx (putF "_constructors" (V.ref c) (putF "_kinds" (V.ref k) []))) := upd_same
  revert b5 x5
  generalize upd (upd H3 x (.ins C dx (putF "_kinds" (V.ref k) []))) x (.ins C dx (putF "_constructors" (V.ref c) (putF "_kinds" (V.ref k) []))) = H5
  intro b5 x5
  have hc5 : TupA H5 c xs := hc1.by fun o _ n e => b5 _ _ (fun z => by rw [z, hx] at e; cases e; exact n _ _ _ rfl) e
  have r6 := gr.r6
  have ln : xs.length = pre.length := Paired.length hp
  refine ⟨.ref c, rfl, c, rfl, ⟨_, hc5.sq⟩, fun D nD => lc_funT (K := K) (a := c) (xs := xs) (ys := (pre.map (·.1)).map V.str) (fun _ => rfl) nD hc5.sq (by omega) (by rw [List.length_map, List.length_map, ln]) (fun n y z H6 hy hz s6 p => ?_) fun H6 s6 eD => ?_⟩
  · intro kk
    obtain ⟨r, hr2, b, fa, rfl, hb, hf⟩ := rows_at hp hy
    rw [List.getElem?_map, List.getElem?_map, hr2] at hz
    cases hz
    have bx : b ≠ x := fun e => by rw [e, hx] at hb; cases hb
    exact ⟨.ref b, rfl, b, _, _, .str r.1, rfl, rfl, SqT.of (s6 _ _ (b5 _ _ bx hb)), rfl, kk H6 fun _ _ e => e⟩
  · refine ⟨D, _, rfl, SqL.of eD, fun N H7 nN s7 fz => ?_⟩
    have x6 := s6 _ _ x5
    have Nx : N ≠ x := fun e => by rw [← e, nN] at x6; cases x6
    refine ⟨.ref x, rfl, x, C, dx, _, rfl, s7 _ _ x6, Z.cls, Z.nn, (show 2 < 1000 by decide), ?_⟩
    have fz8 : FzT (upd H7 x (.ins C dx (putF "_names" (V.ref N) (putF "_constructors" (V.ref c) (putF "_kinds" (V.ref k) []))))) N ((pre.map (·.1)).map V.str) := by
      obtain ⟨o, e, r⟩ := fz
      exact ⟨o, by rw [upd_ne Nx]; exact e, r⟩
    have b8 : But x H (upd H7 x (.ins C dx (putF "_names" (V.ref N) (putF "_constructors" (V.ref c) (putF "_kinds" (V.ref k) []))))) := fun b o n e => by
      rw [upd_ne n]
      exact s7 _ _ (s6 _ _ (b5 _ _ n e))
    have x8 : (upd H7 x (.ins C dx (putF "_names" (V.ref N) (putF "_constructors" (V.ref c) (putF "_kinds" (V.ref k) []))))) x = some (.ins C dx (putF "_names" (V.ref N) (putF "_constructors" (V.ref c) (putF "_kinds" (V.ref k) [])))) := upd_same
    revert fz8 b8 x8
    generalize upd H7 x (.ins C dx (putF "_names" (V.ref N) (putF "_constructors" (V.ref c) (putF "_kinds" (V.ref k) [])))) = H8
    intro fz8 b8 x8
    have prd := gr.rd
    refine ⟨.ref x, rfl, x, C, dx, _, _, rfl, x8, Z.cls, Z.nn, rfl, N, _, rfl, fz8.sq, fun Dd nDd => dc_places fz8 nDd prd (by rw [List.length_map]; omega) (fun _ _ => rfl) (fun _ _ => rfl) (fun _ _ => rfl) fun H9 s9 eDd => ?_⟩
    have x9 := s9 _ _ x8
    have Dx : Dd ≠ x := fun e => by rw [← e, nDd] at x8; cases x8
    refine ⟨.ref x, rfl, x, C, dx, _, rfl, x9, Z.cls, Z.np, (show 3 < 1000 by decide), ?_⟩
    refine q gk gr ee N _ (fun b o n e => ?_) Nx ⟨Dd, upd_same, ?_⟩ ?_
    · rw [upd_ne n]
      exact s9 _ _ (b8 _ _ n e)
    · rw [upd_ne Dx]
      exact eDd
    · obtain ⟨o, e, r⟩ := fz8
      exact ⟨o, by rw [upd_ne Nx]; exact s9 _ _ e, r⟩
end
end Ks
set_option Elab.async false
set_option linter.all false
set_option maxRecDepth 100000
set_option maxHeartbeats 4000000
/-! try: body, except (A, B): a suite that may raise; the body's exceptions have no context -/
namespace Gd
open PySem PySem.Spec PyProof.Rows L2
/-- what such a clause wishes of an exception of the body -/
def wTwo (K : PySem.W.Frag) (c1 c2 : Value) (ts : Addr → Value → Option Addr → TS) (Wout : WX) (D : Ends) : WX := fun cls d σ H =>
  ∃ b, PySem.W.exmAny K cls [c1, c2] = some b ∧ (b = true → ∀ a, H a = none → ts a cls d D σ H) ∧ (b = false → Wout cls d σ H)
section
variable {X : Cx} {x1 x2 : Str} {c1 c2 : Value} {k : Nat} {body suite : List Stmt} {b₀ : Stmt} {p1 p2 tp pos hpos : Pos} {tb : WX → TS} {ts : Addr → Value → Option Addr → TS} {Wout : WX}
theorem ps_try2X (hs : X.stack = X.env :: X.outer) (hf : X.env.frame = some X.env.locals)
    (g1 : Gl X x1) (m1 : X.mg x1 = some c1) (g2 : Gl X x2) (m2 : X.mg x2 = some c2) (hpa : ∀ hd : Option Value, PassesOwnAt (model X.prog X.w) (X.A.mark hd) X.A X.env X.xe) (tk : L2.Takes X Wout)
    (hb : ∀ (W : WX) (pn : List (Addr × Obj)) (xe : Value → Shared → Prop), L2N.Takes (X.tr pn xe) W → PassesOwn (model X.prog X.w) X.A X.env xe → PSs (X.tr pn xe) body (tb W))
    (hsu : ∀ (a : Addr) (oe : Obj) (cls : Value) (d : Option Addr) (pn : List (Addr × Obj)), L2N.Zn cls d oe → (∃ vs, oe.data = .fields vs) → L2.Takes (L2H.suiteX X a ((a, oe) :: pn)) Wout → L2H.HotC (L2H.suiteX X a ((a, oe) :: pn)) →
      PSs (L2H.suiteX X a ((a, oe) :: pn)) (b₀ :: suite) (ts a cls d))
    (d1 : (x1 == ("__debug__" : Str)) = false := by decide) (d2 : (x2 == ("__debug__" : Str)) = false := by decide) :
    PS X (.Try body [.ExceptHandler (some (.Tuple [.Name x1 p1, .Name x2 p2] k tp)) none (b₀ :: suite) hpos] [] [] pos) (fun D σ H => tb (wTwo X.K c1 c2 ts Wout D) D σ H) := by
  constructor
  intro pins s σ H D I0 h0
  have okX := I0.ok
  have frX : X.A.frames = some (X.env :: X.outer) := by rw [okX.frames, hs]
  refine wpAny_Try_except ?_
  refine wpAny_mono ((hb (wTwo X.K c1 c2 ts Wout D) (X.pn ++ pins) (fun e t1 => wpAny (model X.prog X.w) X.A (noteFrame e X.env) (fun _ t2 => wpAny (model X.prog X.w) X.A (setFlight e none) (fun _ t3 =>
    wpAny (model X.prog X.w) X.A (handleBy e X.env [.ExceptHandler (some (.Tuple [.Name x1 p1, .Name x2 p2] k tp)) none (b₀ :: suite) hpos]) (SP X pins D) X.xe t3) X.xe t2) X.xe t1) (fun u z xx => ?_) PassesOwn.looking).run [] s σ H D (I0.toTry _) h0) (fun f s1 hsp => ?_) (fun e s1 he => he)
  · obtain ⟨a, B, y, pins2, τ, G, cls, d, rfl, J0, nb, up, sky, na, os, ag, b, hb1, hyes, hno⟩ := xx
    have J : Inv X pins τ G y := J0.ofTry okX
    have sky2 : Sky B (X.env :: X.outer) a (L2N.Zn cls d) X.env.locals z.heap := by rw [← hs]; exact sky
    show wpAny (model X.prog X.w) X.A (noteFrame (.ref a) X.env) _ _ _
    refine L2N.Sky.land L2N.Zn.steady frX hf sky2 fun h3 fl3 up3 => ?_
    -- the two classes make a tuple
    have kp : ∀ b o, h3.get? b = some o → (h3.push { cls := .type "tuple", data := .seq [c1, c2].toArray }).get? b = some o := fun b o e => Heap.get?_push_of_some _ e
    have fl4 := fly_more kp fl3
    have up4 : y.heap.UpToSlots (h3.push { cls := .type "tuple", data := .seq [c1, c2].toArray }) := (up.trans up3).trans (Heap.UpToSlots.of_keeps kp)
    have J3 : Inv X pins τ G { z with heap := h3 } := J.landed nb fl3.1 (up.trans up3) os ag
    have J4 : Inv X pins τ G { z with heap := h3.push { cls := .type "tuple", data := .seq [c1, c2].toArray } } := J.landed nb fl4.1 up4 os ag
    obtain ⟨oe3, vs3, he3, hz3, hd3⟩ := fl3.there
    have off : ∀ {g : Heap} {o : Obj} {vs : Array Value}, g.FunFrames B (X.env :: X.outer) → g.get? a = some o → o.data = .fields vs → a ∉ frs (X.env :: X.outer) := by
      intro g o vs ff e dd hm
      obtain ⟨_, o2, e2, hnf⟩ := ff.mem hm
      rw [e] at e2
      cases e2
      exact hnf _ dd
    have nfr := off fl3.2.2.1 he3 hd3
    have nL : a ≠ X.env.locals := fun q => nfr (List.mem_filterMap.mpr ⟨X.env, List.mem_cons_self, by rw [hf, q]⟩)
    have nF : a ∉ X.fs := fun hm => by
      obtain ⟨e, he, q⟩ := List.mem_filterMap.mp hm
      exact nfr (List.mem_filterMap.mpr ⟨e, List.mem_cons_of_mem _ he, q⟩)
    have S3 := J3.suite he3 hd3 na nL nF
    refine wpAny_handleBy_cons (codeAny_handlers_test ?_) (by intro q; cases q)
    have he4 := kp _ _ he3
    have LT : PySem.W.Looks (model X.prog X.w) (h3.push { cls := .type "tuple", data := .seq [c1, c2].toArray }) (typeOf (.ref a)) cls := fun A Q E t kk q => wpAny_typeOf_ref (kk _ _ he4) (by rw [hz3.1]; exact q)
    have LM := PySem.W.exm_tup2 (M := model X.prog X.w) J4.kIn LT (tp := h3.objs.size) (Heap.get?_push_size _ rfl) hb1
    have evalT : ∀ {Q : Value → Shared → Prop} {E : Value → Shared → Prop}, Q (.ref h3.objs.size) { z with heap := h3.push { cls := .type "tuple", data := .seq [c1, c2].toArray } } →
        wpAny (model X.prog X.w) (X.A.mark (some (.ref a))) (eval (.Tuple [.Name x1 p1, .Name x2 p2] k tp) X.env) Q E { z with heap := h3 } := by
      intro Q E q
      refine wpAny_Tuple_spliced ?_
      refine Calls.spliced_cons (ld_glob (X := X.suite a ((a, oe3) :: (X.pn ++ pins))) S3 g1 m1 ?_ d1)
      refine Calls.spliced_cons (ld_glob (X := X.suite a ((a, oe3) :: (X.pn ++ pins))) S3 g2 m2 ?_ d2)
      exact Calls.spliced_nil ⟨by rw [sizeLine_eq]; exact (by decide : 2 ≤ 16777216), q⟩
    refine evalT (LM.here ?_)
    cases b with
    | true =>
      refine codeAny_handlers_suite ?_
      refine HandSPX.lands_againZ fl4 fun h5 fl5 up5 => ?_
      have J5 : Inv X pins τ G { z with heap := h5 } := J.landed nb fl5.1 (up4.trans up5) os ag
      obtain ⟨oe5, vs5, he5, hz5, hd5⟩ := fl5.there
      have S5 := J5.suite he5 hd5 na nL nF
      have tkS : L2.Takes (L2H.suiteX X a ((a, oe5) :: (X.pn ++ pins))) Wout := by
        rintro u2 t2 ⟨a2, B2, y2, pn2, τ2, G2, cls2, e2, eu, I2, rest⟩
        exact tk u2 t2 ⟨a2, B2, y2, pins, τ2, G2, cls2, e2, eu, L2H.unsuiteX I2 okX, rest⟩
      refine wpAny_mono ((hsu a oe5 cls d (X.pn ++ pins) hz5 ⟨_, hd5⟩ tkS ⟨(a, oe5), ⟨rfl, vs5, hd5, hz5.2.2 vs5 hd5⟩, List.mem_cons_self⟩).run [] _ τ G D (L2H.suiteX_of S5) (hyes rfl a na)) (fun f s7 hsp => ?_) (fun e6 s6 q => hpa (some (.ref a)) e6 s6 q)
      cases f with
      | ret u =>
        obtain ⟨v7, τ7, G7, S7, r7, q7⟩ := hsp
        exact ⟨_, _, _, L2H.unsuiteX S7 okX, r7, q7⟩
      | next =>
        obtain ⟨τ7, G7, S7, q7⟩ := hsp
        exact ⟨_, _, L2H.unsuiteX S7 okX, q7⟩
      | brk =>
        obtain ⟨τ7, G7, S7, q7⟩ := hsp
        exact ⟨_, _, L2H.unsuiteX S7 okX, q7⟩
      | cont =>
        obtain ⟨τ7, G7, S7, q7⟩ := hsp
        exact ⟨_, _, L2H.unsuiteX S7 okX, q7⟩
    | false =>
      show wpAny _ X.A (handleBy (.ref a) X.env []) _ _ _
      refine wpAny_handleBy_nil ?_
      have fl4c := L2H.flyingZ_imp (fun o z => z.zc) fl4
      obtain ⟨_, _, _, oe, vs, T, oT, ts2, hea, hza, hda, hv1, _⟩ := id fl4
      unfold PySem.passOn
      refine wpAny_bind (wpAny_field hea hda hv1 ?_)
      rw [if_neg (show ¬ ((Value.ref T == Value.none) = true) from by simp)]
      have on : wpAny (model X.prog X.w) X.A (setFlight (.ref a) X.env.frame) (fun _ s8 => wpAny (model X.prog X.w) X.A (throw (.ref a) : Sem Flow) (SP X pins D) X.xe s8) X.xe { z with heap := h3.push { cls := .type "tuple", data := .seq [c1, c2].toArray } } := by
        rw [hf]
        refine HandSPX.setFlight_upZ fl4c fun h5 hh5 up5 => wpAny_throw (tk _ _ ?_)
        exact ⟨a, B, y, pins, τ, G, cls, d, rfl, J, nb, up4.trans up5, .inr (.inr (by rw [hs]; exact hh5)), na, os, ag, hno rfl⟩
      first
        | exact wpAny_bind (wpAny_pure (wpAny_bind on))
        | exact wpAny_bind on
  · cases f with
    | ret u =>
      obtain ⟨v, τ, G, J0, r, q⟩ := hsp
      exact ⟨v, τ, G, J0.ofTry okX, r, q⟩
    | next =>
      obtain ⟨τ, G, J0, q⟩ := hsp
      exact wpAny_execs_nil ⟨τ, G, J0.ofTry okX, q⟩
    | brk =>
      obtain ⟨τ, G, J0, q⟩ := hsp
      exact ⟨τ, G, J0.ofTry okX, q⟩
    | cont =>
      obtain ⟨τ, G, J0, q⟩ := hsp
      exact ⟨τ, G, J0.ofTry okX, q⟩
end
end Gd
set_option Elab.async false
set_option linter.all false
set_option maxRecDepth 100000
set_option maxHeartbeats 4000000
namespace Ks
open PySem PySem.Spec PyProof.Rows L2 Gd Kx
/-! ### a text cut at a text -/
theorem spl_ne (S : List Nat) : ∀ (l : List Nat) (k : Nat) (acc : List Nat), TL.spl S k acc l ≠ []
  | [], k, acc => by rw [TL.spl_nil]; simp
  | c :: r, 0, acc => by
    cases h : TL.pre S (c :: r) with
    | true => rw [TL.spl_hit h]; simp
    | false => rw [TL.spl_miss h]; exact spl_ne S r 0 _
  | _ :: r, k + 1, acc => by
    show TL.spl S k acc r ≠ []
    exact spl_ne S r k acc
theorem spl_len (S : List Nat) : ∀ (l : List Nat) (k : Nat) (acc : List Nat), ∀ p ∈ TL.spl S k acc l, p.length ≤ acc.length + l.length
  | [], k, acc, p, h => by
    rw [TL.spl_nil] at h
    rw [List.mem_singleton.mp h]
    exact Nat.le_add_right _ _
  | c :: r, 0, acc, p, h => by
    cases hp : TL.pre S (c :: r) with
    | true =>
      rw [TL.spl_hit hp] at h
      rcases List.mem_cons.mp h with rfl | h
      · exact Nat.le_add_right _ _
      · have := spl_len S r _ [] p h
        rw [List.length_nil] at this
        rw [List.length_cons]
        omega
    | false =>
      rw [TL.spl_miss hp] at h
      have := spl_len S r 0 _ p h
      rw [List.length_append, List.length_singleton] at this
      rw [List.length_cons]
      omega
  | c :: r, k + 1, acc, p, h => by
    have := spl_len S r k acc p h
    rw [List.length_cons]
    omega
def cutS (z y : Str) : List Str := Txt.split z y
theorem cut_ne {z y : Str} (hy : TL.tl y ≠ []) (hk : y.cps.all (· < 256) = true) : cutS z y ≠ [] := fun e => by
  have h := TL.split_spl z y hy (TL.kind_ok hk)
  have e' : Txt.split z y = [] := e
  rw [e'] at h
  exact spl_ne _ _ _ _ h.symm
theorem cut_len {z y p : Str} (hy : TL.tl y ≠ []) (hk : y.cps.all (· < 256) = true) (h : p ∈ cutS z y) : p.length ≤ z.length := by
  have e := TL.split_spl z y hy (TL.kind_ok hk)
  have h1 : TL.tl p ∈ TL.spl (TL.tl y) 0 [] (TL.tl z) := by
    rw [← e]
    exact List.mem_map.mpr ⟨p, h, rfl⟩
  have := spl_len _ _ _ _ _ h1
  rw [List.length_nil] at this
  have l1 : (TL.tl p).length = p.length := rfl
  have l2 : (TL.tl z).length = z.length := rfl
  omega
end Ks
/-! names: k02 _law_words -/
set_option Elab.async false
set_option linter.all false
set_option maxRecDepth 100000
set_option maxHeartbeats 4000000
namespace Ks
open PySem PySem.Spec PyProof.Rows L2 Gd Kx
abbrev sWds : Stmt := Kx.topS 31
abbrev sMdl : Stmt := Kx.topS 32
theorem scWds : FnScope ["_law_deal_here", "_law_many", "_law_found", "_law_k"] ["_law_deal_here", "_law_many"] (defScope sWds) := ⟨rfl, rfl, rfl, by decide +kernel, rfl, by decide +kernel, by decide +kernel⟩
section
variable {P : Program} {w : World} {K : PySem.W.Frag} {mg : Str → Option Value} {base : Heap}
def spWds : Sp := fun vs H Q _ => ∃ (p : Addr) (n : Nat), vs = [.ref p, .int (n : Nat)] ∧ DealAt H p ∧ n ≤ 40 ∧
  ∀ (q : Addr) (ts : List Str) (H' : Hp), DealAt H' p → Sb p H H' → H q = none → q ≠ p → H' q = some (.lst (ts.map V.str)) → (∀ z ∈ ts, nmS z = true) → ts.Nodup → ts.length = n → Q (.ref q) H'
theorem ok_wds {f fw : Addr} {fd fdw : FuncData} (F : Fun K "_law_words" "_law_words" sWds f fd) (mr : mg "range" = none)
    (GW : FnOk P w K mg base CX0 2 fw fdw ["_law_deal_here", "_law_taken"] spWord) (kw : PySem.W.keepIn K (.ref fw) = true) (bW : Binds K fdw ["_law_deal_here", "_law_taken"] []) (gW : mg "_law_word" = some (.ref fw)) : FnOk P w K mg base CX0 3 f fd ["_law_deal_here", "_law_many"] spWds := by
  refine F.ok scWds (fun vs H Q E h => ?_) (fun cv A ou s H vs Q E hr h => ?_)
  · obtain ⟨p, n, rfl, _⟩ := h
    rfl
  obtain ⟨p, n, rfl, hD, hn, k⟩ := h
  refine ⟨_, pss_cons (ps_set (i := 2) scWds.nd rfl (.inl rfl) (pe_lst pa_nil))
    (pss_cons (ps_for PassesOwn.never rfl (pi_range1 rfl mr (pa_cons (pv 1) pa_nil)) (pg_name (i := 3) scWds.nd rfl (.inl rfl))
      (pss_one (ps_expr (pe_bm PySem.F.plainAttrs_list PySem.F.slot_list_append PySem.F.type_list_append mt_append (pv 2) (pa_cons (pe_call GW hr (by rfl) gW kw bW .nil pass0 (pa_cons (pv 0) (pa_cons (pv 2) pa_nil))) pa_nil)))))
    (pss_one (ps_ret (pv 2)))), ?_⟩
  refine ⟨(by show 0 ≤ sizeLine; exact Nat.zero_le _), fun L nL => ?_⟩
  have Lp : L ≠ p := by
    obtain ⟨_, _, _, e, _⟩ := hD
    exact fun e2 => by rw [e2, e] at nL; cases nL
  refine ⟨_, rfl, _, rfl, ?_, ?_, for_range (n := n) (fun i σ H' => ∃ (o3 : Option V) (ts : List Str), σ = [some (.ref p), some (.int (n : Nat)), some (.ref L), o3] ∧ DealAt H' p ∧ Sb p H H' ∧ H' L = some (.lst (ts.map V.str)) ∧ (∀ z ∈ ts, nmS z = true) ∧ ts.Nodup ∧ ts.length = i)
    ⟨none, [], rfl, hD.keep (same_new nL), Sb.new nL, upd_same, fun z hz => (by cases hz), .nil, rfl⟩ ?_ ?_⟩
  · omega
  · omega
  · rintro i σ H1 hi ⟨o3, ts, rfl, D1, b1, eL, hz, nd, hl⟩
    refine ⟨.ref L, rfl, .inl ⟨rfl, _, SqL.of eL⟩, .ref p, rfl, .ref L, rfl, p, L, ts, rfl, D1, eL, Lp, by omega, fun z H2 nz ni D2 b2 => ?_⟩
    have eL2 := b2 L _ Lp eL
    refine ⟨L, _, _, rfl, rfl, eL2, ?_, some (.int (0 + (i : Int))), ts ++ [z], rfl, ?_, ?_, ?_, ?_, ?_, ?_⟩
    · rw [List.length_map]
      exact small1000 (by omega)
    · obtain ⟨x, y, c, e, l⟩ := D2
      exact ⟨x, y, c, by rw [upd_ne (fun e2 => Lp e2.symm)]; exact e, l⟩
    · intro b o nb e
      rw [upd_ne (ne_of_none e nL)]
      exact b2 b o nb (b1 b o nb e)
    · rw [upd_same, List.map_append]
      rfl
    · intro x hx
      rcases List.mem_append.mp hx with m | m
      · exact hz x m
      · rw [List.mem_singleton.mp m]
        exact nz
    · rw [List.nodup_append]
      exact ⟨nd, List.nodup_cons.mpr ⟨by simp, .nil⟩, fun x hx y hy e => ni (by rw [List.mem_singleton.mp hy] at e; rw [← e]; exact hx)⟩
    · rw [List.length_append, hl]
      rfl
  · rintro σ H1 ⟨o3, ts, rfl, D1, b1, eL, hz, nd, hl⟩
    exact ⟨.ref L, rfl, k L ts H1 D1 b1 nL Lp eL hz nd hl⟩
end
end Ks
/-! names: k02 _law_model -/
set_option Elab.async false
set_option linter.all false
set_option maxRecDepth 100000
set_option maxHeartbeats 4000000
namespace Ks
open PySem PySem.Spec PyProof.Rows L2 Gd Kx
theorem scMdl : FnScope ["_law_deal_here", "_law_many", "_law_words_here", "_law_kinds", "_law_k", "_law_rows", "_law_size", "_law_fields", "_law_at", "_law_turn"] ["_law_deal_here"] (defScope sMdl) := ⟨rfl, rfl, rfl, by decide +kernel, rfl, by decide +kernel, by decide +kernel⟩
/-- what a changed deal leaves -/
theorem deal_ne {H : Hp} {p b : Addr} {xs : List V} (D : DealAt H p) (e : H b = some (.tup xs)) : b ≠ p := by
  obtain ⟨_, _, _, ep, _⟩ := D
  exact fun z => by rw [z, ep] at e; cases e
theorem RowV.sb {H H' : Hp} {p : Addr} {x : V} {r : Rw} (h : RowV H x r) (D : DealAt H p) (s : Sb p H H') : RowV H' x r := by
  obtain ⟨b, f, e, h1, h2⟩ := h
  have h2' : H f = some (.tup (r.2.2.map V.str)) := h2
  exact ⟨b, f, e, s _ _ (deal_ne D h1) h1, s _ _ (deal_ne D h2') h2'⟩
theorem RowV.but {H H' : Hp} {R : Addr} {x : V} {r : Rw} {ys : List V} (h : RowV H x r) (e : H R = some (.lst ys)) (s : Sb R H H') : RowV H' x r := by
  obtain ⟨b, f, ex, h1, h2⟩ := h
  have h2' : H f = some (.tup (r.2.2.map V.str)) := h2
  exact ⟨b, f, ex, s _ _ (fun z => by rw [z, e] at h1; cases h1) h1, s _ _ (fun z => by rw [z, e] at h2'; cases h2') h2'⟩
theorem cut_drop {xs : List V} {i : Nat} (h : i ≤ xs.length) : cutV xs (some (i : Int)) none = xs.drop i := by
  unfold cutV
  rw [HT.sIx_none, HT.sIx_nat, Nat.min_eq_left h, List.take_of_length_le (by rw [List.length_drop]; omega)]
theorem turned {α : Type} (l : List α) (d : Nat) : (l.drop d ++ l.take d).Perm l := by
  have h := List.perm_append_comm (l₁ := l.drop d) (l₂ := l.take d)
  rw [List.take_append_drop] at h
  exact h
theorem paired_app {H : Hp} : ∀ {xs ys : List V} {rs ss : List Rw}, Paired (RowV H) xs rs → Paired (RowV H) ys ss → Paired (RowV H) (xs ++ ys) (rs ++ ss)
  | _, _, _, _, .nil, h => h
  | _, _, _, _, .cons a t, h => .cons a (paired_app t h)
theorem paired_drop {H : Hp} : ∀ (n : Nat) {xs : List V} {rs : List Rw}, Paired (RowV H) xs rs → Paired (RowV H) (xs.drop n) (rs.drop n)
  | 0, _, _, h => h
  | n + 1, _, _, .nil => .nil
  | n + 1, _, _, .cons a t => paired_drop n t
theorem paired_take {H : Hp} : ∀ (n : Nat) {xs : List V} {rs : List Rw}, Paired (RowV H) xs rs → Paired (RowV H) (xs.take n) (rs.take n)
  | 0, _, _, h => .nil
  | n + 1, _, _, .nil => .nil
  | n + 1, _, _, .cons a t => .cons a (paired_take n t)
/-- a model at a -/
def MdAt (H : Hp) (a : Addr) (m : Md) : Prop := ∃ k r : Addr, H a = some (.tup [.ref k, .ref r]) ∧ StT H k m.ks ∧ RowsT H r m.rs
theorem MdAt.keep {H H' : Hp} {a : Addr} {m : Md} (h : MdAt H a m) (s : Same H H') : MdAt H' a m := by
  obtain ⟨k, r, e, h1, h2⟩ := h
  exact ⟨k, r, s _ _ e, s _ _ h1, h2.keep s⟩
/-- the rows so far, named from the fourth word on -/
structure RInv (ks ts : List Str) (rs : List Rw) : Prop where
  ok : ∀ r ∈ rs, RwOk ks r
  nm : rs.map (·.1) = (ts.drop 3).take rs.length
theorem paired_snoc {H : Hp} : ∀ {xs : List V} {rs : List Rw} {x : V} {r : Rw}, Paired (RowV H) xs rs → RowV H x r → Paired (RowV H) (xs ++ [x]) (rs ++ [r])
  | _, _, _, _, .nil, h => .cons h .nil
  | _, _, _, _, .cons a t, h => .cons a (paired_snoc t h)
theorem RInv.snoc {ks ts : List Str} {rs : List Rw} {r : Rw} (h : RInv ks ts rs) (g : RwOk ks r) (e : (ts.drop 3)[rs.length]? = some r.1) : RInv ks ts (rs ++ [r]) := by
  refine ⟨fun x hx => ?_, ?_⟩
  · rcases List.mem_append.mp hx with m | m
    · exact h.ok x m
    · rw [List.mem_singleton.mp m]
      exact g
  · rw [List.map_append, h.nm, List.length_append, List.length_singleton, List.take_add_one, e]
    rfl
section
variable {P : Program} {w : World} {K : PySem.W.Frag} {mg : Str → Option Value} {base : Heap}
def spMdl : Sp := fun vs H Q _ => ∃ p : Addr, vs = [.ref p] ∧ DealAt H p ∧ ∀ (a : Addr) (m : Md) (H' : Hp), DealAt H' p → Sb p H H' → Good m → MdAt H' a m → Q (.ref a) H'
/-- its rows are a tuple that is known -/
def KnM (H : Hp) (a : Addr) : Prop := ∃ (k r : Addr) (xs : List V), H a = some (.tup [.ref k, .ref r]) ∧ FzT H r xs
def spMdlF : Sp := fun vs H Q _ => ∃ p : Addr, vs = [.ref p] ∧ DealAt H p ∧ ∀ (a : Addr) (m : Md) (H' : Hp), DealAt H' p → Sb p H H' → Good m → MdAt H' a m → KnM H' a → Q (.ref a) H'
theorem ok_mdlF {f fp fw : Addr} {fd fdp fdw : FuncData} (F : Fun K "_law_model" "_law_model" sMdl f fd) (mr : mg "range" = none) (mt : mg "tuple" = none) (ml : mg "len" = none)
    (GP : FnOk P w K mg base CX0 1 fp fdp ["_law_deal_here", "_law_many"] spPick) (kp : PySem.W.keepIn K (.ref fp) = true) (bP : Binds K fdp ["_law_deal_here", "_law_many"] []) (gP : mg "_law_pick" = some (.ref fp))
    (GW : FnOk P w K mg base CX0 3 fw fdw ["_law_deal_here", "_law_many"] spWds) (kw : PySem.W.keepIn K (.ref fw) = true) (bW : Binds K fdw ["_law_deal_here", "_law_many"] []) (gW : mg "_law_words" = some (.ref fw)) :
    FnOk P w K mg base CX0 4 f fd ["_law_deal_here"] spMdlF := by
  refine F.ok scMdl (fun vs H Q E h => ?_) (fun cv A ou s H vs Q E hr h => ?_)
  · obtain ⟨p, rfl, _⟩ := h
    rfl
  obtain ⟨p, rfl, hD, k⟩ := h
  have hr1 : Room 1 (A.deeper (envOfC "_law_model" (defScope sMdl) s.heap.objs.size f cv)) := hr.mono (by decide)
  refine ⟨_, pss_cons (ps_asg (pe_tup (pa_cons (pe_op op_add pe_int (pe_call GP hr1 (by rfl) gP kp bP .nil pass0 (pa_cons (pv 0) (pa_cons pe_int pa_nil))))
      (pa_cons (pe_call GW hr (by rfl) gW kw bW .nil pass0 (pa_cons (pv 0) (pa_cons pe_int pa_nil))) pa_nil))) (pg_tup (by rfl) (pgs_cons (pg_name (i := 1) scMdl.nd rfl (.inr rfl)) (pgs_cons (pg_name (i := 2) scMdl.nd rfl (.inr rfl)) pgs_nil))))
    (pss_cons (ps_set (i := 3) scMdl.nd rfl (.inr rfl) (pe_tupleOf (by rfl) mt (pe_slice sl_list (pv 2) po_none (po_some (pv 1)))))
    (pss_cons (ps_setLc (i := 5) (own := [("_law_k", 4)]) (g := gName 4) (tt := tYes) (by rfl) scMdl.nd rfl rfl (sw_true rfl rfl rfl (by decide +kernel)) (pi_range1 rfl mr (pa_cons (pv 1) pa_nil))
        (blkOk_by (own := [("_law_k", 4)]) (N := ["_law_deal_here", "_law_many", "_law_words_here", "_law_kinds", "_law_k", "_law_rows", "_law_size", "_law_fields", "_law_at", "_law_turn"]) (sc := defScope sMdl) (by decide +kernel))
        (fun _ _ _ _ _ => pg_name (i := 4) scMdl.nd rfl (Or.inl rfl)) (fun _ _ _ _ _ => pts_nil)
        (fun _ _ _ _ _ => asTE (te := tTup (tCons (tOp (rIxL K) (tVar 2) (tOp (rI0 fun i j => .int (i + j)) (tC (.int 3)) (tVar 4))) (tCons (tOp (rIxT K) (tVar 3) (tVar 4)) (tCons (tTup tNil) tNil)))) (pe_tup (pa_cons (pe_ix ix_list (pv 2) (pe_op op_add pe_int (pv 4)) (fun _ _ => rfl)) (pa_cons (pe_ix ix_tup (pv 3) (pv 4) (fun _ _ => rfl)) (pa_cons (pe_tup pa_nil) pa_nil)))) rfl))
    (pss_cons (ps_for PassesOwn.never rfl (pi_range1 rfl mr (pa_cons (pe_op op_add pe_int (pe_call GP hr1 (by rfl) gP kp bP .nil pass0 (pa_cons (pv 0) (pa_cons pe_int pa_nil)))) pa_nil)) (pg_name (i := 4) scMdl.nd rfl (.inl rfl))
      (pss_cons (ps_set (i := 6) scMdl.nd rfl (.inl rfl) (pe_ix ix_list (pe_lst (pa_cons pe_int (pa_cons pe_int (pa_cons pe_int (pa_cons pe_int pa_nil))))) (pe_call GP hr1 (by rfl) gP kp bP .nil pass0 (pa_cons (pv 0) (pa_cons pe_int pa_nil))) (fun _ _ => rfl)))
      (pss_cons (ps_set (i := 7) scMdl.nd rfl (.inl rfl) (pe_tupleOf (by rfl) mt (pe_lc (own := [("_law_turn", 9)]) (g := gName 9) (tt := tYes) rfl scMdl.nd (pi_range1 rfl mr (pa_cons (pv 6) pa_nil)) (blkOk_by (own := [("_law_turn", 9)]) (N := ["_law_deal_here", "_law_many", "_law_words_here", "_law_kinds", "_law_k", "_law_rows", "_law_size", "_law_fields", "_law_at", "_law_turn"]) (sc := defScope sMdl) (by decide +kernel))
          (fun _ _ _ _ _ => pg_name (i := 9) scMdl.nd rfl (Or.inl rfl)) (fun _ _ _ _ _ => pts_nil) (fun _ _ _ _ _ => asTE (te := tOp (rIxT K) (tVar 3) (tCall spPick [] E0 (tCons (tVar 0) (tCons (tVar 1) tNil)))) (pe_ix ix_tup (pv 3) (pe_call GP hr1 (by rfl) gP kp bP .nil pass0 (pa_cons (pv 0) (pa_cons (pv 1) pa_nil))) (fun _ _ => rfl)) rfl))))
      (pss_one (ps_expr (pe_bm PySem.F.plainAttrs_list PySem.F.slot_list_append PySem.F.type_list_append mt_append (pv 5) (pa_cons (pe_tup (pa_cons (pe_ix ix_list (pv 2) (pe_op op_add (pe_op op_add pe_int (pv 1)) (pv 4)) (fun _ _ => rfl)) (pa_cons (pe_ix ix_tup (pv 3) (pe_call GP hr1 (by rfl) gP kp bP .nil pass0 (pa_cons (pv 0) (pa_cons (pv 1) pa_nil))) (fun _ _ => rfl)) (pa_cons (pv 7) pa_nil)))) pa_nil)))))))
    (pss_cons (ps_set (i := 8) scMdl.nd rfl (.inl rfl) (pe_call GP hr1 (by rfl) gP kp bP .nil pass0 (pa_cons (pv 0) (pa_cons (pe_callB call_len_seq (by rfl) ml PySem.boot_len (pa_cons (pv 5) pa_nil)) pa_nil))))
    (pss_one (ps_ret (pe_tup (pa_cons (pv 3) (pa_cons (pe_tupF (by rfl) mt (pe_op op_cat (pe_slice sl_list (pv 5) (po_some (pv 8)) po_none) (pe_slice sl_list (pv 5) po_none (po_some (pv 8))))) pa_nil))))))))), ?_⟩
  refine seq_join (fun σ G => ∃ (n : Nat) (q : Addr) (ts : List Str), 1 ≤ n ∧ n ≤ 3 ∧ σ = [some (.ref p), some (.int (n : Nat)), some (.ref q), none, none, none, none, none, none, none] ∧ DealAt G p ∧ Sb p H G ∧ q ≠ p ∧ G q = some (.lst (ts.map V.str)) ∧ (∀ z ∈ ts, nmS z = true) ∧ ts.Nodup ∧ ts.length = 9) ?_ fun rest => ?_
  rotate_left
  · refine ⟨.ref p, rfl, p, 3, rfl, hD, by decide, by decide, fun d1 H1 l1 u1 D1 b1 => ⟨_, _, rfl, rfl, .ref p, rfl, p, 9, rfl, D1, by decide, fun q ts H2 D2 b2 nq qp eq hz nd hl => ⟨(by show 2 ≤ sizeLine; decide), fun T nT => ?_⟩⟩⟩
    refine ⟨T, _, rfl, SqT.of upd_same, rfl, _, _, rfl, _, _, rfl, rfl, ?_⟩
    have sT : Same H2 (upd H2 T (.tup [.int (1 + d1), .ref q])) := same_new nT
    refine rest _ _ ⟨(1 + d1).toNat, q, ts, by omega, by omega, ?_, D2.keep sT, b1.trans (b2.trans (.of sT)), qp, sT _ _ eq, hz, nd, hl⟩
    rw [Int.toNat_of_nonneg (by omega)]
    rfl
  rintro σ G ⟨n, q, ts, n1, n3, rfl, DG, bG, qp, eq, hz, nd, hl⟩
  -- the kinds
  refine seq_join (fun σ G' => ∃ kA : Addr, σ = [some (.ref p), some (.int (n : Nat)), some (.ref q), some (.ref kA), none, none, none, none, none, none] ∧ Same G G' ∧ StT G' kA (ts.take n)) ?_ fun rest => ?_
  rotate_left
  · refine ⟨.ref q, rfl, .int (n : Nat), rfl, _, rfl, q, _, rfl, SqL.of eq, fun c nc => ?_⟩
    rw [cut_take (by rw [List.length_map]; omega), ← List.map_take]
    refine .inl ⟨c, _, rfl, SqL.of upd_same, fun kA nk => rest _ _ ⟨kA, rfl, (same_new nc).trans (same_new nk), upd_same⟩⟩
  rintro σ G1 ⟨kA, rfl, s1, ek⟩
  have D1 := DG.keep s1
  have eq1 := s1 _ _ eq
  have b1 := bG.trans (.of s1)
  have hk : ∀ j, j < n → ∃ z, (ts.take n)[j]? = some z ∧ ts[j]? = some z := fun j hj => by
    have : j < ts.length := by omega
    exact ⟨ts[j], by rw [List.getElem?_take, if_pos hj, List.getElem?_eq_getElem this], List.getElem?_eq_getElem this⟩
  clear s1 eq DG bG
  -- a row without fields for each kind
  refine seq_join (fun σ G' => ∃ (R : Addr) (xs : List V) (rs : List Rw), σ = [some (.ref p), some (.int (n : Nat)), some (.ref q), some (.ref kA), none, some (.ref R), none, none, none, none] ∧ Same G1 G' ∧ G1 R = none ∧ G' R = some (.lst xs) ∧ Paired (RowV G') xs rs ∧ RInv (ts.take n) ts rs ∧ rs.length = n ∧ ∀ j, j < n → ∃ r, rs[j]? = some r ∧ ts[j]? = some r.2.1 ∧ r.2.2 = []) ?_ fun rest => ?_
  rotate_left
  · refine ⟨.int (n : Nat), rfl, _, rfl, ?_, ?_, fun R nR => lc_rangeY (n := n) (fun i H' => Same G1 H' ∧ ∃ (xs : List V) (rs : List Rw), H' R = some (.lst xs) ∧ Paired (RowV H') xs rs ∧ RInv (ts.take n) ts rs ∧ rs.length = i ∧ ∀ j, j < i → ∃ r, rs[j]? = some r ∧ ts[j]? = some r.2.1 ∧ r.2.2 = [])
      (fun _ => rfl) ⟨same_new nR, [], [], upd_same, .nil, ⟨fun r hr => (by cases hr), rfl⟩, rfl, fun j hj => (by omega)⟩ ?_ ?_⟩
    · omega
    · omega
    · rintro i H' hi ⟨s2, xs, rs, eR, hp, ri, li, nu⟩
      have e3 : ∃ w3, ts[3 + i]? = some w3 := ⟨_, List.getElem?_eq_getElem (by omega)⟩
      obtain ⟨w3, e3⟩ := e3
      obtain ⟨zi, ez, ez2⟩ := hk i hi
      have c0 : (0 : Int) + (i : Int) = ((i : Nat) : Int) := by omega
      have c3 : (3 : Int) + ((0 : Int) + (i : Int)) = ((3 + i : Nat) : Int) := by omega
      refine ⟨.ref q, rfl, .int (0 + (i : Int)), rfl, _, _, rfl, rfl, q, _, _, .str w3, rfl, rfl, SqL.of (s2 _ _ eq1), ?_, .ref kA, rfl, .int (0 + (i : Int)), rfl, kA, _, _, .str zi, rfl, rfl, SqT.of (s2 _ _ ek), ?_, ⟨(by show 0 ≤ sizeLine; exact Nat.zero_le _), fun U nU => ⟨(by show 3 ≤ sizeLine; decide), fun B nB => ?_⟩⟩⟩
      · rw [c3]
        exact atI_nat (by rw [List.getElem?_map, e3]; rfl)
      · rw [c0]
        exact atI_nat (by rw [List.getElem?_map, ez]; rfl)
      have sU : Same H' (upd H' U (.tup [])) := same_new nU
      have sB : Same (upd H' U (.tup [])) (upd (upd H' U (.tup [])) B (.tup [.str w3, .str zi, .ref U])) := same_new nB
      have s4 := sU.trans sB
      have eR4 := s4 _ _ eR
      have RU : U ≠ R := fun e => by rw [e, eR] at nU; cases nU
      have RB : B ≠ R := fun e => by rw [e, sU _ _ eR] at nB; cases nB
      have lx : xs.length = rs.length := Paired.length hp
      refine ⟨xs, eR4, small1000 (by omega), same_upd (s2.trans s4) nR, xs ++ [.ref B], rs ++ [(w3, zi, [])], upd_same, paired_snoc (Paired.mapP hp fun x r z => (RowV.keep z s4).but eR4 .set) ⟨B, U, rfl, ?_, ?_⟩, ri.snoc ⟨hz _ (List.mem_of_getElem? e3), List.mem_of_getElem? ez, Nat.zero_le _, fun x hx => (by cases hx)⟩ ?_, ?_, fun j hj => ?_⟩
      · rw [upd_ne RB, upd_same]
      · show upd _ R _ U = _
        rw [upd_ne RU]
        exact sB _ _ upd_same
      · rw [List.getElem?_drop, li]
        exact e3
      · rw [List.length_append, li]
        rfl
      · by_cases hji : j < i
        · obtain ⟨r, er, e1, e2⟩ := nu j hji
          exact ⟨r, by rw [List.getElem?_append_left (by omega)]; exact er, e1, e2⟩
        · have ej : j = rs.length := by omega
          subst ej
          exact ⟨(w3, zi, []), by rw [List.getElem?_append_right (Nat.le_refl _), Nat.sub_self]; rfl, by rw [li]; exact ez2, rfl⟩
    · rintro H' ⟨s2, xs, rs, eR, hp, ri, li, nu⟩
      exact rest _ _ ⟨R, xs, rs, rfl, s2, nR, eR, hp, ri, li, nu⟩
  rintro σ G2 ⟨R, xs, rs, rfl, s2, nR, eR, hp, ri, li, nu⟩
  have Rp : R ≠ p := by
    obtain ⟨_, _, _, e, _⟩ := D1
    exact fun z => by rw [z, e] at nR; cases nR
  have nR0 : H R = none := b1.free Rp nR
  have qR : q ≠ R := fun z => by rw [z, nR] at eq1; cases eq1
  have D2 := D1.keep s2
  have b2 := b1.trans (.of s2)
  have eq2 := s2 _ _ eq1
  have ek2 : StT G2 kA (ts.take n) := s2 _ _ ek
  clear s2 nR eq1 ek D1 b1 hk
  have kp0 : ∀ {H' : Hp}, DealAt H' p → StT H' kA (ts.take n) → kA ≠ p := fun D e => deal_ne D e
  -- further rows
  refine seq_join (fun σ G' => ∃ (o4 o6 o7 : Option V) (xs : List V) (rs : List Rw), σ = [some (.ref p), some (.int (n : Nat)), some (.ref q), some (.ref kA), o4, some (.ref R), o6, o7, none, none] ∧ DealAt G' p ∧ Sb p H G' ∧ StT G' kA (ts.take n) ∧ G' R = some (.lst xs) ∧ Paired (RowV G') xs rs ∧ RInv (ts.take n) ts rs ∧ rs.length ≤ 6 ∧ n ≤ rs.length ∧ ∀ j, j < n → ∃ r, rs[j]? = some r ∧ ts[j]? = some r.2.1 ∧ r.2.2 = []) ?_ fun rest => ?_
  rotate_left
  · refine ⟨.ref p, rfl, p, 3, rfl, D2, by decide, by decide, fun d2 H3 l2 u2 D3 b3 => ⟨_, _, rfl, rfl, _, rfl, ?_, ?_, for_range (n := (1 + d2).toNat) (fun i σ H' => ∃ (o4 o6 o7 : Option V) (xs : List V) (rs : List Rw), σ = [some (.ref p), some (.int (n : Nat)), some (.ref q), some (.ref kA), o4, some (.ref R), o6, o7, none, none] ∧ DealAt H' p ∧ Sb p H H' ∧ H' q = some (.lst (ts.map V.str)) ∧ StT H' kA (ts.take n) ∧ H' R = some (.lst xs) ∧ Paired (RowV H') xs rs ∧ RInv (ts.take n) ts rs ∧ rs.length = n + i ∧ ∀ j, j < n → ∃ r, rs[j]? = some r ∧ ts[j]? = some r.2.1 ∧ r.2.2 = [])
      ⟨none, none, none, xs, rs, rfl, D3, b2.trans b3, b3 _ _ qp eq2, b3 _ _ (kp0 D2 ek2) ek2, b3 _ _ Rp eR, Paired.mapP hp fun x r z => RowV.sb z D2 b3, ri, li, nu⟩ ?_ ?_⟩⟩
    · omega
    · omega
    · clear eR hp ri li nu eq2 ek2
      rintro i σ H4 hi ⟨o4, o6, o7, xs, rs, rfl, D4, b4, eq4, ek4, eR, hp, ri, li, nu⟩
      refine ⟨(by show 4 ≤ sizeLine; decide), fun L nL => ⟨.ref p, rfl, p, 4, rfl, D4.keep (same_new nL), by decide, by decide, fun d5 H5 l5 u5 D5 b5 => ?_⟩⟩
      have s5 : Same H4 (upd H4 L (.lst [V.int 1, .int 2, .int 2, .int 3])) := same_new nL
      have Lp : L ≠ p := by
        obtain ⟨_, _, _, e, _⟩ := D4
        exact fun z => by rw [z, e] at nL; cases nL
      obtain ⟨sN, esN, hs3⟩ : ∃ sN : Nat, ([V.int 1, .int 2, .int 2, .int 3])[d5.toNat]? = some (V.int sN) ∧ sN ≤ 3 := by
        have : d5 = 0 ∨ d5 = 1 ∨ d5 = 2 ∨ d5 = 3 := by omega
        rcases this with rfl | rfl | rfl | rfl
        · exact ⟨1, rfl, by omega⟩
        · exact ⟨2, rfl, by omega⟩
        · exact ⟨2, rfl, by omega⟩
        · exact ⟨3, rfl, by omega⟩
      refine ⟨L, _, d5, .int sN, rfl, rfl, SqL.of (b5 L _ Lp upd_same), at_of (j := d5.toNat) (by omega) esN, ?_⟩
      have b45 : Sb p H4 H5 := (Sb.of s5).trans b5
      have kp : kA ≠ p := kp0 D4 ek4
      have eq5 := b45 _ _ qp eq4
      have ek5 : StT H5 kA (ts.take n) := b45 _ _ kp ek4
      have eR5 := b45 _ _ Rp eR
      have hp5 := Paired.mapP hp fun x r z => RowV.sb z D4 b45
      have b5' := b4.trans b45
      clear b45 b5 s5 nL eR ek4 eq4 hp D4 b4 esN
      -- the fields
      refine ⟨.int sN, rfl, _, rfl, ?_, ?_, fun D nD => lc_rangeY (n := sN) (fun j H' => DealAt H' p ∧ Sb p H5 H' ∧ ∃ fs : List Str, H' D = some (.lst (fs.map V.str)) ∧ fs.length = j ∧ ∀ x ∈ fs, x ∈ ts.take n) (fun _ => rfl)
        ⟨D5.keep (same_new nD), Sb.new nD, [], upd_same, rfl, fun x hx => (by cases hx)⟩ ?_ ?_⟩
      · omega
      · omega
      · rintro j H6 hj ⟨D6, b6, fs, eD, lf, hf⟩
        have Dp : D ≠ p := by
          obtain ⟨_, _, _, e, _⟩ := D6
          exact fun z => by rw [z, e] at eD; obtain ⟨_, _, _, e5, _⟩ := D5; rw [z, e5] at nD; cases nD
        refine ⟨.ref kA, rfl, .ref p, rfl, .int (n : Nat), rfl, p, n, rfl, D6, by omega, by omega, fun d7 H7 l7 u7 D7 b7 => ?_⟩
        have hd : d7.toNat < (ts.take n).length := by rw [List.length_take]; omega
        refine ⟨kA, _, d7, .str (ts.take n)[d7.toNat], rfl, rfl, SqT.of (b7 _ _ kp (b6 _ _ kp ek5)), at_of (j := d7.toNat) (by omega) (by rw [List.getElem?_map, List.getElem?_eq_getElem hd]; rfl), _, b7 _ _ Dp eD, ?_, ?_, ?_, fs ++ [(ts.take n)[d7.toNat]], ?_, ?_, ?_⟩
        · rw [List.length_map]
          exact small1000 (by omega)
        · obtain ⟨x, y, u, e, l⟩ := D7
          exact ⟨x, y, u, by rw [upd_ne Dp.symm]; exact e, l⟩
        · intro b o nb e
          rw [upd_ne (ne_of_none e nD)]
          exact b7 b o nb (b6 b o nb e)
        · rw [upd_same, List.map_append]
          rfl
        · rw [List.length_append, lf]
          rfl
        · intro x hx
          rcases List.mem_append.mp hx with m | m
          · exact hf x m
          · rw [List.mem_singleton.mp m]
            exact List.getElem_mem hd
      · rintro H6 ⟨D6, b6, fs, eD, lf, hf⟩
        refine .inl ⟨D, _, rfl, SqL.of eD, fun fA nf => ?_⟩
        have s7 : Same H6 (upd H6 fA (.tup (fs.map V.str))) := same_new nf
        have efA : upd H6 fA (.tup (fs.map V.str)) fA = some (.tup (fs.map V.str)) := upd_same
        have D7 := D6.keep s7
        have b57 : Sb p H5 (upd H6 fA (.tup (fs.map V.str))) := b6.trans (.of s7)
        revert efA D7 b57
        generalize upd H6 fA (.tup (fs.map V.str)) = H7
        intro efA D7 b57
        have eR7 := b57 _ _ Rp eR5
        obtain ⟨wn, ewn⟩ : ∃ wn, ts[3 + n + i]? = some wn := ⟨_, List.getElem?_eq_getElem (by omega)⟩
        refine ⟨.ref R, rfl, .inl ⟨rfl, _, SqL.of eR7⟩, .ref q, rfl, .int (n : Nat), rfl, _, _, rfl, rfl, .int (0 + (i : Int)), rfl, _, _, rfl, rfl, q, _, _, .str wn, rfl, rfl, SqL.of (b57 _ _ qp eq5), ?_, .ref kA, rfl, .ref p, rfl, .int (n : Nat), rfl, p, n, rfl, D7, by omega, by omega, fun d8 H8 l8 u8 D8 b8 => ?_⟩
        · rw [show (3 : Int) + (n : Nat) + (0 + (i : Int)) = ((3 + n + i : Nat) : Int) by omega]
          exact atI_nat (by rw [List.getElem?_map, ewn]; rfl)
        have hd : d8.toNat < (ts.take n).length := by rw [List.length_take]; omega
        have b58 := b57.trans b8
        have fp' : fA ≠ p := deal_ne D7 efA
        have efA8 := b8 _ _ fp' efA
        have eR8 := b58 _ _ Rp eR5
        refine ⟨kA, _, d8, .str (ts.take n)[d8.toNat], rfl, rfl, SqT.of (b58 _ _ kp ek5), at_of (j := d8.toNat) (by omega) (by rw [List.getElem?_map, List.getElem?_eq_getElem hd]; rfl), .ref fA, rfl, ⟨(by show 3 ≤ sizeLine; decide), fun B nB => ?_⟩⟩
        have sB : Same H8 (upd H8 B (.tup [.str wn, .str (ts.take n)[d8.toNat], .ref fA])) := same_new nB
        have RB : B ≠ R := fun z => by rw [z, eR8] at nB; cases nB
        have RfA : fA ≠ R := fun z => by rw [z, eR8] at efA8; cases efA8
        have eR9 := sB _ _ eR8
        have lx : xs.length = rs.length := Paired.length hp5
        refine ⟨R, _, _, rfl, rfl, eR9, small1000 (by omega), some (.int (0 + (i : Int))), _, _, xs ++ [.ref B], rs ++ [(wn, (ts.take n)[d8.toNat], fs)], rfl, ?_, ?_, ?_, ?_, upd_same, paired_snoc (Paired.mapP hp5 fun x r z => ((RowV.sb z D5 b58).keep sB).but eR9 .set) ⟨B, fA, rfl, ?_, ?_⟩, ri.snoc ⟨hz _ (List.mem_of_getElem? ewn), List.getElem_mem hd, (by show fs.length ≤ 3; omega), hf⟩ ?_, ?_, fun j hj => ?_⟩
        · obtain ⟨x, y, u, e, l⟩ := D8.keep sB
          exact ⟨x, y, u, by rw [upd_ne Rp.symm]; exact e, l⟩
        · intro b o nb e
          rw [upd_ne (ne_of_none e nR0)]
          exact sB _ _ (b58 b o nb (b5' b o nb e))
        · rw [upd_ne qR]
          exact sB _ _ (b58 _ _ qp eq5)
        · show upd _ R _ kA = _
          rw [upd_ne (fun z => by have e : H5 kA = _ := ek5; rw [z, eR5] at e; cases e)]
          exact sB _ _ (b58 _ _ kp ek5)
        · rw [upd_ne RB, upd_same]
        · show upd _ R _ fA = _
          rw [upd_ne RfA]
          exact sB _ _ efA8
        · rw [List.getElem?_drop, li, ← ewn]
          congr 1
          omega
        · rw [List.length_append, li]
          simp
          omega
        · obtain ⟨r, er, e1, e2⟩ := nu j hj
          exact ⟨r, by rw [List.getElem?_append_left (by omega)]; exact er, e1, e2⟩
    · rintro σ H4 ⟨o4, o6, o7, xs, rs, rfl, D4, b4, eq4, ek4, eR, hp, ri, li, nu⟩
      exact rest _ _ ⟨o4, o6, o7, xs, rs, rfl, D4, b4, ek4, eR, hp, ri, by omega, by omega, nu⟩
  clear eR hp ri li nu eq2 ek2 D2 b2
  rintro σ G3 ⟨o4, o6, o7, xs, rs, rfl, D3, b3, ek3, eR, hp, ri, l6, ln, nu⟩
  have lx : xs.length = rs.length := Paired.length hp
  refine ⟨.ref p, rfl, .ref R, rfl, R, xs, rfl, .inl (SqL.of eR), p, _, rfl, D3, (by omega), (by omega), fun d5 H5 l5 u5 D5 b5 => ?_⟩
  obtain ⟨d, rfl⟩ := Int.eq_ofNat_of_zero_le l5
  have hd : d < xs.length := by omega
  have eR5 := b5 _ _ Rp eR
  have ek5 : StT H5 kA (ts.take n) := b5 _ _ (kp0 D3 ek3) ek3
  have hp5 := Paired.mapP hp fun x r z => RowV.sb z D3 b5
  refine ⟨.ref kA, rfl, .ref R, rfl, .int (d : Nat), rfl, _, rfl, R, _, rfl, SqL.of eR5, fun c1 n1 => ?_⟩
  have s1 : Same H5 (upd H5 c1 (.lst (cutV xs (some (d : Int)) none))) := same_new n1
  refine ⟨.ref R, rfl, .int (d : Nat), rfl, _, rfl, R, _, rfl, SqL.of (s1 _ _ eR5), fun c2 n2 => ?_⟩
  have s2 : Same (upd H5 c1 (.lst (cutV xs (some (d : Int)) none))) (upd (upd H5 c1 (.lst (cutV xs (some (d : Int)) none))) c2 (.lst (cutV xs none (some (d : Int))))) := same_new n2
  refine ⟨c1, c2, _, _, rfl, rfl, s2 _ _ upd_same, upd_same, ?_, fun c3 n3 => ?_⟩
  · have a1 := cutV_length xs (some (d : Int)) none
    have a2 := cutV_length xs none (some (d : Int))
    exact Nat.le_of_lt (small1000 (by omega))
  refine ⟨c3, _, rfl, SqL.of upd_same, fun rA H8 nrA s8 fz => ⟨(by show 2 ≤ sizeLine; decide), fun M nM => ?_⟩⟩
  have s3 : Same H5 (upd (upd (upd H5 c1 (.lst (cutV xs (some (d : Int)) none))) c2 (.lst (cutV xs none (some (d : Int))))) c3 (.lst (cutV xs (some (d : Int)) none ++ cutV xs none (some (d : Int))))) := s1.trans (s2.trans (same_new n3))
  have s4 := s3.trans s8
  have sM := same_new (o := .tup [.ref kA, .ref rA]) nM
  have s5 := s4.trans sM
  have perm := turned rs d
  have mem : ∀ r, r ∈ rs.drop d ++ rs.take d ↔ r ∈ rs := fun r => perm.mem_iff
  refine k M ⟨ts.take n, rs.drop d ++ rs.take d⟩ _ (D5.keep s5) (b3.trans (b5.trans (.of s5))) ⟨?_, ?_, ?_, ?_, ?_, ?_, ?_, ?_, ?_, ?_, ?_, ?_⟩ ⟨kA, rA, upd_same, s5 _ _ ek5, cutV xs (some (d : Int)) none ++ cutV xs none (some (d : Int)), .inr (fz.keep sM), ?_⟩ ⟨kA, rA, _, upd_same, fz.keep sM⟩
  · show 1 ≤ (ts.take n).length
    rw [List.length_take]; omega
  · show (ts.take n).length ≤ 4
    rw [List.length_take]; omega
  · exact fun z h => hz z (List.mem_of_mem_take h)
  · exact nd.sublist (List.take_sublist ..)
  · rw [perm.length_eq]; omega
  · rw [perm.length_eq]; omega
  · exact fun r h => (ri.ok r ((mem r).mp h)).n
  · have e : ((rs.drop d ++ rs.take d).map (·.1)).Perm (rs.map (·.1)) := perm.map _
    refine e.nodup_iff.mpr ?_
    rw [ri.nm]
    exact (nd.sublist (List.drop_sublist ..)).sublist (List.take_sublist ..)
  · exact fun r h => (ri.ok r ((mem r).mp h)).k
  · exact fun r h => (ri.ok r ((mem r).mp h)).l
  · exact fun r h => (ri.ok r ((mem r).mp h)).f
  · intro z h
    obtain ⟨j, hj, ej⟩ := List.getElem_of_mem h
    rw [List.length_take] at hj
    obtain ⟨r, er, e1, e2⟩ := nu j (by omega)
    refine ⟨r, (mem r).mpr (List.mem_of_getElem? er), ?_, e2⟩
    rw [List.getElem_take] at ej
    rw [List.getElem?_eq_getElem (by omega), ej] at e1
    exact (Option.some.inj e1).symm
  · have pr : Paired (RowV H5) (cutV xs (some (d : Int)) none ++ cutV xs none (some (d : Int))) (rs.drop d ++ rs.take d) := by
      rw [cut_drop (by omega), cut_take (by omega)]
      exact paired_app (paired_drop d hp5) (paired_take d hp5)
    exact Paired.mapP pr fun x r z => RowV.keep z s5
theorem ok_mdl {f fp fw : Addr} {fd fdp fdw : FuncData} (F : Fun K "_law_model" "_law_model" sMdl f fd) (mr : mg "range" = none) (mt : mg "tuple" = none) (ml : mg "len" = none)
    (GP : FnOk P w K mg base CX0 1 fp fdp ["_law_deal_here", "_law_many"] spPick) (kp : PySem.W.keepIn K (.ref fp) = true) (bP : Binds K fdp ["_law_deal_here", "_law_many"] []) (gP : mg "_law_pick" = some (.ref fp))
    (GW : FnOk P w K mg base CX0 3 fw fdw ["_law_deal_here", "_law_many"] spWds) (kw : PySem.W.keepIn K (.ref fw) = true) (bW : Binds K fdw ["_law_deal_here", "_law_many"] []) (gW : mg "_law_words" = some (.ref fw)) :
    FnOk P w K mg base CX0 4 f fd ["_law_deal_here"] spMdl := (ok_mdlF F mr mt ml GP kp bP gP GW kw bW gW).imp fun vs H Q E h => by
  obtain ⟨p, e, hD, q⟩ := h
  exact ⟨p, e, hD, fun a m H' D b g hM _ => q a m H' D b g hM⟩
end
end Ks
set_option Elab.async false
set_option linter.all false
set_option maxRecDepth 100000
set_option maxHeartbeats 4000000
namespace Ks
open PySem PySem.Spec PyProof.Rows L2 Gd Kx
/-! ### what stays: tuples; everything but lists -/
/-- tuples stay -/
def Tk (H H' : Hp) : Prop := ∀ b ys, H b = some (.tup ys) → H' b = some (.tup ys)
theorem Tk.of {H H' : Hp} (s : Same H H') : Tk H H' := fun b ys e => s _ _ e
theorem Tk.sb {H H' : Hp} {p : Addr} {ys : List V} (e : H p = some (.lst ys)) (s : Sb p H H') : Tk H H' := fun b zs h => s b _ (fun z => by rw [z, e] at h; cases h) h
theorem Tk.deal {H H' : Hp} {p : Addr} (D : DealAt H p) (s : Sb p H H') : Tk H H' := by
  obtain ⟨_, _, _, e, _⟩ := D
  exact Tk.sb e s
theorem Tk.trans {H H1 H2 : Hp} (a : Tk H H1) (b : Tk H1 H2) : Tk H H2 := fun c ys e => b _ _ (a _ _ e)
theorem StT.tk {H H' : Hp} {a : Addr} {zs : List Str} (h : StT H a zs) (s : Tk H H') : StT H' a zs := s _ _ h
theorem RowV.tk {H H' : Hp} {x : V} {r : Rw} (h : RowV H x r) (s : Tk H H') : RowV H' x r := by
  obtain ⟨b, f, e, h1, h2⟩ := h
  exact ⟨b, f, e, s _ _ h1, s _ _ h2⟩
/-! ### everything but lists stands -/
def Nl (H H' : Hp) : Prop := ∀ b o, (∀ zs, o ≠ HO.lst zs) → H b = some o → H' b = some o
section
variable {H H' H'' : Hp} {a : Addr} {m : Md} {rs : List Rw}
theorem Nl.refl : Nl H H := fun _ _ _ e => e
theorem Nl.of (s : Same H H') : Nl H H' := fun b o _ e => s b o e
theorem Nl.trans (s : Nl H H') (t : Nl H' H'') : Nl H H'' := fun b o n e => t b o n (s b o n e)
theorem Nl.deal {p : Addr} (D : DealAt H p) (s : Sb p H H') : Nl H H' := fun b o n e => s b o (fun z => by
  obtain ⟨_, _, _, ep, _⟩ := D
  rw [z, ep] at e
  cases e
  exact n _ rfl) e
theorem Nl.upd {a : Addr} {zs ys : List V} (e : H a = some (.lst zs)) : Nl H (upd H a (.lst ys)) := fun b o n h => by
  rw [upd_ne (fun z => by rw [z, e] at h; cases h; exact n _ rfl)]
  exact h
theorem Nl.tk (s : Nl H H') : Tk H H' := fun b ys e => s _ _ (fun _ z => by cases z) e
theorem RowsT.nl (h : RowsT H a rs) (s : Nl H H') : RowsT H' a rs := by
  obtain ⟨xs, e, p⟩ := h
  exact ⟨xs, e.by (fun o n _ e => s _ _ n e), Paired.mapP p fun _ _ z => RowV.tk z s.tk⟩
theorem MdAt.nl (h : MdAt H a m) (s : Nl H H') : MdAt H' a m := by
  obtain ⟨k, r, e, h1, h2⟩ := h
  exact ⟨k, r, s.tk _ _ e, h1.tk s.tk, h2.nl s⟩
theorem KnM.keep {H H' : Hp} {a : Addr} (h : KnM H a) (s : Same H H') : KnM H' a := by
  obtain ⟨k, r, xs, e, fz⟩ := h
  exact ⟨k, r, xs, s _ _ e, fz.keep s⟩
theorem KnM.nl (h : KnM H a) (s : Nl H H') : KnM H' a := by
  obtain ⟨k, r, xs, e, o, e2, q⟩ := h
  exact ⟨k, r, xs, s.tk _ _ e, o, s _ _ (fun _ z => by cases z) e2, q⟩
end
end Ks
set_option Elab.async false
set_option linter.all false
set_option maxRecDepth 100000
set_option maxHeartbeats 4000000
namespace Ks
open PySem PySem.Spec PyProof.Rows L2 Gd Kx
/-! ### the lines of a schema's text -/
def wdAt (z : Str) (i : Nat) : Str := (cutS z " ").getD i ""
def lnK (p : List Str × List Rw) (z : Str) : Prop := wdAt z 0 = "kind" ∧ (cutS z " ").length = 2 ∧ p.2 = []
def lnM (z : Str) : Prop := wdAt z 0 = "make" ∧ 3 ≤ (cutS z " ").length
instance (p : List Str × List Rw) (z : Str) : Decidable (lnK p z) := by unfold lnK; exact inferInstance
instance (z : Str) : Decidable (lnM z) := by unfold lnM; exact inferInstance
def lnP (p : List Str × List Rw) (z : Str) : Option (List Str × List Rw) :=
  if lnK p z then some (p.1 ++ [wdAt z 1], p.2) else if lnM z then some (p.1, p.2 ++ [(wdAt z 1, wdAt z 2, (cutS z " ").drop 3)]) else none
def prs (p : List Str × List Rw) : List Str → Option (List Str × List Rw)
  | [] => some p
  | z :: r => match lnP p z with
    | some q => prs q r
    | none => none
def partsT (z : Str) : Option (List Str × List Rw) := prs ([], []) (cutS z "\n")
theorem wd_ne (z : Str) : cutS z " " ≠ [] := cut_ne (by decide +kernel) (by decide +kernel)
theorem wd_at {z : Str} {i : Nat} (h : i < (cutS z " ").length) : (cutS z " ")[i]? = some (wdAt z i) := by
  unfold wdAt
  rw [List.getD_eq_getElem?_getD, List.getElem?_eq_getElem h]
  rfl
theorem wd_len {z : Str} {i : Nat} (h : i < (cutS z " ").length) : (wdAt z i).length ≤ z.length :=
  cut_len (by decide +kernel) (by decide +kernel) (List.mem_of_getElem? (wd_at h))
/-- what is known of the sizes -/
structure PB (p : List Str × List Rw) : Prop where
  k : ∀ z ∈ p.1, z.length ≤ 900
  r : RsB p.2
theorem lnP_b {p q : List Str × List Rw} {z : Str} (h : PB p) (hz : z.length ≤ 900) (e : lnP p z = some q) : PB q := by
  unfold lnP at e
  have lw := PyProof.Rows.split_le z " "
  split at e
  · rename_i c
    cases e
    refine ⟨fun y hy => ?_, h.r⟩
    rcases List.mem_append.mp hy with m | m
    · exact h.k y m
    · rw [List.mem_singleton.mp m]
      have := wd_len (z := z) (i := 1) (by have := c.2.1; omega)
      omega
  · split at e
    · rename_i c
      cases e
      have c2 := c.2
      refine ⟨h.k, ⟨fun r hr => ?_, fun r hr => ?_⟩⟩
      · rcases List.mem_append.mp hr with m | m
        · exact h.r.n r m
        · rw [List.mem_singleton.mp m]
          have := wd_len (z := z) (i := 1) (by omega)
          show (wdAt z 1).length ≤ 900
          omega
      · rcases List.mem_append.mp hr with m | m
        · exact h.r.f r m
        · rw [List.mem_singleton.mp m]
          show ((cutS z " ").drop 3).length ≤ 900
          rw [List.length_drop]
          have : (cutS z " ").length ≤ z.length + 2 := lw
          omega
    · cases e
theorem prs_b : ∀ {zs : List Str} {p q : List Str × List Rw}, PB p → (∀ z ∈ zs, z.length ≤ 900) → prs p zs = some q → PB q
  | [], p, q, h, _, e => by cases e; exact h
  | z :: r, p, q, h, hz, e => by
    unfold prs at e
    cases el : lnP p z with
    | none => rw [el] at e; cases e
    | some y =>
      rw [el] at e
      exact prs_b (lnP_b h (hz z (List.mem_cons_self ..)) el) (fun x hx => hz x (List.mem_cons_of_mem _ hx)) e
theorem prs_at {p : List Str × List Rw} {zs : List Str} {i : Nat} {z : Str} (h : zs[i]? = some z) : prs p (zs.drop i) = match lnP p z with | some q => prs q (zs.drop (i + 1)) | none => none := by
  have hi := (List.getElem?_eq_some_iff.mp h).1
  have e : zs.drop i = z :: zs.drop (i + 1) := by
    rw [List.drop_eq_getElem_cons hi]
    congr 1
    exact (List.getElem?_eq_some_iff.mp h).2
  rw [e]
  rfl
abbrev sPts : Stmt := Kx.topS 23
abbrev nPts : List Str := ["text", "kinds", "constructors", "line", "words"]
theorem scPts : FnScope nPts ["text"] (defScope sPts) := ⟨rfl, rfl, rfl, by decide +kernel, rfl, by decide +kernel, by decide +kernel⟩
section
variable {P : Program} {w : World} {K : PySem.W.Frag} {mg : Str → Option Value} {base : Heap} {C CK CC CE IT : Addr}
def spPts (IT : Addr) : Sp := fun vs H Q E => ∃ z : Str, vs = [.str z] ∧ z.length ≤ 100000 ∧ (∀ p ∈ cutS z "\n", p.length ≤ 900) ∧
  (∀ ks rs, partsT z = some (ks, rs) → ∀ T k c H', Same H H' → H' T = some (.tup [.ref k, .ref c]) → StT H' k ks → RowsT H' c rs → Q (.ref T) H') ∧
  (partsT z = none → ∀ d H', Same H H' → H' d = some (.xd [("value", .str z)]) → E (.ref IT) (some d) H')
set_option maxHeartbeats 8000000 in
theorem ok_pts {f : Addr} {fd : FuncData} (F : Fun K "_parts" "_parts" sPts f fd) (T : TS0 mg) (O : One P w K mg base "InvalidText" "value" IT) (ty : PySem.W.typeIn K (.ref IT) = some (.type "type")) : FnOk P w K mg base (CX P w) 3 f fd ["text"] (spPts IT) := by
  refine F.okX scPts (fun vs H Q E h => ?_) (fun cv A ou s H vs Q E hr h => ?_)
  · obtain ⟨z, rfl, _⟩ := h
    rfl
  obtain ⟨z, rfl, hz, hp9, q, qE⟩ := h
  refine ⟨_, pss_cons (ps_set (i := 1) scPts.nd rfl (.inl rfl) (pe_lst pa_nil))
    (pss_cons (ps_set (i := 2) scPts.nd rfl (.inl rfl) (pe_lst pa_nil))
    (pss_cons (ps_for PassesOwn.leaving rfl (pi_list (pe_split (pv 0) pe_str)) (pg_name (i := 3) scPts.nd rfl (.inl rfl))
      (pss_cons (ps_set (i := 4) scPts.nd rfl (.inl rfl) (pe_split (pv 3) pe_str))
      (pss_one (ps_if (PW.pt (pw_and (pt_cmpR op_eq (pe_ix ix_list (pv 4) pe_int (fun _ _ => rfl)) pe_str (nomark _)) (pw_and (pt_cmpR op_eq (pe_callB call_len_seq (by rfl) T.len PySem.boot_len (pa_cons (pv 4) pa_nil)) pe_int (nomark _)) (pw_and1 (pt_not (pt_truth (pv 2) (fun _ => rfl)))))))
        (pss_one (ps_expr (pe_bm PySem.F.plainAttrs_list PySem.F.slot_list_append PySem.F.type_list_append mt_append (pv 1) (pa_cons (pe_ix ix_list (pv 4) pe_int (fun _ _ => rfl)) pa_nil))))
        (pss_one (ps_if (PW.pt (pw_and (pt_cmpR op_eq (pe_ix ix_list (pv 4) pe_int (fun _ _ => rfl)) pe_str (nomark _)) (pw_and1 (pt_cmpR op_ge (pe_callB call_len_seq (by rfl) T.len PySem.boot_len (pa_cons (pv 4) pa_nil)) pe_int (nomark _)))))
          (pss_one (ps_expr (pe_bm PySem.F.plainAttrs_list PySem.F.slot_list_append PySem.F.type_list_append mt_append (pv 2) (pa_cons (pe_tup (pa_cons (pe_ix ix_list (pv 4) pe_int (fun _ _ => rfl)) (pa_cons (pe_ix ix_list (pv 4) pe_int (fun _ _ => rfl)) (pa_cons (pe_tupleOf (by rfl) T.tup (pe_slice sl_list (pv 4) (po_some pe_int) po_none)) pa_nil)))) pa_nil))))
          (pss_one (ps_raise rfl (takes_of rfl rfl rfl rfl) (pmk_one O ty hr (by rfl) (pv 0))))))))))
    (pss_one (ps_ret (pe_tup (pa_cons (pe_tupleOf (by rfl) T.tup (pv 1)) (pa_cons (pe_tupleOf (by rfl) T.tup (pv 2)) pa_nil))))))), ?_⟩
  have sz := sizeLine_eq
  refine ⟨(by show 0 ≤ sizeLine; exact Nat.zero_le _), fun M nM => ?_⟩
  have sM := same_new (o := .lst []) nM
  refine ⟨(by show 0 ≤ sizeLine; exact Nat.zero_le _), fun N nN => ?_⟩
  have MN : M ≠ N := ne_of_none upd_same nN
  have sN := sM.trans (same_new (o := .lst []) nN)
  refine ⟨.str z, rfl, ⟨z, rfl⟩, z, "\n", rfl, rfl, by decide +kernel, by omega, fun Lp nLp => ?_⟩
  have ML : M ≠ Lp := ne_of_none (by rw [upd_ne MN]; exact upd_same) nLp
  have NL : N ≠ Lp := ne_of_none upd_same nLp
  have sP := sN.trans (same_new (o := .lst ((Txt.split z "\n").map V.str)) nLp)
  have nHN : H N = none := by
    cases e : H N with
    | none => rfl
    | some o => rw [sM _ _ e] at nN; cases nN
  have ln := PyProof.Rows.split_le z "\n"
  refine ⟨Lp, rfl, ⟨_, SqL.of upd_same⟩, for_list (K := K) (a := Lp) (xs := (Txt.split z "\n").map V.str) (fun i σ H' => ∃ (o3 o4 : Option V) (ks : List Str) (rs : List Rw) (xs : List V), σ = [some (.str z), some (.ref M), some (.ref N), o3, o4] ∧ Same H H' ∧ H' Lp = some (.lst ((Txt.split z "\n").map V.str)) ∧ H' M = some (.lst (ks.map V.str)) ∧ H' N = some (.lst xs) ∧ Paired (RowV H') xs rs ∧ ks.length + rs.length ≤ i ∧ prs (ks, rs) ((cutS z "\n").drop i) = partsT z)
    ⟨none, none, [], [], [], rfl, sP, upd_same, by rw [upd_ne ML, upd_ne MN]; exact upd_same, by rw [upd_ne NL]; exact upd_same, .nil, Nat.zero_le _, rfl⟩ (fun i σ H' _ pp => ?_) ?_ ?_⟩
  · obtain ⟨_, _, _, _, _, _, _, e, _⟩ := pp
    exact SqL.of e
  · rintro i x σ H1 hx ⟨o3, o4, ks, rs, xs, rfl, s1, eL, eM, eN, pr, li, pe⟩
    rw [List.getElem?_map] at hx
    cases ep : (Txt.split z "\n")[i]? with
    | none => rw [ep] at hx; cases hx
    | some p =>
    rw [ep] at hx
    cases hx
    have hp := hp9 p (List.mem_of_getElem? ep)
    have hi := (List.getElem?_eq_some_iff.mp ep).1
    have lw := PyProof.Rows.split_le p " "
    rw [prs_at (zs := cutS z "\n") (z := p) ep] at pe
    refine ⟨.str p, rfl, ⟨p, rfl⟩, p, " ", rfl, rfl, by decide +kernel, by omega, fun Wd nW => ?_⟩
    have ec : (Txt.split p " ") = cutS p " " := rfl
    have sW := same_new (o := .lst ((Txt.split p " ").map V.str)) nW
    have sA := s1.trans sW
    have wl : 0 < (cutS p " ").length := List.length_pos_iff.mpr (wd_ne p)
    have atW : ∀ j, j < (cutS p " ").length → L2.atI ((cutS p " ").map V.str) ((j : Nat) : Int) = some (V.str (wdAt p j)) := fun j hj => atI_nat (j := j) (by rw [List.getElem?_map, wd_at hj]; rfl)
    have dS : ∀ x y : Str, decide (V.str x = V.str y) = decide (x = y) := fun x y => by simp
    have dL : decide (V.int ((((Txt.split p " ").map V.str).length : Nat) : Int) = V.int 2) = decide ((cutS p " ").length = 2) := by
      rw [List.length_map, ec]
      by_cases h : (cutS p " ").length = 2
      · rw [h]; rfl
      · rw [decide_eq_false h]
        exact decide_eq_false fun e => h (by injection e with e1; omega)
    have dG : decide ((3 : Int) ≤ ((((Txt.split p " ").map V.str).length : Nat) : Int)) = decide (3 ≤ (cutS p " ").length) := by
      rw [List.length_map, ec]
      by_cases h : 3 ≤ (cutS p " ").length
      · rw [decide_eq_true h]
        exact decide_eq_true (by omega)
      · rw [decide_eq_false h]
        exact decide_eq_false (by omega)
    have eL2 := sW _ _ eL
    have eM2 := sW _ _ eM
    have eN2 := sW _ _ eN
    have lx : xs.length = rs.length := Paired.length pr
    have li2 : ks.length + rs.length < 100010 := by omega
    have rz : lnP (ks, rs) p = none → ∀ d H', Same (upd H1 Wd (.lst ((Txt.split p " ").map V.str))) H' → H' d = some (.xd [("value", .str z)]) → E (.ref IT) (some d) H' := fun e d H' s e2 => by
      rw [e] at pe
      exact qE pe.symm d H' (sA.trans s) e2
    refine ⟨.ref Wd, rfl, Wd, _, _, .str (wdAt p 0), rfl, rfl, SqL.of upd_same, atW 0 wl, rfl, _, rfl, ?_⟩
    rw [dS]
    by_cases k0 : wdAt p 0 = "kind"
    · have m0 : wdAt p 0 ≠ "make" := by rw [k0]; decide +kernel
      have nm : ¬ lnM p := fun h => m0 h.1
      rw [decide_eq_true k0]
      refine iteT ⟨.ref Wd, rfl, Wd, _, rfl, .inl (SqL.of upd_same), rfl, _, rfl, ?_⟩
      rw [dL]
      by_cases k2 : (cutS p " ").length = 2
      · rw [decide_eq_true k2]
        refine iteT ⟨.ref N, rfl, _, .inl ⟨xs, SqL.of eN2, rfl⟩, ?_⟩
        cases xs with
        | nil =>
          cases pr
          have lk : lnK (ks, []) p := ⟨k0, k2, rfl⟩
          have el : lnP (ks, []) p = some (ks ++ [wdAt p 1], []) := by unfold lnP; rw [if_pos lk]
          rw [el] at pe
          refine iteT ⟨.ref M, rfl, .inl ⟨rfl, _, SqL.of eM2⟩, .ref Wd, rfl, Wd, _, _, .str (wdAt p 1), rfl, rfl, SqL.of upd_same, atW 1 (by omega), M, _, _, rfl, rfl, eM2, ?_, _, _, ks ++ [wdAt p 1], [], [], rfl, same_upd sA nM, ?_, ?_, ?_, .nil, ?_, pe⟩
          · rw [List.length_map]
            omega
          · rw [upd_ne (Ne.symm ML)]
            exact eL2
          · rw [upd_same, List.map_append]
            rfl
          · rw [upd_ne (Ne.symm MN)]
            exact eN2
          · rw [List.length_append, List.length_singleton]
            simp at li
            simp
            omega
        | cons x0 xr =>
          have nk : ¬ lnK (ks, rs) p := fun h => by
            have e : rs = [] := h.2.2
            rw [e] at lx
            cases lx
          refine iteF ⟨.ref Wd, rfl, Wd, _, _, .str (wdAt p 0), rfl, rfl, SqL.of upd_same, atW 0 wl, rfl, _, rfl, ?_⟩
          rw [dS, decide_eq_false m0]
          exact iteF (iteF ⟨.str z, rfl, fun d H' s n e => rz (by unfold lnP; rw [if_neg nk, if_neg nm]) d H' s e⟩)
      · have nk : ¬ lnK (ks, rs) p := fun h => k2 h.2.1
        rw [decide_eq_false k2]
        refine iteF (iteF ⟨.ref Wd, rfl, Wd, _, _, .str (wdAt p 0), rfl, rfl, SqL.of upd_same, atW 0 wl, rfl, _, rfl, ?_⟩)
        rw [dS, decide_eq_false m0]
        exact iteF (iteF ⟨.str z, rfl, fun d H' s n e => rz (by unfold lnP; rw [if_neg nk, if_neg nm]) d H' s e⟩)
    · have nk : ¬ lnK (ks, rs) p := fun h => k0 h.1
      rw [decide_eq_false k0]
      refine iteF (iteF ⟨.ref Wd, rfl, Wd, _, _, .str (wdAt p 0), rfl, rfl, SqL.of upd_same, atW 0 wl, rfl, _, rfl, ?_⟩)
      rw [dS]
      by_cases m0 : wdAt p 0 = "make"
      rotate_left
      · have nm : ¬ lnM p := fun h => m0 h.1
        rw [decide_eq_false m0]
        exact iteF (iteF ⟨.str z, rfl, fun d H' s n e => rz (by unfold lnP; rw [if_neg nk, if_neg nm]) d H' s e⟩)
      rw [decide_eq_true m0]
      refine iteT ⟨.ref Wd, rfl, Wd, _, rfl, .inl (SqL.of upd_same), _, _, rfl, rfl, _, rfl, ?_⟩
      rw [dG]
      by_cases k3 : 3 ≤ (cutS p " ").length
      rotate_left
      · have nm : ¬ lnM p := fun h => k3 h.2
        rw [decide_eq_false k3]
        exact iteF ⟨.str z, rfl, fun d H' s n e => rz (by unfold lnP; rw [if_neg nk, if_neg nm]) d H' s e⟩
      rw [decide_eq_true k3]
      have lm : lnM p := ⟨m0, k3⟩
      have el : lnP (ks, rs) p = some (ks, rs ++ [(wdAt p 1, wdAt p 2, (cutS p " ").drop 3)]) := by unfold lnP; rw [if_neg nk, if_pos lm]
      rw [el] at pe
      refine iteT ⟨.ref N, rfl, .inl ⟨rfl, _, SqL.of eN2⟩, .ref Wd, rfl, Wd, _, _, .str (wdAt p 1), rfl, rfl, SqL.of upd_same, atW 1 (by omega), .ref Wd, rfl, Wd, _, _, .str (wdAt p 2), rfl, rfl, SqL.of upd_same, atW 2 (by omega), ?_⟩
      refine ⟨.ref Wd, rfl, _, rfl, Wd, _, rfl, SqL.of upd_same, fun c nc => ?_⟩
      have ed : cutV ((Txt.split p " ").map V.str) (some (3 : Int)) none = ((Txt.split p " ").map V.str).drop 3 := cut_drop (i := 3) (by rw [List.length_map, ec]; omega)
      rw [ed]
      have sc := same_new (o := .lst (((Txt.split p " ").map V.str).drop 3)) nc
      refine .inl ⟨c, _, rfl, SqL.of upd_same, fun T1 nT1 => ⟨(by show 3 ≤ sizeLine; omega), fun T2 nT2 => ?_⟩⟩
      have sT1 := same_new (o := .tup (((Txt.split p " ").map V.str).drop 3)) nT1
      have sT2 := same_new (o := .tup [.str (wdAt p 1), .str (wdAt p 2), .ref T1]) nT2
      have sB := sc.trans (sT1.trans sT2)
      have eN3 := sB _ _ eN2
      have nl := Nl.upd (ys := xs ++ [V.ref T2]) eN3
      refine ⟨N, _, _, rfl, rfl, eN3, by omega, _, _, ks, rs ++ [(wdAt p 1, wdAt p 2, (cutS p " ").drop 3)], xs ++ [.ref T2], rfl, same_upd (sA.trans sB) nHN, ?_, ?_, upd_same, ?_, ?_, pe⟩
      · rw [upd_ne (Ne.symm NL)]
        exact sB _ _ eL2
      · rw [upd_ne MN]
        exact sB _ _ eM2
      · refine Paired.snoc (Paired.mapP pr fun _ _ h => ?_) ?_
        · obtain ⟨b', q', e', h1, h2⟩ := h.keep (sW.trans sB)
          exact ⟨b', q', e', nl.tk _ _ h1, nl.tk _ _ h2⟩
        · refine ⟨T2, T1, rfl, nl.tk _ _ upd_same, ?_⟩
          show _ = some (HO.tup (((cutS p " ").drop 3).map V.str))
          rw [List.map_drop]
          exact nl.tk _ _ (sT2 _ _ upd_same)
      · rw [List.length_append, List.length_singleton]
        omega
  · rintro σ H1 ⟨o3, o4, ks, rs, xs, rfl, s1, eL, eM, eN, pr, li, pe⟩
    rw [List.drop_of_length_le (by rw [List.length_map]; exact Nat.le_refl _)] at pe
    refine ⟨.ref M, rfl, .inl ⟨M, _, rfl, SqL.of eM, fun T1 nT1 => ?_⟩⟩
    have sT1 := same_new (o := .tup (ks.map V.str)) nT1
    refine ⟨.ref N, rfl, .inl ⟨N, _, rfl, SqL.of (sT1 _ _ eN), fun T2 nT2 => ⟨(by show 2 ≤ sizeLine; omega), fun T nT => ?_⟩⟩⟩
    have sT2 := same_new (o := .tup xs) nT2
    have sT := same_new (o := .tup [.ref T1, .ref T2]) nT
    have s23 := sT2.trans sT
    exact q ks rs pe.symm T T1 T2 _ (s1.trans (sT1.trans s23)) upd_same (s23 _ _ upd_same) ⟨xs, .inl (sT _ _ upd_same), Paired.mapP pr fun _ _ h => h.keep (sT1.trans s23)⟩
end
end Ks
set_option Elab.async false
set_option linter.all false
set_option maxRecDepth 100000
set_option maxHeartbeats 4000000
/-! C.m(..), m a staticmethod; C(..) where what it lets out is told at the slots -/
namespace Gd
open PySem PySem.Spec PyProof.Rows L2
/-- C.m is a staticmethod: its record at p, its def at g -/
structure SMet (K : PySem.W.Frag) (C : Addr) (mc : Value) (m : Str) (p g : Addr) : Prop where
  at_ : PySem.W.findCls K (.ref C) mc m = some (.get (.builtin "staticmethod.__get__") (.ref p) .none (.ref C))
  rc : ∃ rest, PySem.W.recIn K p "staticmethod" = some (.ref g :: rest)
  kp : PySem.W.keepIn K (.ref g) = true
def tSMeth (C : Addr) (sp : Sp) (E : XK) (ta : TE) (t : TA) : TE := fun σ H Q => ta σ H fun x H1 => x = .ref C ∧ t σ H1 fun vs H2 => sp vs H2 Q E
def tSMethK (C : Addr) (sp : Sp) (gV : List V → List V → List V) (E : XK) (ta : TE) (tk : TA) : TE := fun σ H Q => ta σ H fun x H1 => x = .ref C ∧ tk σ H1 fun zs H2 => sp (gV [] zs) H2 Q E
section
variable {X : Cx} {CX : CXT} {k : Nat} {C p f : Addr} {mc : Value} {fd : FuncData} {ps ks : List Str} {sp : Sp} {E : XK} {ta : TE} {t tk : TA} {o e : Expr} {es : List Expr} {m : Str} {apos pos : Pos} {kws : List Keyword} {g : List Value → List Value → List Value} {gV : List V → List V → List V} {pl : Sem Bool}
theorem getsm_ok {pins : List (Addr × Obj)} {σ : L2.St} {H : Hp} {s : Shared} {A : Around} {E : Value → Shared → Prop} {Q : Value × List Value → Shared → Prop} (I : Inv X pins σ H s) (r : ClX.CRead X.K C mc) (c : SMet X.K C mc m p f)
    (h : ∀ s', Inv X pins σ H s' → Q (.ref f, []) s') : wpAny (model X.prog X.w) A (getMethod (.ref C) m pl) Q E s := by
  obtain ⟨rest, hp⟩ := c.rc
  exact PySem.W.method_cls I.kIn r.ga (PySem.W.cls_bind I.kIn r.rd c.at_ (wpAny_call (PySem.W.sm_get (s := { s with toks := s.toks + 1 }) I.kIn hp (PySem.W.handed_on rfl (h _ (I.tok _))))))
theorem pe_smeth (he : PE X o ta) (r : ClX.CRead X.K C mc) (c : SMet X.K C mc m p f) (F : FnOk X.prog X.w X.K X.mg X.base CX k f fd ps sp) (hr : Room k X.A) (hb : Binds X.K fd ps []) (hx : Passes CX X E) (ha : PA X (e :: es) t)
    (hst : starEach (e :: es) X.env = (false, eval e X.env) :: starEach es X.env := by rfl) (hpl : (backTo pos (starEach es X.env)).any (·.1) = false := by rfl)
    (ht : eval (.Call (.Attribute o m apos) (e :: es) [] pos) X.env = (do
      let ov ← eval o X.env
      standAt apos.atName
      let (f, first) ← holding [ov] (getMethod ov m pl)
      callWith pos f first (backTo pos (starEach (e :: es) X.env)) (backToKw pos (keywordEach [] X.env))) := by rfl) :
    PE X (.Call (.Attribute o m apos) (e :: es) [] pos) (tSMeth C sp E ta t) := by
  refine ⟨fun pins s σ H Q I h => ?_⟩
  refine PySem.W.methodCall_KW (pl := pl) (thn (he.run pins s σ H _ I h) fun u s1 ⟨x, H1, I1, rx, ex, q⟩ => ?_) ht
  subst ex
  obtain rfl : u = Value.ref C := rx
  refine getsm_ok I1 r c fun s2 I2 => ?_
  refine PySem.W.callWith_K (h₀ := X.base) I2.ok.mod.kin c.kp (thn (ha.run pos pins s2 σ H1 _ I2 q) fun us s3 ⟨vs, H2, I3, rv, q2⟩ => ⟨I3.kIn, ?_⟩) hst hpl
  exact run_fn (dvs := []) (ds := []) F hr hb .nil hx I3 rv (by rw [List.append_nil]; exact q2)
theorem pe_smethK0 (he : PE X o ta) (rd : ClX.CRead X.K C mc) (c : SMet X.K C mc m p f) (F : FnOk X.prog X.w X.K X.mg X.base CX k f fd ps sp) (hr : Room k X.A) (hb : KBinds X.K fd ps ks g gV) (hx : Passes CX X E)
    (hkw : PK X kws tk) (hall : (backToKw pos (keywordEach kws X.env)).all (·.1.isSome) = true := by rfl) (hks : (backToKw pos (keywordEach kws X.env)).filterMap (·.1) = ks := by rfl)
    (hpl : ((backTo pos (starEach [] X.env)).any (·.1) || (backToKw pos (keywordEach kws X.env)).any (·.1.isNone)) = false := by rfl)
    (ht : eval (.Call (.Attribute o m apos) [] kws pos) X.env = (do
      let ov ← eval o X.env
      standAt apos.atName
      let (f, first) ← holding [ov] (getMethod ov m pl)
      callWith pos f first (backTo pos (starEach [] X.env)) (backToKw pos (keywordEach kws X.env))) := by rfl) :
    PE X (.Call (.Attribute o m apos) [] kws pos) (tSMethK C sp gV E ta tk) := by
  refine ⟨fun pins s σ H Q I h => ?_⟩
  refine PySem.W.methodCall_KW (pl := pl) (thn (he.run pins s σ H _ I h) fun u s1 ⟨x, H1, I1, rx, ex, q⟩ => ?_) ht
  subst ex
  obtain rfl : u = Value.ref C := rx
  refine getsm_ok I1 rd c fun s2 I2 => ?_
  refine PySem.W.callWith_KW0 (h₀ := X.base) I2.ok.mod.kin c.kp hall (thn (hkw.run pos pins s2 σ H1 _ I2 q) fun us s3 ⟨zs, H2, I3, rz, q2⟩ => ⟨I3.kIn, ?_⟩) hpl
  rw [hks]
  exact wpAny_call (run_fnkC (us := []) (vs := []) F hr hb hx I3 .nil rz q2)
end
/-- C(..), what it lets out told at the slots -/
def tMakeS (C : Addr) (sp : Sp) (E : L2.St → XK) (t : TA) : TE := fun σ H Q => t σ H fun vs H1 => ∀ x dx, H1 x = none → H1 dx = none → dx ≠ x → sp (.ref x :: vs) (upd (upd H1 dx (.own x)) x (.ins C dx [])) (fun v H2 => v = .non ∧ Q (.ref x) H2) (E σ)
section
variable {X : Cx} {CX : CXT} {k : Nat} {f C : Addr} {fd : FuncData} {ps : List Str} {sp : Sp} {E : L2.St → XK} {x : Str} {p pos : Pos} {e : Expr} {es : List Expr} {t : TA}
theorem pe_makeS (M : Mk X.K C f) (F : FnOk X.prog X.w X.K X.mg X.base CX k f fd ps sp) (hr : Room (k + 1) X.A) (hg : Gl X x) (hm : X.mg x = some (.ref C)) (hb : Binds X.K fd ps []) (hx : ∀ σ, PassesAt CX X σ (E σ))
    (ha : PA X (e :: es) t) (hdb : (x == ("__debug__" : Str)) = false := by decide) (he : starEach (e :: es) X.env = (false, eval e X.env) :: starEach es X.env := by rfl) (hpl : (backTo pos (starEach es X.env)).any (·.1) = false := by rfl) :
    PE X (.Call (.Name x p) (e :: es) [] pos) (tMakeS C sp E t) := by
  refine ⟨fun pins s σ H Q I h => ?_⟩
  refine wpAny_Call_Name_kw (ld_glob I hg hm ?_ hdb)
  refine PySem.W.callWith_K (h₀ := X.base) I.ok.mod.kin M.kp (thn (ha.run pos pins s σ H _ I h) fun us s1 ⟨vs, H1, I1, r, q⟩ => ⟨I1.kIn, ?_⟩) he hpl
  have n0 := I1.hok.fresh (Nat.le_refl _)
  have n1 := I1.hok.fresh (Nat.le_succ s1.heap.objs.size)
  have hq := q _ _ n1 n0 (Nat.ne_of_lt (Nat.lt_succ_self _))
  have J := Inv.made (C := C) I1
  have rr : Vals (V.ref (s1.heap.objs.size + 1) :: vs) (Value.ref (s1.heap.objs.size + 1) :: us) := .cons rfl r
  have hl : (Value.ref (s1.heap.objs.size + 1) :: us).length = ps.length := by
    rw [← rr.length]
    exact F.len _ _ _ _ hq
  have b := hb _ (Value.ref (s1.heap.objs.size + 1) :: us) J.kIn (by rw [List.append_nil]; exact hl)
  rw [List.append_nil] at b
  refine wpAny_call (make_map (f := f) I1.kIn M.makes M.init (beq_iff_eq.mp M.fn) (codeAny_mono (F.run _ X.stack _ _ ⟨Value.ref (s1.heap.objs.size + 1) :: us, []⟩ _ _ _ (E σ) (hr.make C us []) (J.env0.make C us []) b rr hq) fun r' s' hq' => ?_))
  match r', hq' with
  | .error er, hq' => exact hx σ pins _ _ er s' J hq'
  | .ok (.ret u), hq' =>
    obtain ⟨v, H', I3, rv, ev, q3⟩ := J.after hq'
    subst ev
    exact ⟨rv, ⟨V.ref (s1.heap.objs.size + 1), H', I3, rfl, q3⟩⟩
  | .ok .next, hq' => exact False.elim hq'
  | .ok .brk, hq' => exact False.elim hq'
  | .ok .cont, hq' => exact False.elim hq'
end
end Gd
set_option Elab.async false
set_option linter.all false
set_option maxRecDepth 100000
set_option maxHeartbeats 4000000
/-! C.m(..), m a classmethod, what it lets out told at the slots where it is called -/
namespace Gd
open PySem PySem.Spec PyProof.Rows L2
abbrev WEN (W : WX) : L2.St → XK := fun σ cls d H => W cls d σ H
theorem passNAt {X : Cx} {W : WX} (tk : L2N.Takes X W) (σ : L2.St) : PassesAt (L2N.CX X.prog X.w) X σ (WEN W σ) := fun _ _ _ e s' I c => tk e s' (L2N.XE.of_call I (fun _ _ _ h => h) c)
def tCMethS (C : Addr) (sp : Sp) (E : L2.St → XK) (ta : TE) (t : TA) : TE := fun σ H Q => ta σ H fun x H1 => x = .ref C ∧ t σ H1 fun vs H2 => sp (.ref C :: vs) H2 Q (E σ)
section
variable {X : Cx} {CX : CXT} {k : Nat} {C p g : Addr} {mc : Value} {fd : FuncData} {ps : List Str} {sp : Sp} {E : L2.St → XK} {o e : Expr} {es : List Expr} {m : Str} {pos apos : Pos} {ta : TE} {t : TA} {pl : Sem Bool}
theorem pe_cmethS (he : PE X o ta) (r : ClX.CRead X.K C mc) (c : ClX.CMet X.K C mc m p g) (F : FnOk X.prog X.w X.K X.mg X.base CX k g fd ps sp) (hr : Room k X.A) (hb : Binds X.K fd ps []) (hx : ∀ σ, PassesAt CX X σ (E σ)) (ha : PA X (e :: es) t)
    (hst : starEach (e :: es) X.env = (false, eval e X.env) :: starEach es X.env := by rfl) (hpl : (backTo pos (starEach es X.env)).any (·.1) = false := by rfl)
    (ht : eval (.Call (.Attribute o m apos) (e :: es) [] pos) X.env = (do
      let ov ← eval o X.env
      standAt apos.atName
      let (f, first) ← holding [ov] (getMethod ov m pl)
      callWith pos f first (backTo pos (starEach (e :: es) X.env)) (backToKw pos (keywordEach [] X.env))) := by rfl) :
    PE X (.Call (.Attribute o m apos) (e :: es) [] pos) (tCMethS C sp E ta t) := by
  refine ⟨fun pins s σ H Q I h => ?_⟩
  refine PySem.W.methodCall_KW (pl := pl) (thn (he.run pins s σ H _ I h) fun u s1 ⟨x, H1, I1, rx, ex, q⟩ => ?_) ht
  subst ex
  obtain rfl : u = Value.ref C := rx
  refine ClX.getmethcm_ok I1 r c fun s2 I2 => ?_
  refine ClX.callwith_cm I2 (ClX.base_none I1 (Nat.le_refl _)) c.fi (thn (ha.run pos _ s2 σ H1 _ I2 q) fun us s3 ⟨vs, H2, I3, rv, q2⟩ => ⟨⟨ClX.pin_at I3, I3.kIn⟩, ?_⟩) hst hpl
  have r2 : Vals (V.ref C :: vs) (Value.ref C :: us) := .cons rfl rv
  have hl : (Value.ref C :: us).length = ps.length := by rw [← r2.length]; exact F.len _ _ _ _ q2
  have b := hb s3 (Value.ref C :: us) I3.kIn (by rw [List.append_nil]; exact hl)
  rw [List.append_nil] at b
  have z : wpAny (model X.prog X.w) X.A (call (.ref s1.heap.objs.size) us) (EP X ((s1.heap.objs.size, PySem.W.methodObj (.ref g) (.ref C)) :: pins) σ Q) X.xe s3 :=
    wpAny_call (PySem.W.method_call (ClX.pin_at I3) (codeAny_mono (F.run X.A X.stack s3 H2 ⟨Value.ref C :: us, []⟩ _ _ Q (E σ) hr I3.env0 b r2 q2) fun r s' hq => by
      cases r with
      | error e => exact hx σ _ H2 s3 e s' I3 hq
      | ok fl =>
        cases fl with
        | ret u => exact I3.after hq
        | next => exact False.elim hq
        | brk => exact False.elim hq
        | cont => exact False.elim hq))
  exact thn z fun _ _ y => ClX.unpinE y
end
end Gd
set_option Elab.async false
set_option linter.all false
set_option maxRecDepth 100000
set_option maxHeartbeats 4000000
namespace Ks
open PySem PySem.Spec PyProof.Rows L2 Gd Kx
/-! ### schema_of_text, Schema.read -/
def goodB (ks : List Str) (rs : List Rw) : Bool := decide (1 ≤ ks.length ∧ ks.length ≤ 4 ∧ (∀ k ∈ ks, nmS k = true) ∧ ks.Nodup) && decide (1 ≤ rs.length ∧ rs.length ≤ 6 ∧ (∀ r ∈ rs, rwB ks r = true) ∧ (rs.map (·.1)).Nodup)
theorem goodB_iff {ks : List Str} {rs : List Rw} : goodB ks rs = true ↔ (KsOk ks ∧ RsOk ks rs) := by
  unfold goodB
  rw [Bool.and_eq_true, decide_eq_true_eq, decide_eq_true_eq]
  constructor
  · rintro ⟨⟨a, b, c, d⟩, e, f, g, h⟩
    exact ⟨⟨a, b, c, d⟩, ⟨e, f, fun r hr => rwB_ok (g r hr), h⟩⟩
  · rintro ⟨⟨a, b, c, d⟩, ⟨e, f, g, h⟩⟩
    exact ⟨⟨a, b, c, d⟩, e, f, fun r hr => rwB_of (g r hr), h⟩
/-- what a text tells: no schema, or one, some of whose kinds may have no tree -/
def txtM (z : Str) : Option Md := match partsT z with
  | some (ks, rs) => if goodB ks rs = true then some ⟨ks, rs⟩ else none
  | none => none
abbrev sSot : Stmt := Kx.topS 24
abbrev nSot : List Str := ["text", "kinds", "constructors"]
theorem scSot : FnScope nSot ["text"] (defScope sSot) := ⟨rfl, rfl, rfl, by decide +kernel, rfl, by decide +kernel, by decide +kernel⟩
theorem scSrd : FnScope ["text"] ["text"] (defScope (cS 1)) := ⟨rfl, rfl, rfl, by decide +kernel, rfl, by decide +kernel, by decide +kernel⟩
/-- no text -/
def NoStr (K : PySem.W.Frag) (H : Hp) (x : V) : Prop := ∃ ty, TyX K H x ty ∧ PySem.W.kitOne K ty (.type "str") = some false
section
variable {P : Program} {w : World} {K : PySem.W.Frag} {mg : Str → Option Value} {base : Heap} {C CK CC CE IT : Addr}
def spSot (K : PySem.W.Frag) (C CE IT : Addr) : Sp := fun vs H Q E => ∃ y, vs = [y] ∧ ((NoStr K H y ∧ ∀ d H', Same H H' → H' d = some (.xd [("value", y)]) → E (.ref IT) (some d) H') ∨
  ∃ z : Str, y = .str z ∧ z.length ≤ 100000 ∧ (∀ p ∈ cutS z "\n", p.length ≤ 900) ∧
    (txtM z = none → ∀ d H', Same H H' → H' d = some (.xd [("value", .str z)]) → E (.ref IT) (some d) H') ∧
    (∀ m, txtM z = some m → ∀ k, emp m.ks m.rs = some k → ∀ d H', Same H H' → H' d = some (.xd [("kind", .str k)]) → E (.ref CE) (some d) H') ∧
    (∀ m, txtM z = some m → emp m.ks m.rs = none → ∀ a H', Same H H' → ScAt C H' a m → Q (.ref a) H'))
set_option maxHeartbeats 8000000 in
theorem ok_sot {f fp fi : Addr} {fd fdp fdi : FuncData} (F : Fun K "schema_of_text" "schema_of_text" sSot f fd) (T : TS0 mg) (gS : mg "Schema" = some (.ref C))
    (O : One P w K mg base "InvalidText" "value" IT) (OH : OneH P w K mg base "InvalidText" "value" IT) (ty : PySem.W.typeIn K (.ref IT) = some (.type "type"))
    (gK : mg "InvalidKinds" = some (.ref CK)) (gC : mg "InvalidConstructors" = some (.ref CC)) (xK : PySem.W.exmAny K (.ref CK) [.ref CK, .ref CC] = some true) (xC : PySem.W.exmAny K (.ref CC) [.ref CK, .ref CC] = some true) (xE : PySem.W.exmAny K (.ref CE) [.ref CK, .ref CC] = some false)
    (GP : FnOk P w K mg base (CX P w) 3 fp fdp ["text"] (spPts IT)) (kp : PySem.W.keepIn K (.ref fp) = true) (bP : Binds K fdp ["text"] []) (gP : mg "_parts" = some (.ref fp))
    (M : Mk K C fi) (GI : FnOk P w K mg base (L2N.CX P w) 4 fi fdi ["self", "kinds", "constructors"] (spIniT C CK CC CE)) (bI : Binds K fdi ["self", "kinds", "constructors"] []) :
    FnOk P w K mg base (CX P w) 6 f fd ["text"] (spSot K C CE IT) := by
  refine F.okX scSot (fun vs H Q E h => ?_) (fun cv A ou s H vs Q E hr h => ?_)
  · obtain ⟨y, rfl, _⟩ := h
    rfl
  obtain ⟨y, rfl, h⟩ := h
  have hrr : ∀ n, n ≤ 5 → Room n (A.deeper (envOfC "schema_of_text" (defScope sSot) s.heap.objs.size f cv)) := fun n h => hr.mono h
  have hr2 := hrr 2 (by decide)
  have hr3 := hrr 3 (by decide)
  refine ⟨_, pss_cons (ps_if (pt_not (pt_val (pe_callB call_isi (by rfl) T.isi boot_isinstance (pa_cons (pv 0) (pa_cons (pe_bltn (v := .ty "str") (by rfl) T.str boot_str rfl) pa_nil))))) (pss_one (ps_raise rfl (takes_of rfl rfl rfl rfl) (pmk_one O ty hr2 (by rfl) (pv 0)))) pss_nil)
    (pss_cons (ps_asg (pe_call GP hr3 (by rfl) gP kp bP .nil (passes_call (takes_of rfl rfl rfl rfl) (fun _ _ _ _ h => h)) (pa_cons (pv 0) pa_nil)) (pg_tup (by rfl) (pgs_cons (pg_name (i := 1) scSot.nd rfl (.inl rfl)) (pgs_cons (pg_name (i := 2) scSot.nd rfl (.inl rfl)) pgs_nil))))
    (pss_one (ps_try2X (Wout := fun cls d _ H => E cls d H) rfl rfl (by rfl) gK (by rfl) gC (fun hd => L2H.passesAt_of rfl hd) (takes_of rfl rfl rfl rfl)
      (fun W pn xe tkN pas => pss_one (ps_ret (pe_makeS M GI hr (by rfl) gS bI (passNAt tkN) (pa_cons (pv 1) (pa_cons (pv 2) pa_nil)))))
      (fun a oe cls d pn hz hf tk hot => pss_one (L2H.ps_raiseHN hot tk (pmk5_one OH ty (L2H.roomH_mark hr2 _) ⟨_, List.mem_cons_self ..⟩ (by rfl) (pv 0))))))), ?_⟩
  rcases h with ⟨⟨ty', tx, ek⟩, qE⟩ | ⟨z, rfl, hz, hp9, qN, qE, qQ⟩
  · exact ⟨y, rfl, y, .ty "str", ty', _, false, rfl, .ty "str", tx, ek, _, rfl, iteT ⟨y, rfl, fun d H' s n e => qE d H' s e⟩⟩
  refine ⟨.str z, rfl, .str z, .ty "str", _, _, true, rfl, .ty "str", .base (.str z), kit_ty (by decide +kernel), _, rfl, iteF ?_⟩
  refine ⟨.str z, rfl, z, rfl, hz, hp9, fun ks rs ep T1 k c H1 s1 eT hk hc => ?_, fun en d H' s e => qN (by unfold txtM; rw [en]) d H' s e⟩
  have pb : PB (ks, rs) := prs_b (p := ([], [])) ⟨fun _ h => (List.not_mem_nil h).elim, ⟨fun _ h => (List.not_mem_nil h).elim, fun _ h => (List.not_mem_nil h).elim⟩⟩ hp9 ep
  refine ⟨T1, _, rfl, SqT.of eT, rfl, _, _, rfl, _, _, rfl, rfl, ?_⟩
  have tb : (KsOk ks ∧ RsOk ks rs → txtM z = some ⟨ks, rs⟩) ∧ (¬ (KsOk ks ∧ RsOk ks rs) → txtM z = none) := by
    unfold txtM
    rw [ep]
    exact ⟨fun h => if_pos (goodB_iff.mpr h), fun h => if_neg fun e => h (goodB_iff.mp e)⟩
  refine ⟨.ref k, rfl, .ref c, rfl, fun x dx nx ndx ne => ?_⟩
  have sx : Same H1 (upd (upd H1 dx (.own x)) x (.ins C dx [])) := (same_new ndx).trans (same_new (by rw [upd_ne (Ne.symm ne)]; exact nx))
  have rz : txtM z = none → ∀ H2, Same (upd (upd H1 dx (.own x)) x (.ins C dx [])) H2 → ∀ d H3, Same H2 H3 → H3 d = some (.xd [("value", .str z)]) → E (.ref IT) (some d) H3 := fun e H2 s2 d H3 s3 e3 => qN e d H3 (s1.trans (sx.trans (s2.trans s3))) e3
  refine ⟨x, dx, k, c, ks, rs, rfl, upd_same, sx _ _ hk, hc.keep sx, pb.k, pb.r, fun gk gr ee n H2 b2 nn i2 f2 => ⟨rfl, ?_⟩, fun nk d v H2 s2 e2 => ?_, fun gk nr d v H2 s2 e2 => ?_, fun gk gr k' ek d H2 s2 e2 => ?_⟩
  · have s12 : Same H1 H2 := fun b o e => b2 b o (ne_of_none e nx) (sx b o e)
    exact qQ _ (tb.1 ⟨gk, gr⟩) ee x H2 (s1.trans s12) ⟨dx, k, c, n, i2, s12 _ _ hk, hc.keep s12, f2⟩
  · refine ⟨true, xK, fun _ a0 na0 => ⟨.str z, rfl, fun d' H3 s3 n3 e3 => rz (tb.2 fun h => nk h.1) H2 s2 d' H3 s3 e3⟩, fun e => by cases e⟩
  · refine ⟨true, xC, fun _ a0 na0 => ⟨.str z, rfl, fun d' H3 s3 n3 e3 => rz (tb.2 fun h => nr h.2) H2 s2 d' H3 s3 e3⟩, fun e => by cases e⟩
  · refine ⟨false, xE, (fun e => by cases e), fun _ => qE _ (tb.1 ⟨gk, gr⟩) k' ek d H2 (s1.trans (sx.trans s2)) e2⟩
def spSrd (K : PySem.W.Frag) (C CE IT : Addr) : Sp := spSot K C CE IT
theorem ok_srd {f fs : Addr} {fd fds : FuncData} (F : Fun K "read" "Schema.read" (cS 1) f fd) (GS : FnOk P w K mg base (CX P w) 6 fs fds ["text"] (spSot K C CE IT)) (ks : PySem.W.keepIn K (.ref fs) = true) (bS : Binds K fds ["text"] []) (gS : mg "schema_of_text" = some (.ref fs)) :
    FnOk P w K mg base (CX P w) 7 f fd ["text"] (spSot K C CE IT) := by
  refine F.okX scSrd (fun vs H Q E h => ?_) (fun cv A ou s H vs Q E hr h => ?_)
  · obtain ⟨y, rfl, _⟩ := h
    rfl
  obtain ⟨y, rfl, _⟩ := id h
  refine ⟨_, pss_one (ps_ret (pe_call GS hr (by rfl) gS ks bS .nil (passes_call (takes_of rfl rfl rfl rfl) (fun _ _ _ _ h => h)) (pa_cons (pv 0) pa_nil))), ?_⟩
  exact ⟨y, rfl, h⟩
end
end Ks
set_option Elab.async false
set_option linter.all false
set_option maxRecDepth 100000
set_option maxHeartbeats 4000000
namespace Ks
open PySem PySem.Spec PyProof.Rows L2 Gd Kx
/-! ### the text of a schema -/
def kdT (k : Str) : Str := Str.ofString "kind " ++ k
def wdsT (r : Rw) : List Str := Str.ofString "make" :: r.1 :: r.2.1 :: r.2.2
def mkT (r : Rw) : Str := Txt.join (Str.ofString " ") (wdsT r)
def linT (m : Md) : List Str := m.ks.map kdT ++ m.rs.map mkT
def mdT (m : Md) : Str := Txt.join (Str.ofString "\n") (linT m)
structure GoodN (m : Md) : Prop where
  k : KsOk m.ks
  r : RsOk m.ks m.rs
theorem Good.gn {m : Md} (g : Good m) : GoodN m := ⟨⟨g.k1, g.k4, g.kn, g.kd⟩, ⟨g.r1, g.r6, fun r hr => g.row hr, g.rd⟩⟩
theorem sum_le {c : Nat} : ∀ {l : List Str}, (∀ z ∈ l, z.length ≤ c) → (l.map (·.length)).sum ≤ l.length * c
  | [], _ => Nat.zero_le _
  | z :: r, h => by
    have a := h z (List.mem_cons_self ..)
    have b := sum_le (l := r) fun x hx => h x (List.mem_cons_of_mem _ hx)
    rw [List.map_cons, List.sum_cons, List.length_cons, Nat.add_mul, Nat.one_mul]
    omega
theorem GoodN.kl {m : Md} (g : GoodN m) {k : Str} (h : k ∈ m.ks) : k.length ≤ 8 := (nm_len (g.k.kn k h)).2
theorem wds_le {m : Md} (g : GoodN m) {r : Rw} (hr : r ∈ m.rs) : ∀ z ∈ wdsT r, z.length ≤ 8 := by
  have o := g.r.ok r hr
  intro z hz
  rcases List.mem_cons.mp hz with rfl | hz
  · decide +kernel
  rcases List.mem_cons.mp hz with rfl | hz
  · exact (nm_len o.n).2
  rcases List.mem_cons.mp hz with rfl | hz
  · exact g.kl o.k
  · exact g.kl (o.f z hz)
theorem wds_n {m : Md} (g : GoodN m) {r : Rw} (hr : r ∈ m.rs) : (wdsT r).length ≤ 6 := by
  have := (g.r.ok r hr).l
  show r.2.2.length + 1 + 1 + 1 ≤ 6
  omega
theorem tjoin_le (a : Str) (l : List Str) {c n k : Nat} (h : ∀ z ∈ l, z.length ≤ c) (hn : l.length ≤ n) (ha : a.length ≤ k) : (Txt.join a l).length ≤ n * c + n * k := by
  rw [TL.join_eq]
  have x := StrLaws.join_length_le a l
  have y := sum_le h
  have z : l.length * c ≤ n * c := Nat.mul_le_mul_right _ hn
  have u : (l.length - 1) * a.length ≤ n * k := Nat.mul_le_mul (by omega) ha
  have v : l.length * a.length ≤ n * k := Nat.mul_le_mul hn ha
  omega
theorem mk_le {m : Md} (g : GoodN m) {r : Rw} (hr : r ∈ m.rs) : (mkT r).length ≤ 60 := by
  have := tjoin_le (Str.ofString " ") (wdsT r) (c := 8) (n := 6) (k := 1) (wds_le g hr) (wds_n g hr) (by decide +kernel)
  exact Nat.le_trans this (by decide)
theorem kd_le {m : Md} (g : GoodN m) {k : Str} (h : k ∈ m.ks) : (kdT k).length ≤ 13 := by
  have a := g.kl h
  have b : (Str.ofString "kind ").length = 5 := by decide +kernel
  have c : (kdT k).length = (Str.ofString "kind ").length + k.length := Str.length_append _ _
  omega
theorem lin_le {m : Md} (g : GoodN m) : ∀ z ∈ linT m, z.length ≤ 60 := by
  intro z hz
  rcases List.mem_append.mp hz with h | h
  · obtain ⟨k, hk, rfl⟩ := List.mem_map.mp h
    have := kd_le g hk
    omega
  · obtain ⟨r, hr, rfl⟩ := List.mem_map.mp h
    exact mk_le g hr
theorem lin_n {m : Md} (g : GoodN m) : (linT m).length ≤ 10 := by
  unfold linT
  have := g.k.k4
  have := g.r.r6
  rw [List.length_append, List.length_map, List.length_map]
  omega
theorem md_le {m : Md} (g : GoodN m) : (mdT m).length ≤ 610 := by
  have := tjoin_le (Str.ofString "\n") (linT m) (c := 60) (n := 10) (k := 1) (lin_le g) (lin_n g) (by decide +kernel)
  exact Nat.le_trans this (by decide)
abbrev nStM : List Str := ["self", "kinds", "makes", "kind", "name", "fields"]
theorem scStM : FnScope nStM ["self"] (defScope (cS 9)) := ⟨rfl, rfl, rfl, by decide +kernel, rfl, by decide +kernel, by decide +kernel⟩
section
variable {P : Program} {w : World} {K : PySem.W.Frag} {mg : Str → Option Value} {base : Heap} {C : Addr}
abbrev rJoin (K : PySem.W.Frag) : V → List V → Hp → VK → Prop := fun x xs H Q => ∃ a p, ∃ ys : List Str, x = .str a ∧ xs = [.ref p] ∧ (SqL K H p (ys.map V.str) ∨ SqT K H p (ys.map V.str)) ∧ (ys.map (·.length)).sum + ys.length * a.length ≤ 16777216 ∧ Q (.str (Txt.join a ys)) H
def spStM (C : Addr) : Sp := fun vs H Q _ => ∃ (a : Addr) (m : Md), vs = [.ref a] ∧ ScAt C H a m ∧ GoodN m ∧ ∀ H' : Hp, Same H H' → Q (.str (mdT m)) H'
set_option maxHeartbeats 8000000 in
theorem ok_stM {f : Addr} {fd : FuncData} (F : Fun K "__str__" "Schema.__str__" (cS 9) f fd) (Z : SCl K C) : FnOk P w K mg base CX0 1 f fd ["self"] (spStM C) := by
  refine F.ok scStM (fun vs H Q E h => ?_) (fun cv A ou s H vs Q E hr h => ?_)
  · obtain ⟨a, m, rfl, _⟩ := h
    rfl
  obtain ⟨a, m, rfl, ha, g, q⟩ := h
  refine ⟨_, pss_cons (ps_setLc (i := 1) (own := [("kind", 3)]) (g := gName 3) (tt := tYes) (by rfl) scStM.nd rfl rfl (sw_true rfl rfl rfl (by decide +kernel)) (pi_tup (pe_fld (pv 0) rfl)) (blkOk_by (own := [("kind", 3)]) (N := nStM) (sc := defScope (cS 9)) (by decide +kernel))
      (fun _ _ _ _ _ => pg_name (i := 3) scStM.nd rfl (Or.inl rfl)) (fun _ _ _ _ _ => pts_nil) (fun _ _ _ _ _ => pe_joined (.cons pe_str (.cons (pe_fmt (pv 3)) .nil))))
    (pss_cons (ps_setLc (i := 2) (own := [("name", 4), ("kind", 3), ("fields", 5)]) (g := gTup K 3 (gCons (gName 4) (gCons (gName 3) (gCons (gName 5) gNil)))) (tt := tYes) (by rfl) scStM.nd rfl rfl (sw_true rfl rfl rfl (by decide +kernel)) (pi_tup (pe_fld (pv 0) rfl)) (blkOk_by (own := [("name", 4), ("kind", 3), ("fields", 5)]) (N := nStM) (sc := defScope (cS 9)) (by decide +kernel))
      (fun _ _ _ _ _ => pg_tup (by rfl) (pgs_cons (pg_name (i := 4) scStM.nd rfl (Or.inl rfl)) (pgs_cons (pg_name (i := 3) scStM.nd rfl (Or.inl rfl)) (pgs_cons (pg_name (i := 5) scStM.nd rfl (Or.inl rfl)) pgs_nil)))) (fun _ _ _ _ _ => pts_nil)
      (fun _ _ _ _ _ => asTE (te := tM1 (rJoin K) (tC (.str " ")) (tLst (tCons (tC (.str "make")) (tCons (tVar 4) (tCons (tVar 3) (StX.tStar K (tVar 5) tNil)))))) (pe_join pe_str (pe_lst (pa_cons pe_str (pa_cons (pv 4) (pa_cons (pv 3) (StX.pa_star (pv 5) pa_nil)))))) rfl))
    (pss_one (ps_ret (pe_join pe_str (pe_lst (StX.pa_star (pv 1) (StX.pa_star (pv 2) pa_nil))))))), ?_⟩
  obtain ⟨dx, k, c, n, ⟨dp, ea, edp⟩, hk, hc, fz⟩ := ha
  obtain ⟨xs, hc1, pc⟩ := id hc
  have lx : xs.length = m.rs.length := Paired.length pc
  have k4 := g.k.k4
  have r6 := g.r.r6
  have sz := sizeLine_eq
  have l0 : Str.empty.length = 0 := rfl
  have l5 : (Str.ofString "kind ").length = 5 := by decide +kernel
  have l1 : (Str.ofString " ").length = 1 := by decide +kernel
  have ln1 : (Str.ofString "\n").length = 1 := by decide +kernel
  have hk' : H k = some (.tup (m.ks.map V.str)) := hk
  refine ⟨.ref a, rfl, a, C, dx, _, _, rfl, ea, Z.cls, Z.nk, scF_k, k, rfl, ⟨_, SqT.of hk'⟩, fun D nD => lc_funT (K := K) (te := fun σ H Q => tJs [tC (.str (Str.ofString "kind ")), tFmt (tVar 3)] Str.empty σ H fun out H1 => Q (.str out) H1) (j := 3) (vs := [3]) (a := k) (xs := m.ks.map V.str) (ys := (m.ks.map kdT).map V.str) (fun _ => rfl) nD (SqT.of hk') (by rw [List.length_map]; omega) (by rw [List.length_map, List.length_map, List.length_map]) (fun i x y H1 hx hy s1 q => ?_) fun H1 s1 eD => ?_⟩
  · intro kk
    rw [List.getElem?_map] at hx hy
    rw [List.getElem?_map] at hy
    cases ek : m.ks[i]? with
    | none => rw [ek] at hx; cases hx
    | some z =>
      rw [ek] at hx hy
      cases hx
      cases hy
      have := g.kl (List.mem_of_getElem? ek)
      have e1 := Str.length_append Str.empty (Str.ofString "kind ")
      have e2 := Str.length_append (Str.empty ++ Str.ofString "kind ") z
      have e3 : (Str.empty ++ Str.ofString "kind ") ++ z = kdT z := by unfold kdT; rw [Str.empty_append]
      refine ⟨_, rfl, by omega, .str z, rfl, .inl ⟨z, rfl, by omega, z, rfl, by omega, ?_⟩⟩
      rw [e3]
      exact kk H1 fun _ _ e => e
  · have ea1 := s1 _ _ ea
    have hc2 := hc1.keep s1
    refine ⟨.ref a, rfl, a, C, dx, _, _, rfl, ea1, Z.cls, Z.nc, scF_c, c, rfl, ⟨_, hc2.sq⟩, fun D2 nD2 => lc_tup (K := K) (a := c) (xs := xs) (fun i H' => i ≤ xs.length ∧ Same H1 H' ∧ H' D2 = some (.lst (((m.rs.take i).map mkT).map V.str))) ⟨Nat.zero_le _, same_new nD2, upd_same⟩ (fun i H' _ p => (hc2.keep p.2.1).sq) (fun i x H' hx p => ?_) fun H' p => ?_⟩
    · obtain ⟨hi, s4, eD2⟩ := p
      obtain ⟨r, hr2, b, fa, rfl, hb, hf⟩ := rows_at pc hx
      have hlt : i < xs.length := (List.getElem?_eq_some_iff.mp hx).1
      have hrm := List.mem_of_getElem? hr2
      have s14 := s1.trans s4
      have hf4 : H' fa = some (.tup (r.2.2.map V.str)) := s14 _ _ hf
      refine ⟨b, _, rfl, SqT.of (s14 _ _ hb), rfl, _, _, rfl, _, _, rfl, _, _, rfl, rfl, rfl, Gd.yes_if ⟨⟨_, rfl⟩, .str r.1, rfl, .str r.2.1, rfl, .ref fa, rfl, fa, _, rfl, .inl (SqT.of hf4), ?_, fun L nL => ?_⟩⟩
      · have := (g.r.ok r hrm).l
        show ((r.2.2.map V.str) ++ ([] : List V)).length + 1 + 1 + 1 ≤ sizeLine
        rw [List.append_nil, List.length_map]
        omega
      · have es : (r.2.2.map V.str) ++ ([] : List V) = r.2.2.map V.str := List.append_nil _
        have sL := same_new (o := .lst (V.str (Str.ofString "make") :: V.str r.1 :: V.str r.2.1 :: ((r.2.2.map V.str) ++ []))) nL
        refine ⟨_, L, wdsT r, rfl, rfl, .inl (SqL.of (by rw [upd_same, es]; rfl)), ?_, _, sL _ _ eD2, ?_, hlt, ?_, ?_⟩
        · have u := sum_le (wds_le g hrm)
          have v := wds_n g hrm
          rw [l1]
          omega
        · rw [List.length_map, List.length_map, List.length_take]
          exact Nat.lt_of_le_of_lt (Nat.min_le_left _ _) (by omega)
        · intro x o e
          rw [upd_ne (ne_of_none e nD2)]
          exact (s4.trans sL) _ _ e
        · rw [upd_same, List.take_add_one, hr2, Option.toList_some, List.map_append, List.map_append]
          rfl
    · obtain ⟨_, s4, eD2⟩ := p
      rw [lx, List.take_length] at eD2
      have eD4 := s4 _ _ eD
      refine ⟨⟨_, rfl⟩, .ref D, rfl, D, _, rfl, .inr (SqL.of eD4), .ref D2, rfl, D2, _, rfl, .inr (SqL.of eD2), ?_, fun L nL => ?_⟩
      · have := lin_n g
        rw [List.length_append, List.length_append, List.length_map, List.length_map, List.length_map, List.length_map, List.length_nil]
        omega
      · have es : (m.ks.map kdT).map V.str ++ ((m.rs.map mkT).map V.str ++ ([] : List V)) = (linT m).map V.str := by rw [List.append_nil, ← List.map_append]; rfl
        have sL := same_new (o := .lst ((m.ks.map kdT).map V.str ++ ((m.rs.map mkT).map V.str ++ ([] : List V)))) nL
        refine ⟨_, L, linT m, rfl, rfl, .inl (SqL.of (by rw [upd_same, es])), ?_, q _ (s1.trans (s4.trans sL))⟩
        have u := sum_le (lin_le g)
        have v := lin_n g
        rw [ln1]
        omega
end
end Ks
set_option Elab.async false
set_option linter.all false
set_option maxRecDepth 100000
set_option maxHeartbeats 4000000
namespace Ks
open PySem PySem.Spec PyProof.Rows L2 Gd Kx
/-! ### one comparison with two readings -/
theorem op_or2 {X : Cx} {f : Value → Value → Sem Value} {r1 r2 : R2} (h1 : OpR X f r1) (h2 : OpR X f r2) : OpR X f (fun x y H Q => r1 x y H Q ∨ r2 x y H Q) := by
  intro pins s σ H x y v u Q I rx ry h
  rcases h with h | h
  · exact h1 pins s σ H x y v u Q I rx ry h
  · exact h2 pins s σ H x y v u Q I rx ry h
section
variable {H H' : Hp}
theorem ScAt.nl {C a : Addr} {m : Md} (h : ScAt C H a m) (s : Nl H H') : ScAt C H' a m := by
  obtain ⟨dx, k, c, n, ⟨dp, e, edp⟩, h1, ⟨xs, h2, hp⟩, o, h3, h4⟩ := h
  exact ⟨dx, k, c, n, ⟨dp, s _ _ (fun _ z => by cases z) e, s _ _ (fun _ z => by cases z) edp⟩, s _ _ (fun _ z => by cases z) h1, ⟨xs, h2.by (fun o n _ e => s _ _ n e), Paired.mapP hp fun _ _ z => RowV.tk z s.tk⟩, o, s _ _ (fun _ z => by cases z) h3, h4⟩
end
theorem mk_baseT {C x dx : Addr} {H : Hp} (nx : H x = none) (nd : H dx = none) : Same H (upd (upd H dx (.own x)) x (.ins C dx [])) := fun b o e => by
  rw [upd_ne (ne_of_none e nx), upd_ne (ne_of_none e nd)]
  exact e
theorem mk_sameT {C x dx : Addr} {H H' : Hp} (nx : H x = none) (nd : H dx = none) (h : But x (upd (upd H dx (.own x)) x (.ins C dx [])) H') : Same H H' := fun b o e => h b o (ne_of_none e nx) (mk_baseT nx nd _ _ e)
end Ks
set_option Elab.async false
set_option linter.all false
set_option maxRecDepth 100000
set_option maxHeartbeats 4000000
namespace Ks
open PySem PySem.Spec PyProof.Rows L2 Gd Kx LamX
/-! ### tables of code change, all else stays -/
def SbN (p : Addr) (H H' : Hp) : Prop := ∀ b o, b ≠ p → (∀ ps : Array Value, o ≠ .tbl ps) → H b = some o → H' b = some o
theorem SbN.refl {p : Addr} {H : Hp} : SbN p H H := fun _ _ _ _ e => e
theorem SbN.trans {p : Addr} {H H1 H2 : Hp} (h : SbN p H H1) (h2 : SbN p H1 H2) : SbN p H H2 := fun b o n t e => h2 b o n t (h b o n t e)
theorem SbN.sb {p : Addr} {H H1 : Hp} (h : Sb p H H1) : SbN p H H1 := fun b o n _ e => h b o n e
theorem SbN.same {p : Addr} {H H1 : Hp} (h : Same H H1) : SbN p H H1 := fun b o _ _ e => h b o e
theorem SbN.ext {p : Addr} {H H1 : Hp} (h : ExtN H H1) : SbN p H H1 := fun b o _ t e => h b o e t
theorem tabs_sb {T : List (Addr × Str)} {p : Addr} {H H' : Hp} (t : Tabs T H) (D : DealAt H p) (s : Sb p H H') : Tabs T H' := by
  intro x hx
  obtain ⟨ps, e1, e2, e3⟩ := t x hx
  obtain ⟨_, _, _, ep, _⟩ := D
  refine ⟨ps, s _ _ (fun z => by rw [z, ep] at e1; cases e1) e1, e2, fun pos cv h => ?_⟩
  obtain ⟨c, ec, e4⟩ := e3 pos cv h
  exact ⟨c, ec, s _ _ (fun z => by rw [z, ep] at e4; cases e4) e4⟩
theorem tabs_upd {T : List (Addr × Str)} {H : Hp} {D : Addr} {xs : List V} {o : HO} (t : Tabs T H) (e : H D = some (.lst xs)) : Tabs T (upd H D o) := by
  intro x hx
  obtain ⟨ps, e1, e2, e3⟩ := t x hx
  refine ⟨ps, ?_, e2, fun pos cv h => ?_⟩
  · rw [upd_ne (fun z => by rw [z, e] at e1; cases e1)]
    exact e1
  · obtain ⟨c, ec, e4⟩ := e3 pos cv h
    refine ⟨c, ec, ?_⟩
    rw [upd_ne (fun z => by rw [z, e] at e4; cases e4)]
    exact e4
theorem deal_ext {p : Addr} {H H' : Hp} (D : DealAt H p) (e : ExtN H H') : DealAt H' p := by
  obtain ⟨x, y, c, ep, l⟩ := D
  exact ⟨x, y, c, e _ _ ep (fun _ z => by cases z), l⟩
theorem seq_ext {K : PySem.W.Frag} {a : Addr} {H H' : Hp} {xs : List V} (h : SqL K H a xs) (e : ExtN H H') : SqL K H' a xs := by
  rcases h with (h | ⟨o, h⟩) | h
  · exact .inl (.inl (e _ _ h fun _ z => by cases z))
  · exact .inl (.inr ⟨o, e _ _ h fun _ z => by cases z⟩)
  · exact .inr h
/-- nothing stands there but a table -/
def Fr (G : Hp) (a : Addr) : Prop := ∀ o, G a = some o → ∃ ps, o = .tbl ps
theorem fr_of {G H : Hp} {a : Addr} (x : ExtN G H) (n : H a = none) : Fr G a := fun o e => by
  cases o with
  | tbl ps => exact ⟨ps, rfl⟩
  | _ =>
    have := x _ _ e (fun _ z => by cases z)
    rw [n] at this
    cases this
theorem ext_updT {G H : Hp} {a : Addr} {o : HO} (x : ExtN G H) (f : Fr G a) : ExtN G (upd H a o) := fun b o' e t => by
  by_cases h : b = a
  · subst h
    obtain ⟨ps, rfl⟩ := f o' e
    exact absurd rfl (t ps)
  · rw [upd_ne h]
    exact x _ _ e t
theorem ext_same {H H1 H2 : Hp} (e : ExtN H H1) (s : Same H1 H2) : ExtN H H2 := e.trans (.of s)
/-- all but lists and tables stands -/
def Nt (H H' : Hp) : Prop := ∀ b o, (∀ zs, o ≠ HO.lst zs) → (∀ ps, o ≠ HO.tbl ps) → H b = some o → H' b = some o
section
variable {H H' H'' : Hp} {a : Addr} {m : Md} {rs : List Rw}
theorem Nt.of (s : Same H H') : Nt H H' := fun b o _ _ e => s b o e
theorem Nt.nl (s : Nl H H') : Nt H H' := fun b o n _ e => s b o n e
theorem Nt.ext (s : ExtN H H') : Nt H H' := fun b o _ t e => s b o e t
theorem Nt.trans (s : Nt H H') (t : Nt H' H'') : Nt H H'' := fun b o n k e => t b o n k (s b o n k e)
theorem Nt.tk (s : Nt H H') : Tk H H' := fun b ys e => s _ _ (fun _ z => by cases z) (fun _ z => by cases z) e
theorem TupA.nt {xs : List V} (h : TupA H a xs) (s : Nt H H') : TupA H' a xs := by
  rcases h with h | ⟨o, h, q⟩
  · exact .inl (s.tk _ _ h)
  · exact .inr ⟨o, s _ _ (fun _ z => by cases z) (fun _ z => by cases z) h, q⟩
theorem RowsT.nt (h : RowsT H a rs) (s : Nt H H') : RowsT H' a rs := by
  obtain ⟨xs, e, p⟩ := h
  exact ⟨xs, e.nt s, Paired.mapP p fun _ _ z => RowV.tk z s.tk⟩
theorem MdAt.nt (h : MdAt H a m) (s : Nt H H') : MdAt H' a m := by
  obtain ⟨k, r, e, h1, h2⟩ := h
  exact ⟨k, r, s.tk _ _ e, h1.tk s.tk, h2.nt s⟩
theorem ScAt.nt {C : Addr} (h : ScAt C H a m) (s : Nt H H') : ScAt C H' a m := by
  obtain ⟨dx, k, c, n, ⟨dp, e, edp⟩, h1, h2, o, h3, h4⟩ := h
  exact ⟨dx, k, c, n, ⟨dp, s _ _ (fun _ z => by cases z) (fun _ z => by cases z) e, s _ _ (fun _ z => by cases z) (fun _ z => by cases z) edp⟩, h1.tk s.tk, h2.nt s, o, s _ _ (fun _ z => by cases z) (fun _ z => by cases z) h3, h4⟩
end
end Ks
set_option Elab.async false
set_option linter.all false
set_option maxRecDepth 100000
set_option maxHeartbeats 4000000
/-! a law's end with tables of code objects, over promises that hold while no repr is under way -/
namespace Gd
open PySem PySem.Spec PyProof.Rows L2 LamX
theorem law_goT {P : Program} {w : World} {K : PySem.W.Frag} {mg mb : Str → Option Value} {k : Nat} {fa a : Addr} {cs : List (Addr × Addr)} {fd : FuncData} {x : Str} {sp : Sp} {s1 : Shared} {vs : List Value} {ns : List Int}
    (KX : K.In s1.heap) (hm : s1.heap.Ns mainGlobals mg) (hb : s1.heap.Ns builtinsNs mb) (hbb : ∀ x : Str, x ≠ "__name__" → mb x = bootBuiltins x) (hlim : s1.heap.NoLimit) (hg : s1.gens = #[])
    (ct : ∀ p ∈ cs, s1.heap.get? p.2 = some { cls := .none, data := .fields #[] }) (cK : ∀ p ∈ cs, K.lookup p.2 = none) (cd : ∀ p ∈ cs, PySem.W.CodeHd s1.heap p.1 p.2)
    (bi : ∃ bm ob, mg "__builtins__" = some (.ref bm) ∧ bm ≠ builtinsNs ∧ s1.heap.get? bm = some ob ∧ ob.cls = .type "module" ∧ ob.dict = some builtinsNs ∧ ob.data = .plain)
    (ha : s1.heap.get? a = some { cls := .type "list", data := .seq vs.toArray }) (hi : IntsAre vs ns) (hl : ns.length ≤ sizeLine) (hR : Room k callerA)
    (F : ∀ base : Heap, K.In base → base.Ns mainGlobals mg → (∀ p ∈ cs, TabB base mg p.1 p.2) → Pr P w K mg base CX0 k fa fd [x] sp) (hbind : ∀ (s : Shared) (u : Value), BindsTo s fd ⟨[u], []⟩ [(x, u)])
    (hsp : ∀ H : Hp, (∀ p ∈ cs, H p.2 = some (.tbl #[])) → SqL K H a (ns.map V.int) → sp [.ref a] H (fun v _ => v = .bl true) fun _ _ _ => False) :
    codeAny (model P w) callerA (.call (.ref fa) ⟨[.ref a], []⟩) (fun r s' => r = .ok (.ret (.bool true)) ∧ OldK s1.heap s'.heap ∧ s'.os = s1.os ∧ AllBare s'.gens) s1 := by
  have rv := vals_ints hi
  have main : ∀ H : Hp, (∀ b, H b = none ∨ (b = a ∧ ∃ ob xs, H b = some (.frz ob (.lst xs))) ∨ ((∃ p ∈ cs, b = p.2) ∧ H b = some (.tbl #[]))) → (∀ p ∈ cs, H p.2 = some (.tbl #[])) → SqL K H a (ns.map V.int) → HOk P w H s1.heap → (H a ≠ none → K.lookup a = none) →
      codeAny (model P w) callerA (.call (.ref fa) ⟨[.ref a], []⟩) (fun r s' => r = .ok (.ret (.bool true)) ∧ OldK s1.heap s'.heap ∧ s'.os = s1.os ∧ AllBare s'.gens) s1 := by
    intro H hO hT hS hok ok
    have none_of : ∀ {b : Addr} {o : Obj}, s1.heap.get? b = some o → o.data ≠ .seq vs.toArray 0 → o.data ≠ .fields #[] → H b = none := by
      intro b o e n1 n2
      rcases hO b with z | ⟨rfl, _⟩ | ⟨⟨p, hp, rfl⟩, _⟩
      · exact z
      · rw [ha] at e
        cases e
        exact absurd rfl n1
      · rw [ct p hp] at e
        cases e
        exact absurd rfl n2
    have stay : ∀ {b : Addr} {o : Obj}, s1.heap.get? b = some o → H b = none → (hidT s1.heap H).get? b = some o := fun e n => hidT_get e n
    have ns_of : ∀ {b : Addr} {m : Str → Option Value}, s1.heap.Ns b m → (hidT s1.heap H).Ns b m := by
      rintro b m ⟨o, es, ep, e, d, r⟩
      exact ⟨o, es, ep, stay e (none_of e (by rw [d]; intro z; cases z) (by rw [d]; intro z; cases z)), d, r⟩
    have inK : K.In (hidT s1.heap H) := by
      intro b o e
      refine stay (KX b o e) ?_
      rcases hO b with z | ⟨rfl, z⟩ | ⟨⟨p, hp, rfl⟩, _⟩
      · exact z
      · obtain ⟨ob, xs, z⟩ := z
        rw [ok (by rw [z]; simp)] at e
        cases e
      · rw [cK p hp] at e
        cases e
    have tb : ∀ p ∈ cs, TabB (hidT s1.heap H) mg p.1 p.2 := by
      intro p hp
      obtain ⟨o, xs, file, tf, flags, tg, inF, text, tt, e1, e2, e3, e4, r⟩ := cd p hp
      have n2 : xs ≠ #[] := fun z => by rw [z] at e4; cases e4
      have gne : mainGlobals ≠ p.2 := fun z => by
        obtain ⟨o', es, ep, e, d, _⟩ := hm
        rw [z, ct p hp] at e
        cases e
        cases d
      refine ⟨⟨o, xs, file, tf, flags, tg, inF, text, tt, stay e1 (none_of e1 (by rw [e3]; intro z; cases z) (by rw [e3]; intro z; injection z with z; exact n2 z)), e2, e3, e4, r⟩, ?_, gne⟩
      obtain ⟨bm, ob, b1, b2, b3, b4, b5, b6⟩ := bi
      refine ⟨bm, ob, b1, b2, ?_, ?_, stay b3 (none_of b3 (by rw [b6]; intro z; cases z) (by rw [b6]; intro z; cases z)), b4, b5, b6⟩
      · rintro rfl
        obtain ⟨o', es, ep, e, d, _⟩ := hm
        rw [b3] at e
        cases e
        rw [b6] at d
        cases d
      · rintro rfl
        rw [ct p hp] at b3
        cases b3
        cases b6
    obtain ⟨mc, l1, l2⟩ := hlim
    have hM : Mod K mg (hidT s1.heap H) := ⟨inK, ns_of hm, ⟨mb, ns_of hb, hbb⟩, ⟨mc, ns_of l1, l2⟩⟩
    have e0 : Env0 P w K mg (hidT s1.heap H) callerA [] s1 H :=
      ⟨rfl, hM, fun b o e => of_hidT e, Nat.le_of_eq (hidT_size _ _), trivial, fun b z => by simp [frs] at z, hok, .of_eq hg⟩
    refine codeAny_mono ((F _ inK (ns_of hm) tb).go callerA [] s1 H ⟨[.ref a], []⟩ [.ref a] [.ref a] _ _ rfl hR e0 (hbind s1 (.ref a)) (.cons rfl .nil) (hsp H hT hS)) fun r s2 h => ?_
    match r, h with
    | .error e, h => exact False.elim h
    | .ok .next, h => exact False.elim h
    | .ok .brk, h => exact False.elim h
    | .ok .cont, h => exact False.elim h
    | .ok (.ret u), ⟨v, H', os, bare, un, hok', r', q⟩ =>
      have q' : v = .bl true := q
      subst q'
      have r2 : u = Value.bool true := r'
      subst r2
      refine ⟨rfl, ⟨fun b o e => ?_, fun b o e => ?_⟩, os, bare⟩
      · rcases hO b with z | ⟨rfl, ob, xs, z⟩ | ⟨⟨p, hp, rfl⟩, z⟩
        · exact .inl (un.keep b o e z (by simp [frs]) (by simp))
        · have z2 := un.frzs b ob _ z
          have g1 := (hok b _ z).1
          have g2 := (hok' b _ z2).1
          rw [e] at g1
          cases g1
          exact .inl g2
        · obtain ⟨more, z2⟩ := un.tbls _ _ z
          obtain ⟨oc, xs, _, _, _, _, _, _, _, e1, e2, e3, e4, _⟩ := cd p hp
          rw [ct p hp] at e
          cases e
          refine .inr (.inl ⟨⟨p.1, oc, xs, e1, e2, e3, e4⟩, rfl, #[], more, rfl, ?_⟩)
          have := hok' p.2 _ z2
          exact this
      · exact un.there b o e (by simp)
  have cta : ∀ p ∈ cs, p.2 ≠ a := fun p hp z => by
    have := ct p hp
    rw [z, ha] at this
    cases this
  cases hk : K.lookup a with
  | some o =>
    have e := KX a o hk
    rw [ha] at e
    cases e
    refine main (fun b => if b ∈ cs.map (·.2) then some (.tbl #[]) else none) (fun b => ?_) (fun p hp => if_pos (List.mem_map.mpr ⟨p, hp, rfl⟩)) (.inr ⟨_, vs.toArray, _, hk, rfl, rfl, rfl, by rw [List.size_toArray, hi.length]; exact hl, by simpa using rv⟩) (fun b u z => ?_) (fun z => absurd (if_neg fun h => by obtain ⟨p, hp, e⟩ := List.mem_map.mp h; exact cta p hp e) z)
    · by_cases hb : b ∈ cs.map (·.2)
      · obtain ⟨p, hp, e⟩ := List.mem_map.mp hb
        exact .inr (.inr ⟨⟨p, hp, e.symm⟩, if_pos hb⟩)
      · exact .inl (if_neg hb)
    · by_cases hb : b ∈ cs.map (·.2)
      · cases (if_pos hb).symm.trans z
        obtain ⟨p, hp, rfl⟩ := List.mem_map.mp hb
        exact ct p hp
      · cases (if_neg hb).symm.trans z
  | none =>
    have nta : ∀ {b}, b = a → ¬ b ∈ cs.map (·.2) := fun e h => by
      obtain ⟨p, hp, z⟩ := List.mem_map.mp h
      exact cta p hp (z.trans e)
    have at_ : (fun b => if b = a then some (HO.frz { cls := .type "list", data := .seq vs.toArray } (.lst (ns.map V.int))) else if b ∈ cs.map (·.2) then some (.tbl #[]) else none) a = some (HO.frz { cls := .type "list", data := .seq vs.toArray } (.lst (ns.map V.int))) := if_pos rfl
    refine main (fun b => if b = a then some (HO.frz { cls := .type "list", data := .seq vs.toArray } (.lst (ns.map V.int))) else if b ∈ cs.map (·.2) then some (.tbl #[]) else none) (fun b => ?_) (fun p hp => ?_) (.inl (.inr ⟨_, at_⟩)) (fun b u z => ?_) fun _ => hk
    · by_cases hb : b = a
      · exact .inr (.inl ⟨hb, _, _, if_pos hb⟩)
      · by_cases hc : b ∈ cs.map (·.2)
        · obtain ⟨p, hp, e⟩ := List.mem_map.mp hc
          exact .inr (.inr ⟨⟨p, hp, e.symm⟩, (if_neg hb).trans (if_pos hc)⟩)
        · exact .inl ((if_neg hb).trans (if_neg hc))
    · exact (if_neg (cta p hp)).trans (if_pos (List.mem_map.mpr ⟨p, hp, rfl⟩))
    · by_cases hb : b = a
      · subst hb
        cases at_.symm.trans z
        exact ⟨ha, by rw [List.length_map]; exact hl, vs, _, rv, ha⟩
      · by_cases hc : b ∈ cs.map (·.2)
        · cases ((if_neg hb).trans (if_pos hc)).symm.trans z
          obtain ⟨p, hp, rfl⟩ := List.mem_map.mp hc
          exact ct p hp
        · cases ((if_neg hb).trans (if_neg hc)).symm.trans z
/-- what is to be known of the law's def -/
def LawT (l : PySem.W.OpenLaw) (w : World) (K : PySem.W.Frag) (k n : Nat) (x : Str) (mg : Str → Option Value) (fa : Addr) (h : Heap) : Prop :=
  ∃ (fd : FuncData) (cs : List (Addr × Addr)) (sp : Sp), (∀ p ∈ cs, h.get? p.2 = some { cls := .none, data := .fields #[] }) ∧ (∀ p ∈ cs, K.lookup p.2 = none) ∧ (∀ p ∈ cs, PySem.W.CodeHd h p.1 p.2) ∧
    (∀ (s : Shared) (u : Value), BindsTo s fd ⟨[u], []⟩ [(x, u)]) ∧
    (∀ (H : Hp) (a : Addr) (ns : List Int), ns.length ≤ n → (∀ p ∈ cs, H p.2 = some (.tbl #[])) → SqL K H a (ns.map V.int) → sp [.ref a] H (fun v _ => v = .bl true) fun _ _ _ => False) ∧
    ∀ base : Heap, K.In base → base.Ns mainGlobals mg → (∀ p ∈ cs, TabB base mg p.1 p.2) → Pr l.prog w K mg base CX0 k fa fd [x] sp
theorem walk_goT {l : PySem.W.OpenLaw} {n k : Nat} {q : Program} {loose : List Str} {XP : (Str → Option Value) → Heap → Prop} {YP : World → Heap → Prop} {d : DefRec} {x : Str}
    (hn : l.most = some n) (hn2 : n ≤ sizeLine) (hdf : d.params.defaults = []) (hR : Room k callerA)
    (F : ∀ (w : World) (mg : Str → Option Value) (fa : Addr) (h : Heap), YP w h → h.Ns mainGlobals mg → mg d.name = some (.ref fa) → ∃ K : PySem.W.Frag, K.In h ∧ LawT l w K k n x mg fa h) :
    PySem.W.WalkO q loose XP YP l.row.toRowW d [] (fun f vs => PySem.call f vs) := by
  refine Att.attach_call hn hdf fun w s0 s1 mg mb fa o pm cd doc a vs ns G Y ho hd hcd hmg hobj hints hlen hg => ?_
  obtain ⟨K, KX, fd, cs, sp, h1, h2, h3, hb, hsp, hF⟩ := F w mg fa _ Y G.T.g hmg
  have bi : ∃ bm ob, mg "__builtins__" = some (.ref bm) ∧ bm ≠ builtinsNs ∧ s1.heap.get? bm = some ob ∧ ob.cls = .type "module" ∧ ob.dict = some builtinsNs ∧ ob.data = .plain := by
    obtain ⟨_, _, _, _, _, _, _, _, _, _, z, _⟩ := G.T
    exact z
  exact law_goT KX G.T.g G.T.b G.T.builtins G.T.nolimit hg h1 h2 h3 bi hobj hints (Nat.le_trans hlen hn2) hR hF hb fun H hT hS => hsp H a ns hlen hT hS
end Gd
set_option Elab.async false
set_option linter.all false
set_option maxRecDepth 100000
set_option maxHeartbeats 4000000
namespace Gd
open PySem PySem.Spec PyProof.Rows L2 LamX
section
variable {P : Program} {w : World} {K : PySem.W.Frag} {mg : Str → Option Value} {base : Heap}
/-- as okG, the code object told -/
theorem okGC {x qn : Str} {st : Stmt} {f c : Addr} {fd : FuncData} {N ps : List Str} {k : Nat} {sp : Sp} (F : Fun K x qn st f fd) (hcd : fd.code = .ref c) (S : FnScope N ps (defScope st)) (hl : ∀ us H Q E, sp us H Q E → us.length = ps.length)
    (hb : ∀ (A : Around) (ou : List Env) (s : Shared) (H : Hp) (vs : List V) (Q : VK) (E : XK), A.guards = some [] → Room k (A.deeper (envOfC qn (defScope st) s.heap.objs.size f (.ref c))) → sp vs H Q E →
      ∃ t, PSs (cxOf CX0 P w K mg base N qn (defScope st) f (.ref c) A ou s H E).nox (defBody st) t ∧ t { nx := fun _ H' => Q .non H', rt := Q } (start N vs) H) : Pr P w K mg base CX0 (k + 1) f fd ps sp := by
  obtain ⟨oc, od, kV, dc, pm, an, cv, ct, osl, rfl, lk, hc⟩ := F.ex
  cases (show cv = .ref c from hcd)
  refine pr_of lk hc S hl fun A ou s H vs Q E hG hR hS => ?_
  obtain ⟨t, h, q⟩ := hb A ou s H vs Q E hG hR hS
  exact ⟨t, h.nox, q⟩
end
end Gd
namespace Ks
open PySem PySem.Spec PyProof.Rows L2 Gd Kx LamX
abbrev sTl : Stmt := Kx.topS 34
abbrev sRgt : Stmt := Kx.topS 40
theorem scTl : FnScope nTold ["_law_act"] (defScope sTl) := ⟨rfl, rfl, rfl, by decide +kernel, rfl, by decide +kernel, by decide +kernel⟩
def qLam : Str := (envOfC "_law_right" (defScope sRgt) 0 0 (.ref 0)).qual ++ Str.ofString "<lambda>"
def spRgtT (T : List (Addr × Str)) : Sp := fun vs H Q _ => ∃ p : Addr, vs = [.ref p] ∧ DealAt H p ∧ Tabs T H ∧ ∀ H', SbN p H H' → Tabs T H' → Q (.bl true) H'
/-- a word and what is shown, as data -/
def dW (w z : Str) : PyData := .list [.str w, .str z]
theorem lay_W {w z : Str} (hw : PyData.strOk w = true) (hz : PyData.strOk z = true) : (dW w z).canLay0 = true := lay_all fun d hd => by
  simp only [List.mem_cons, List.not_mem_nil, or_false] at hd
  rcases hd with rfl | rfl
  · exact hw
  · exact hz
theorem dep_W (w z : Str) : (dW w z).depth ≤ 4 := by simp [dW, PyData.depth, PyData.depthAll]
theorem sh_W {w z : Str} (hw : PyData.strOk w = true) (hz : PyData.strOk z = true) : SeqAt.shaped (dW w z) = true := by
  unfold SeqAt.shaped
  rw [lay_W hw hz, decide_eq_true (Nat.le_trans (dep_W w z) (by decide))]
  rfl
theorem eqv_W (w z : Str) : PyData.eqv (dW w z) (dW w z) = true := by simp [dW, PyData.eqv, PyData.eqvAll]
theorem sh_Ws {w z : Str} (n : Nat) (hw : PyData.strOk w = true) (hz : PyData.strOk z = true) : SeqAt.shaped (.list (List.replicate n (dW w z))) = true := by
  have l : (PyData.list (List.replicate n (dW w z))).canLay0 = true := lay_all fun d hd => by
    rw [(List.mem_replicate.mp hd).2]
    exact lay_W hw hz
  have e : (PyData.list (List.replicate n (dW w z))).depth ≤ 64 := by
    have := dep_all (n := 4) (ds := List.replicate n (dW w z)) fun d hd => by
      rw [(List.mem_replicate.mp hd).2]
      exact dep_W w z
    rw [PyData.depth]
    omega
  unfold SeqAt.shaped
  rw [l, decide_eq_true e]
  rfl
theorem eqv_Ws (w z : Str) (n : Nat) : PyData.eqv (.list (List.replicate n (dW w z))) (.list (List.replicate n (dW w z))) = true := by
  show PyData.eqvAll _ _ = true
  induction n with
  | zero => rfl
  | succ n ih =>
    rw [List.replicate_succ]
    show (PyData.eqv _ _ && PyData.eqvAll _ _) = true
    rw [eqv_W, ih]
    rfl
theorem dp_W {K : PySem.W.Frag} {G : Hp} {L : Addr} {w z : Str} (e : G L = some (.lst [.str w, .str z])) : Dp K G (.ref L) (dW w z) := .lst (SqL.of e) (.cons (.str _) (.cons (.str _) .nil))
end Ks
set_option Elab.async false
set_option linter.all false
set_option maxRecDepth 100000
set_option maxHeartbeats 4000000
/-! repr of a list of one instance of a class of one's own -/
namespace Gd
open PySem PySem.Spec PyProof.Rows L2
section
open PySem.W
variable {prog : Program} {w : World} {K : PySem.W.Frag} {A : Around} {s : Shared} {x C f : Addr} {ox : Obj} {od : Option Obj} {E : Value → Shared → Prop}
theorem ifBoundBy_K {M : Model} {last : Value → List Value → Sem Value} {Q : Option Value → Shared → Prop} {name : Str} (X : K.In s.heap) (I : PySem.W.InstAt s.heap x ox C od) (hs : findIn K (.ref C) name = some (some (.ref f))) (hf : isFn K (.ref f) = true)
    (h : wpAny M A (last (.ref f) [.ref x]) (fun v => Q (some v)) E s) : wpAny M A (callSpecialIfBoundBy? last (.ref x) name) Q E s := by
  simp only [callSpecialIfBoundBy?, bindSpecialIfBound?]
  refine wpAny_holding (wpAny_bind (wpAny_bind (wpAny_bind (I.type.here ((looks_findIn X hs).here ?_)))))
  refine wpAny_bind (wpAny_askSetting (wpAny_ite ?_))
  have fin : wpAny M A (last (.ref f) [.ref x] >>= fun v => pure (some v)) Q E s := wpAny_bind (wpAny_mono h (fun v s' h' => wpAny_pure h') fun _ _ h' => h')
  split
  · exact wpAny_bind ((bind_fn X _ (beq_iff_eq.mp hf)).here (wpAny_pure (by exact fin)))
  · exact wpAny_tryCatch (wpAny_bind ((bind_fn X _ (beq_iff_eq.mp hf)).here (wpAny_pure (by exact fin))))
theorem reprUnder_K {base : Nat} {Q : Str → Shared → Prop} (hb : base ≤ sizeLine) (hu : A.units < cLine) (X : K.In s.heap) (I : PySem.W.InstAt s.heap x ox C od) (hs : findIn K (.ref C) "__repr__" = some (some (.ref f))) (hf : isFn K (.ref f) = true)
    (h : wpAny (model prog w) A (call (.ref f) [.ref x]) (fun v s' => ∃ z u, v = .str z u ∧ Q z s') E s) : wpAny (model prog w) A (pyReprUnder base (.ref x)) Q E s := by
  refine wpAny_pyReprUnder_ref hb ?_
  unfold pyReprObjUnder pyReprObjBy
  refine wpAny_bind (wpAny_cRoomFor hu ?_)
  refine wpAny_bind (wpAny_bind (I.type.here ((looks_findIn X hs).here ?_)))
  show wpAny _ _ (if (some (Value.ref f)).isNone = true then _ else _) _ _ _
  rw [if_neg (by simp)]
  refine wpAny_bind (ifBoundBy_K X I hs hf ?_)
  refine wpAny_mono h (fun v s' hr => ?_) fun _ _ y => y
  obtain ⟨z, u, rfl, q⟩ := hr
  refine wpAny_bind (wpAny_isInstance (typeIs_str _ _ _) isSubtype_str_str ?_)
  first
    | exact wpAny_pure ⟨_, _, rfl, q⟩
    | (rw [if_pos rfl]; exact wpAny_pure ⟨_, _, rfl, q⟩)
    | (simp only [if_true]; exact wpAny_pure ⟨_, _, rfl, q⟩)
end
section
variable {P : Program} {w : World} {K : PySem.W.Frag} {mg : Str → Option Value} {base : Heap} {A : Around} {ou : List Env} {s : Shared} {H : Hp}
theorem env0_loop (e : Env0 P w K mg base A ou s H) (args : Args) : Env0 P w K mg base (A.under (.builtin "list.__repr__.loop" args)) ou s H :=
  ⟨by first | exact e.frames | (simpa [Around.under, Code.envs, Code.isFrame, pushEnvs] using e.frames), e.mod, e.bs, e.bsz, e.funs, e.frf, e.hok, e.bare⟩
theorem depth_loop (args : Args) : (A.under (.builtin "list.__repr__.loop" args)).depth = A.depth + 1 := by
  first | rfl | simp [Around.under, Code.weight, Code.isCreation, Code.isGuard, Code.isCaller, Code.frames, Code.isFrame, guardIds]
theorem room_loop {k : Nat} (r : Room (k + 1) A) (args : Args) : Room k (A.under (.builtin "list.__repr__.loop" args)) :=
  ⟨by first | exact r.hd | (simpa [Around.under] using r.hd), by rw [depth_loop]; have := r.dp; omega, by rw [units_under_list_loop]; have := r.un; omega⟩
end
section
variable {X : Cx} {CX : CXT} {k : Nat} {C f : Addr} {fd : FuncData} {ps : List Str} {sp : Sp} {E : XK}
/-- repr([x]), x an instance of a class of one's own -/
def rReprL1 (C : Addr) (sp : Sp) (E : XK) : List V → Hp → VK → Prop := fun xs H Q => ∃ l a dx fs, xs = [.ref l] ∧ H l = some (.lst [.ref a]) ∧ H a = some (.ins C dx fs) ∧ sp [.ref a] H (fun v H' => ∃ z : Str, v = .str z ∧ H' l = some (.lst [.ref a]) ∧ z.length + 10 ≤ sizeLine ∧ Q (.str (listText [z])) H') E
theorem call_reprL1_gen (hG : X.A.guards = some []) (D : Dm X.K C "__repr__" f) (hu : X.A.in1.units < cLine) (hu1 : ∀ args : Args, (X.A.in1.under (.builtin "list.__repr__.loop" args)).units < cLine)
    (hrun : ∀ (args : Args) (pins : List (Addr × Obj)) (σ : L2.St) (H : Hp) (s : Shared) (a : Addr) (Q : VK) (E' : Value → Shared → Prop), Inv X pins σ H s → sp [.ref a] H Q E → wpAny (model X.prog X.w) (X.A.in1.under (.builtin "list.__repr__.loop" args)) (call (.ref f) [.ref a]) (EP X pins σ Q) E' s) : CallR X (.builtin "repr") (rReprL1 C sp E) := by
  intro pins s σ H xs us Q I r h
  obtain ⟨l, a, dx, fs, rfl, el, ea, q⟩ := h
  have e1 := Vals.ref1 r
  subst e1
  obtain ⟨its, n, rv, hl, _⟩ := I.lst el
  obtain ⟨u, rfl, ru⟩ := vals1 rv
  obtain rfl : u = Value.ref a := ru
  have hG1 : X.A.in1.guards = some [] := hG
  refine Calls.call_function_entry PySem.F.kind_repr PySem.F.plain_repr PySem.F.entry_repr (PySem.F.args_repr1 _) ?_
  unfold Builtin.«repr»
  refine wpAny_bind (m := oneArg "repr" _) (wpAny_pure ?_)
  have hTy : s.TypeIs (.ref l) "list" := ⟨_, hl, rfl⟩
  refine wpAny_bind (wpAny_cRoomFor hu ?_)
  refine wpAny_bind (wpAny_specialOf (name := Str.ofString "__repr__") hTy PySem.F.slot_list_repr.lookup ?_)
  show wpAny _ _ (if (some (Value.builtin "list.__repr__")).isNone = true then _ else _) _ _ _
  rw [if_neg (by simp)]
  refine wpAny_bind (m := callSpecialIfBound? (.ref l) (Str.ofString "__repr__")) (wpAny_callSpecialIfBound?_slot (name := Str.ofString "__repr__") hTy PySem.F.slot_list_repr ?_)
  refine wpAny_call (codeAny_call_builtin PySem.F.slot_list_repr.plain PySem.F.entry_list_repr (PySem.F.slot_list_repr.check _ _ _ _ _ _ _ _ hTy (PySem.F.args_list_repr_1 _) ?_))
  show wpAny _ X.A.in1.in1 (Builtin.listReprAt 0 ⟨[.ref l], []⟩) _ _ _
  refine wpAny_list_repr_head (A := X.A.in1.in1) (g := []) hG (fun v rest kw hm => by cases hm) hl rfl ?_
  refine wpAny_bind (m := newList []) (wpAny_newObj_type ?_)
  refine wpAny_pure ⟨PySem.F.quiet_list_repr_loop _, ?_⟩
  have fp : FpOk X pins H s.heap.objs.size := I.fpOk (Nat.le_refl _) (I.hok.fresh (Nat.le_refl _))
  have lP : l ≠ s.heap.objs.size := Nat.ne_of_lt (Heap.lt_size hl)
  have I1 : Inv X ((s.heap.objs.size, { cls := .type "list", dict := none, data := .seq #[] }) :: pins) σ H { s with heap := s.heap.push { cls := .type "list", dict := none, data := .seq #[] } } :=
    ClX.pin_new (t' := s.toks) I (fun _ _ z => Heap.get?_push_of_some _ z) (Nat.le_refl _) (Heap.get?_push_size s.heap rfl) (fun v z => nomatch z)
  have hl1 := Heap.get?_push_of_some { cls := .type "list", dict := none, data := .seq #[] } hl
  refine codeAny_builtin PySem.F.entry_list_repr_loop ?_
  show wpAny _ _ (Builtin.«list.__repr__.loop» ⟨[.ref l, .int 0 0, .ref s.heap.objs.size, .int 0 0], []⟩) _ _ _
  rw [repr_loop_tree]
  refine wpAny_bind (wpAny_listItems hl1 rfl ?_)
  obtain ⟨mA, J, _⟩ := ins_get I1.hok ea
  obtain ⟨od, J, _⟩ := J.look
  refine wpAny_bind (m := holding [Value.ref a] (pyReprUnder 1 (.ref a))) (wpAny_holding (reprUnder_K (by decide) (hu1 _) I1.kIn J D.at_ D.fn (wpAny_mono (hrun _ _ _ _ _ _ _ _ I1 q) (fun v s2 z => ?_) fun _ _ e => e)))
  obtain ⟨y, H', I', ry, zz, ey, el', hz, q2⟩ := z
  subst ey
  obtain ⟨tk, rfl⟩ := ry
  refine ⟨zz, tk, rfl, ?_⟩
  refine wpAny_bind (wpAny_mkStr ?_ (by omega))
  refine wpAny_bind ?_
  show wpAny _ _ (updateSeq s.heap.objs.size _) _ _ _
  have hPo := ClX.pin_at I'
  have hPn := ClX.pin_un I'
  refine wpAny_updateSeq hPo rfl (wpAny_pure ⟨PySem.F.quiet_list_repr_loop _, ?_⟩) (Nat.zero_le _)
  obtain ⟨its2, n2, rv2, hl2, _⟩ := I'.lst el'
  obtain ⟨u2, rfl, ru2⟩ := vals1 rv2
  obtain rfl : u2 = Value.ref a := ru2
  refine codeAny_builtin PySem.F.entry_list_repr_loop ?_
  show wpAny _ _ (Builtin.«list.__repr__.loop» ⟨[.ref l, .int 1 0, .ref s.heap.objs.size, .int _ 0], []⟩) _ _ _
  rw [repr_loop_tree]
  refine wpAny_bind (wpAny_listItems ((Heap.get?_update_other _ _ (Ne.symm lP)).trans hl2) rfl ?_)
  show wpAny _ _ (reprEnd (.ref s.heap.objs.size)) _ _ _
  unfold reprEnd
  refine wpAny_bind (wpAny_listItems (Heap.get?_update_self _ hPo rfl) rfl ?_)
  show wpAny _ _ (forIn ((strValues [(zz, s2.toks)]).zipIdx 0) ("[" : Str) reprBody >>= _) _ _ _
  rw [repr_fold]
  refine wpAny_bind (wpAny_pure ?_)
  have hsz : (listText [zz]).length ≤ sizeLine := by
    show ((("[" : Str) ++ (("" : String) : Str) ++ zz) ++ ("]" : Str)).length ≤ _
    have l1 : (Str.ofString "[").length = 1 := by decide +kernel
    have l2 : (Str.ofString "").length = 0 := by decide +kernel
    have l3 : (Str.ofString "]").length = 1 := by decide +kernel
    rw [Str.length_append, Str.length_append, Str.length_append, l1, l2, l3]
    omega
  refine wpAny_bind (wpAny_mkStr (wpAny_pure ?_) hsz)
  obtain ⟨_, f1, f2, f3, f4, f5⟩ := fp
  have IE := (ClX.unpin I').turned (it := s.heap.objs.size) (h' := s2.heap.update s.heap.objs.size (Obj.mapSeq fun xs => xs.push (.str zz s2.toks))) (t' := s2.toks + 1 + 1) (fun b o hb e => (Heap.get?_update_other _ _ (Ne.symm hb)).trans e) hPn f1 f3 f4 f5
  refine wpAny_bind (wpAny_isInstance (typeIs_str _ _ _) isSubtype_str_str ?_)
  first
    | exact wpAny_pure ⟨_, rfl, .str (listText [zz]), H', IE, ⟨_, rfl⟩, q2⟩
    | (rw [if_pos rfl]; exact wpAny_pure ⟨_, rfl, .str (listText [zz]), H', IE, ⟨_, rfl⟩, q2⟩)
    | (simp only [if_true]; exact wpAny_pure ⟨_, rfl, .str (listText [zz]), H', IE, ⟨_, rfl⟩, q2⟩)
theorem call_reprL1 (hG : X.A.guards = some []) (D : Dm X.K C "__repr__" f) (F : FnOk X.prog X.w X.K X.mg X.base CX k f fd ps sp) (hr : Room (k + 3) X.A) (hb : Binds X.K fd ps []) (hx : Passes CX X.nox E) : CallR X (.builtin "repr") (rReprL1 C sp E) :=
  call_reprL1_gen hG D hr.in1.units0 (fun args => (room_loop hr.in1 args).units0) fun args pins σ H s a Q E' I h => run_at F ((room_loop hr.in1 args).mono (Nat.le_succ _)) (env0_loop I.env0.in1 _) hb hx I (.cons (show RelV (V.ref a) (Value.ref a) from rfl) .nil) h
/-- the same, while an exception is handled -/
theorem roomH_loop {A : Around} (r : L2H.RoomH (k + 1) A) (args : Args) : L2H.RoomH k (A.under (.builtin "list.__repr__.loop" args)) :=
  ⟨by rw [depth_loop]; have := r.dp; omega, by rw [units_under_list_loop]; have := r.un; omega⟩
theorem call_reprL1P (hG : X.A.guards = some []) (D : Dm X.K C "__repr__" f) (F : FnP X.prog X.w X.K X.mg X.base k f fd ps sp) (hr : L2H.RoomH (k + 3) X.A) (hb : Binds X.K fd ps []) (hp : ∃ p, p ∈ X.pn) : CallR X (.builtin "repr") (rReprL1 C sp E0) := by
  have hr1 := roomH_in1 hr
  refine call_reprL1_gen hG D (by have := hr1.un; omega) (fun args => by have := (roomH_loop hr1 args).un; omega) fun args pins σ H s a Q E' I q => ?_
  obtain ⟨p, hp⟩ := hp
  have P1 := I.pin p (List.mem_append_left _ hp)
  have hpin : L2H.PinOk X.stack H s p := ⟨P1.1, P1.2.1, fun hm => (List.mem_cons.mp (I.stkSub p.1 hm)).elim P1.2.2.1 P1.2.2.2.1, P1.2.2.2.2⟩
  have hl : ([Value.ref a] ++ ([] : List Value)).length = ps.length := by rw [List.append_nil]; exact F.len _ _ _ _ q
  have hB := hb s [.ref a] I.kIn hl
  rw [List.append_nil] at hB
  refine wpAny_call (codeAny_mono (F.run (X.A.in1.under (.builtin "list.__repr__.loop" args)) X.stack s H ⟨[.ref a], []⟩ [.ref a] [.ref a] _ p ((roomH_loop hr1 args).mono (Nat.le_succ _)) hpin (env0_loop I.env0.in1 _) hB (.cons rfl .nil) q) fun r s' hq => ?_)
  cases r with
  | error er => exact (show False from hq).elim
  | ok fl =>
    cases fl with
    | ret u => exact I.after hq
    | next => exact False.elim hq
    | brk => exact False.elim hq
    | cont => exact False.elim hq
end
end Gd
set_option Elab.async false
set_option linter.all false
set_option maxRecDepth 100000
set_option maxHeartbeats 4000000
/-! repr({}) -/
namespace Gd
open PySem PySem.Spec PyProof.Rows L2
def rReprD0 : List V → Hp → VK → Prop := fun xs H Q => ∃ a, xs = [.ref a] ∧ H a = some (.dT []) ∧ Q (.str (PyData.dict []).shown) H
theorem call_reprD0 {X : Cx} (hG : X.A.guards = some []) (hu : X.A.units + 64 < cLine) : CallR X (.builtin "repr") rReprD0 := by
  intro pins s σ H xs us Q I r h
  obtain ⟨a, rfl, ea, q⟩ := h
  have e1 := Vals.ref1 r
  subst e1
  obtain ⟨_, hsys, xs, hp, o, es, ep, ho, hx, hd, hes, _⟩ := (show ObjOk X.prog X.w H s.heap a (.dT []) from I.hok a _ ea)
  cases hp
  have he : es.toList = [] := hes
  have rd : Reads s.heap (.ref a) (.dict []) (a :: [] ++ []) := .dict ho hx.1 hd (by rw [he]; exact .nil) (by rw [he]; exact .nil)
  have dp : (PyData.dict []).depth ≤ 5 := by decide +kernel
  refine repr_of_reads' rd (by decide +kernel) (fun _ hm => ?_) hG (by omega) (fun _ _ e => e) (fun h' u tk hk => ⟨.str (PyData.dict []).shown, H, I.kept hk, ⟨_, rfl⟩, q⟩) (Nat.le_trans (show (PyData.dict []).shown.length ≤ 5 by decide +kernel) (by decide))
  have : sysModules = a := by simpa using hm
  rw [← this] at hsys
  simp at hsys
end Gd
set_option Elab.async false
set_option linter.all false
set_option maxRecDepth 100000
set_option maxHeartbeats 4000000
/-! how long data is shown -/
namespace Ks
open PySem PySem.Spec PyProof.Rows L2 Gd Kx
mutual
theorem dp_keep {K : PySem.W.Frag} {H H' : Hp} (s : Same H H') : ∀ (d : PyData) (v : V), Dp K H v d → Dp K H' v d
  | .none, _, h => by cases h; exact .non
  | .bool b, _, h => by cases h; exact .bl b
  | .int i, _, h => by cases h; exact .int i
  | .str x, _, h => by cases h; exact .str x
  | .list ds, _, h => by
    cases h with
    | lst h1 h2 => exact .lst (s.seq h1) (dp_keepAll s ds _ h2)
  | .tuple ds, _, h => by
    cases h with
    | tup h1 h2 => exact .tup (SqT.ext h1 s) (dp_keepAll s ds _ h2)
  | .dict _, _, h => by cases h
theorem dp_keepAll {K : PySem.W.Frag} {H H' : Hp} (s : Same H H') : ∀ (ds : List PyData) (vs : List V), DpAll K H vs ds → DpAll K H' vs ds
  | [], _, h => by cases h; exact .nil
  | d :: ds, _, h => by
    cases h with
    | cons h1 h2 => exact .cons (dp_keep s d _ h1) (dp_keepAll s ds _ h2)
end
structure SB (n b : Nat) (d : PyData) : Prop where
  sh : d.showable = true
  nd : d.hasDict = false
  dp : d.depth ≤ n
  ln : d.shown.length ≤ b
theorem SB.mono {n b n' b' : Nat} {d : PyData} (h : SB n b d) (hn : n ≤ n') (hb : b ≤ b') : SB n' b' d := ⟨h.sh, h.nd, Nat.le_trans h.dp hn, Nat.le_trans h.ln hb⟩
theorem sb_sh {n b : Nat} : ∀ {ds : List PyData}, (∀ d ∈ ds, SB n b d) → PyData.showableAll ds = true
  | [], _ => rfl
  | d :: r, h => by rw [PyData.showableAll, (h d (List.mem_cons_self ..)).sh, sb_sh fun x hx => h x (List.mem_cons_of_mem _ hx)]; rfl
theorem sb_nd {n b : Nat} : ∀ {ds : List PyData}, (∀ d ∈ ds, SB n b d) → PyData.hasDictAll ds = false
  | [], _ => rfl
  | d :: r, h => by rw [PyData.hasDictAll, (h d (List.mem_cons_self ..)).nd, sb_nd fun x hx => h x (List.mem_cons_of_mem _ hx)]; rfl
theorem sb_dp {n b : Nat} : ∀ {ds : List PyData}, (∀ d ∈ ds, SB n b d) → PyData.depthAll ds ≤ n + 1
  | [], _ => by show 0 ≤ _; omega
  | d :: r, h => by
    have a := (h d (List.mem_cons_self ..)).dp
    have c := sb_dp fun x hx => h x (List.mem_cons_of_mem _ hx)
    rw [PyData.depthAll]
    omega
theorem sb_list {n b c : Nat} {ds : List PyData} (h : ∀ d ∈ ds, SB n b d) (hl : ds.length ≤ c) : SB (n + 2) (2 + c * (b + 2)) (.list ds) := by
  refine ⟨?_, ?_, ?_, ?_⟩
  · rw [PyData.showable]
    exact sb_sh h
  · rw [PyData.hasDict]
    exact sb_nd h
  · have := sb_dp h
    rw [PyData.depth]
    omega
  · rw [PyData.shown]
    have := listText_le (ts := PyData.shownAll ds) (b := b) (by
      rw [shownAll_map]
      intro t ht
      obtain ⟨d, hd, rfl⟩ := List.mem_map.mp ht
      exact (h d hd).ln)
    rw [shownAll_map, List.length_map] at this
    have z : ds.length * (b + 2) ≤ c * (b + 2) := Nat.mul_le_mul_right _ hl
    rw [shownAll_map]
    omega
theorem join_le (sep : Str) (b : Nat) : ∀ ts : List Str, (∀ t ∈ ts, t.length ≤ b) → (Str.join sep ts).length ≤ ts.length * (b + sep.length)
  | [], _ => by show 0 ≤ _; omega
  | [x], h => by
    have := h x (List.mem_cons_self ..)
    show x.length ≤ 1 * (b + sep.length)
    omega
  | x :: y :: r, h => by
    have a := h x (List.mem_cons_self ..)
    have ih := join_le sep b (y :: r) fun t ht => h t (List.mem_cons_of_mem _ ht)
    show (x ++ sep ++ Str.join sep (y :: r)).length ≤ _
    rw [Str.length_append, Str.length_append, List.length_cons, Nat.add_mul, Nat.one_mul]
    omega
theorem sb_tup {n b c : Nat} {ds : List PyData} (h : ∀ d ∈ ds, SB n b d) (hl : ds.length ≤ c) : SB (n + 2) (3 + c * (b + 2)) (.tuple ds) := by
  refine ⟨?_, ?_, ?_, ?_⟩
  · rw [PyData.showable]
    exact sb_sh h
  · rw [PyData.hasDict]
    exact sb_nd h
  · have := sb_dp h
    rw [PyData.depth]
    omega
  · rw [PyData.shown]
    have := join_le (Str.ofString ", ") b (PyData.shownAll ds) (by
      rw [shownAll_map]
      intro t ht
      obtain ⟨d, hd, rfl⟩ := List.mem_map.mp ht
      exact (h d hd).ln)
    have l2 : (Str.ofString ", ").length = 2 := by decide +kernel
    have l1 : (Str.ofString "(").length = 1 := by decide +kernel
    have l3 : ((if (PyData.shownAll ds).length == 1 then ",)" else ")" : String) : Str).length ≤ 2 := by split <;> decide +kernel
    rw [l2] at this
    have e : (PyData.shownAll ds).length = ds.length := by rw [shownAll_map, List.length_map]
    rw [e] at this
    have z : ds.length * (b + 2) ≤ c * (b + 2) := Nat.mul_le_mul_right _ hl
    show (Str.ofString "(" ++ Str.join (Str.ofString ", ") (PyData.shownAll ds) ++ ((if (PyData.shownAll ds).length == 1 then ",)" else ")" : String) : Str)).length ≤ _
    rw [Str.length_append, Str.length_append]
    omega
theorem sb_str {z : Str} {l : Nat} (h : nmS z = true) (hl : z.length ≤ l) : SB 1 (10 * l + 2) (.str z) := by
  refine ⟨rfl, rfl, by rw [PyData.depth]; omega, ?_⟩
  have ok : ∀ c ∈ z.cps.toList, c < 16 ^ 8 := by
    have := nm_ok h
    unfold PyData.strOk at this
    rw [← Array.all_toList] at this
    intro c hc
    have := of_decide_eq_true (List.all_eq_true.mp this c hc)
    omega
  have := StrLaws.reprText_len z ok
  rw [PyData.shown]
  omega
theorem sb_nm {z : Str} (h : nmS z = true) : SB 1 82 (.str z) := sb_str h (nm_len h).2
theorem sb_ss {ss : List Str} {c : Nat} (h : ∀ s ∈ ss, nmS s = true) (hl : ss.length ≤ c) : SB 3 (3 + c * 84) (dSs ss) :=
  sb_tup (n := 1) (b := 82) (fun d hd => by obtain ⟨s, hs, rfl⟩ := List.mem_map.mp hd; exact sb_nm (h s hs)) (by rw [List.length_map]; exact hl)
theorem Good.sbK {m : Md} (g : Good m) : SB 3 339 (dSs m.ks) := sb_ss g.kn g.k4
theorem Good.sbR1 {m : Md} (g : Good m) {r : Rw} (hr : r ∈ m.rs) : SB 5 774 (dRw r) := by
  have rk := g.row hr
  refine (sb_tup (n := 3) (b := 255) (c := 3) (ds := [.str r.1, .str r.2.1, dSs r.2.2]) ?_ (Nat.le_refl 3)).mono (by decide) (by decide)
  intro d hd
  simp only [List.mem_cons, List.not_mem_nil, or_false] at hd
  rcases hd with rfl | rfl | rfl
  · exact (sb_nm (g.rn r hr)).mono (by decide) (by decide)
  · exact (sb_nm (g.kn _ (g.rk r hr))).mono (by decide) (by decide)
  · exact sb_ss (c := 3) (fun s hs => g.kn s (g.fk r hr s hs)) (g.f3 r hr)
theorem Good.sbR {m : Md} (g : Good m) : SB 7 4659 (dRs m.rs) :=
  sb_tup (n := 5) (b := 774) (c := 6) (fun d hd => by obtain ⟨r, hr, rfl⟩ := List.mem_map.mp hd; exact g.sbR1 hr) (by rw [List.length_map]; exact g.r6)
theorem Good.sbN {m : Md} (g : Good m) {rs : List Rw} (h : ∀ r ∈ rs, r ∈ m.rs) (hl : rs.length ≤ 6) : SB 3 507 (dSs (rs.map (·.1))) :=
  sb_ss (c := 6) (fun s hs => by obtain ⟨r, hr, rfl⟩ := List.mem_map.mp hs; exact g.rn r (h r hr)) (by rw [List.length_map]; exact hl)
/-! any text of plain signs -/
def okS (z : Str) : Prop := ∀ c ∈ z.cps.toList, c < 0x110000
theorem okS_app {a b : Str} (ha : okS a) (hb : okS b) : okS (a ++ b) := fun c hc => by
  have e : (a ++ b).cps.toList = a.cps.toList ++ b.cps.toList := TL.tl_append a b
  rw [e] at hc
  rcases List.mem_append.mp hc with z | z
  · exact ha c z
  · exact hb c z
theorem okS_nm {z : Str} (h : nmS z = true) : okS z := fun c hc => by
  have := nm_ok h
  unfold PyData.strOk at this
  rw [← Array.all_toList] at this
  exact of_decide_eq_true (List.all_eq_true.mp this c hc)
theorem strOk_of {z : Str} (h : okS z) : PyData.strOk z = true := by
  unfold PyData.strOk
  rw [← Array.all_toList]
  exact List.all_eq_true.mpr fun c hc => decide_eq_true (h c hc)
theorem sb_any {z : Str} {l : Nat} (h : okS z) (hl : z.length ≤ l) : SB 1 (10 * l + 2) (.str z) := by
  refine ⟨rfl, rfl, by rw [PyData.depth]; omega, ?_⟩
  have := StrLaws.reprText_len z fun c hc => Nat.lt_of_lt_of_le (h c hc) (by decide)
  rw [PyData.shown]
  omega
theorem okS_lit {s : String} (h : ((Str.ofString s).cps.toList.all fun c => decide (c < 0x110000)) = true) : okS (Str.ofString s) := fun c hc => of_decide_eq_true (List.all_eq_true.mp h c hc)
end Ks
set_option Elab.async false
set_option linter.all false
set_option maxRecDepth 100000
set_option maxHeartbeats 4000000
/-! what is shown is text of plain signs -/
namespace Ks
open PySem PySem.Spec PyProof.Rows L2 Gd Kx
theorem chr_lt (c : Char) : c.toNat < 0x110000 := by
  have := c.valid
  unfold UInt32.isValidChar Nat.isValidChar at this
  show c.val.toNat < _
  omega
theorem okS_of (s : String) : okS (Str.ofString s) := fun c hc => by
  rw [Str.ofString_eq_toList] at hc
  have hc' : c ∈ s.toList.map Char.toNat := hc
  obtain ⟨d, _, rfl⟩ := List.mem_map.mp hc'
  exact chr_lt d
def okL (l : List Nat) : Prop := ∀ c ∈ l, c < 0x110000
theorem okL_app {a b : List Nat} (h : okL a) (k : okL b) : okL (a ++ b) := fun c hc => (List.mem_append.mp hc).elim (h c) (k c)
theorem okL_hex (w : Nat) (c : Nat) : okL (List.replicate (w - ((Nat.toDigits 16 c).map Char.toNat).length) 48 ++ (Nat.toDigits 16 c).map Char.toNat) :=
  okL_app (fun d hd => by rw [(List.mem_replicate.mp hd).2]; decide) fun d hd => by
    obtain ⟨e, _, rfl⟩ := List.mem_map.mp hd
    exact chr_lt e
theorem okL_two {a b : Nat} (ha : a < 0x110000) (hb : b < 0x110000) : okL [a, b] := fun d hd => by
  simp only [List.mem_cons, List.not_mem_nil, or_false] at hd
  rcases hd with rfl | rfl
  · exact ha
  · exact hb
theorem okL_rc {q c : Nat} (hc : c < 0x110000) : okL (Builtin.Str.reprChar q c) := by
  unfold Builtin.Str.reprChar
  dsimp only
  split
  · exact okL_two (by decide) hc
  split
  · exact okL_two (by decide) (by decide)
  split
  · exact okL_two (by decide) (by decide)
  split
  · exact okL_two (by decide) (by decide)
  split
  · exact fun d hd => by rw [List.mem_singleton.mp hd]; exact hc
  split
  · exact okL_app (okL_two (by decide) (by decide)) (okL_hex 2 c)
  split
  · exact okL_app (okL_two (by decide) (by decide)) (okL_hex 4 c)
  · exact okL_app (okL_two (by decide) (by decide)) (okL_hex 8 c)
theorem okL_fold (q : Nat) : ∀ (l : List Nat) (acc : Array Nat), okL l → okL acc.toList → okL (l.foldl (fun out c => out ++ (Builtin.Str.reprChar q c).toArray) acc).toList
  | [], acc, _, h => h
  | c :: r, acc, hl, h => okL_fold q r _ (fun d hd => hl d (List.mem_cons_of_mem _ hd)) (by
      rw [Array.toList_append]
      exact okL_app h (okL_rc (hl c (List.mem_cons_self ..))))
theorem okS_repr {x : Str} (h : okS x) : okS (reprText x) := by
  have hq : reprQuote x < 0x110000 := by
    unfold reprQuote
    split <;> decide
  show okL ((x.cps.foldl (fun out c => out ++ (Builtin.Str.reprChar (reprQuote x) c).toArray) #[reprQuote x]).push (reprQuote x)).toList
  rw [Array.toList_push, ← Array.foldl_toList]
  exact okL_app (okL_fold _ _ _ h fun d hd => by
    have : d ∈ [reprQuote x] := hd
    rw [List.mem_singleton.mp this]; exact hq) fun d hd => by rw [List.mem_singleton.mp hd]; exact hq
theorem okS_join {sep : Str} (hs : okS sep) : ∀ {l : List Str}, (∀ z ∈ l, okS z) → okS (Str.join sep l)
  | [], _ => fun c hc => by cases hc
  | [x], h => h x (List.mem_singleton.mpr rfl)
  | x :: y :: r, h => okS_app (okS_app (h x (List.mem_cons_self ..)) hs) (okS_join hs fun z hz => h z (List.mem_cons_of_mem _ hz))
theorem okS_from : ∀ (l : List Str) (k : Nat) (acc : Str), okS acc → (∀ z ∈ l, okS z) → okS (textFrom k acc l)
  | [], _, _, h, _ => h
  | t :: r, k, acc, h, hl => okS_from r (k + 1) _ (okS_app (okS_app h (okS_of _)) (hl t (List.mem_cons_self ..))) fun z hz => hl z (List.mem_cons_of_mem _ hz)
theorem okS_list {l : List Str} (h : ∀ z ∈ l, okS z) : okS (listText l) := okS_app (okS_from l 0 _ (okS_of "[") h) (okS_of "]")
theorem okS_tup {l : List Str} (h : ∀ z ∈ l, okS z) : okS (tupleText l) := okS_app (okS_app (okS_of "(") (okS_join (okS_of ", ") h)) (okS_of _)
mutual
theorem shown_ok : ∀ d : PyData, d.canLay0 = true → d.hasDict = false → okS d.shown
  | .none, _, _ => okS_of "None"
  | .bool true, _, _ => okS_of "True"
  | .bool false, _, _ => okS_of "False"
  | .int i, _, _ => okS_of _
  | .str x, h, _ => okS_repr (fun c hc => by
      have h' : PyData.strOk x = true := h
      unfold PyData.strOk at h'
      rw [← Array.all_toList] at h'
      exact of_decide_eq_true (List.all_eq_true.mp h' c hc))
  | .list ds, h, k => okS_list (shown_okAll ds h k)
  | .tuple ds, h, k => okS_tup (shown_okAll ds h k)
  | .dict _, _, k => by cases k
theorem shown_okAll : ∀ ds : List PyData, PyData.canLayAll0 ds = true → PyData.hasDictAll ds = false → ∀ z ∈ PyData.shownAll ds, okS z
  | [], _, _ => fun z hz => by cases hz
  | d :: ds, h, k => fun z hz => by
    rw [PyData.canLayAll0] at h
    rw [PyData.hasDictAll] at k
    obtain ⟨h1, h2⟩ := Bool.and_eq_true_iff.mp h
    obtain ⟨k1, k2⟩ := Bool.or_eq_false_iff.mp k
    rcases List.mem_cons.mp hz with e | e
    · rw [e]
      exact shown_ok d h1 k1
    · exact shown_okAll ds h2 k2 z e
end
end Ks
set_option Elab.async false
set_option linter.all false
set_option maxRecDepth 100000
set_option maxHeartbeats 4000000
/-! a list that is not empty against an empty one -/
namespace Ks
open PySem PySem.Spec PyProof.Rows L2 Gd Kx
section
variable {X : Cx}
def rEq0 : R2 := fun x y H Q => ∃ (a b : Addr) (v : V) (xs : List V), x = .ref a ∧ y = .ref b ∧ H a = some (.lst (v :: xs)) ∧ H b = some (.lst []) ∧ Q (.bl false) H
def rNe0 : R2 := fun x y H Q => ∃ (a b : Addr) (v : V) (xs : List V), x = .ref a ∧ y = .ref b ∧ H a = some (.lst (v :: xs)) ∧ H b = some (.lst []) ∧ Q (.bl true) H
theorem two_lists {pins : List (Addr × Obj)} {σ : L2.St} {H : Hp} {s : Shared} {a b : Addr} {v : V} {xs : List V} (I : Inv X pins σ H s) (ha : H a = some (.lst (v :: xs))) (hb : H b = some (.lst [])) :
    ∃ i j : Array Value, s.heap.IsList a i ∧ s.heap.IsList b j ∧ (i.size != j.size) = true := by
  obtain ⟨i, r1, p1, _⟩ := I.list (SqL.of ha)
  obtain ⟨j, r2, p2, _⟩ := I.list (SqL.of hb)
  refine ⟨i.toArray, j.toArray, p1.isList, p2.isList, ?_⟩
  rw [List.size_toArray, List.size_toArray, ← r1.length, ← r2.length, List.length_cons, List.length_nil]
  exact bne_iff_ne.mpr (by omega)
theorem op_eq0 (hu : X.A.units + 64 < cLine) : OpR X (compareOp .Eq) rEq0 := by
  intro pins s σ H x y v u Q I rx ry h
  obtain ⟨a, b, w, xs, rfl, rfl, ha, hb, q⟩ := h
  obtain rfl : v = Value.ref a := rx
  obtain rfl : u = Value.ref b := ry
  obtain ⟨i, j, h1, h2, h3⟩ := two_lists I ha hb
  exact PySem.SeqAt.eq_list_lengthsAt h1 h2 h3 (by omega) ⟨.bl false, H, I, rfl, q⟩
theorem op_ne0 (hu : X.A.units + 64 < cLine) : OpR X (compareOp .NotEq) rNe0 := by
  intro pins s σ H x y v u Q I rx ry h
  obtain ⟨a, b, w, xs, rfl, rfl, ha, hb, q⟩ := h
  obtain rfl : v = Value.ref a := rx
  obtain rfl : u = Value.ref b := ry
  obtain ⟨i, j, h1, h2, h3⟩ := two_lists I ha hb
  exact PySem.SeqAt.RcNeAt.lists_lengths h1 h2 h3 (by omega) _ _ _ _ ⟨.bl true, H, I, rfl, q⟩
end
end Ks
set_option Elab.async false
set_option linter.all false
set_option maxRecDepth 100000
set_option maxHeartbeats 4000000
namespace Ks
open PySem PySem.Spec PyProof.Rows L2 Gd Kx LamX
abbrev sSrt : Stmt := Kx.topS 35
theorem scSrt : FnScope ["_law_e"] ["_law_e"] (defScope sSrt) := ⟨rfl, rfl, rfl, by decide +kernel, rfl, by decide +kernel, by decide +kernel⟩
/-- a value that errors tell of, and its repr -/
inductive Shw (C : Addr) (m : Md) (H : Hp) : V → Str → Prop
  | non : Shw C m H .non PyData.none.shown
  | int0 : Shw C m H (.int 0) (PyData.int 0).shown
  | bl : Shw C m H (.bl true) (PyData.bool true).shown
  | txt {z : Str} : okS z → z.length ≤ 5000 → Shw C m H (.str z) (PyData.str z).shown
  | tup {a : Addr} {z : Str} : H a = some (.tup [.str z]) → okS z → z.length ≤ 5000 → Shw C m H (.ref a) (PyData.tuple [.str z]).shown
  | lst {a : Addr} {z : Str} : H a = some (.lst [.str z]) → okS z → z.length ≤ 5000 → Shw C m H (.ref a) (PyData.list [.str z]).shown
  | d0 {a : Addr} : H a = some (.dT []) → Shw C m H (.ref a) (PyData.dict []).shown
  | sc {a : Addr} : ScAt C H a m → Shw C m H (.ref a) (rpS m)
theorem sb_fix : ∀ d ∈ [PyData.none, .int 0, .bool true], d.showable = true ∧ d.hasDict = false ∧ d.depth ≤ 60 ∧ d.shown.length ≤ 100 ∧ d.canLay0 = true := by decide +kernel
theorem Shw.show {K : PySem.W.Frag} {C : Addr} {m : Md} {H : Hp} {v : V} {z : Str} {Q : VK} (g : Good m) (h : Shw C m H v z) (q : Q (.str z) H) :
    rShowV K [v] H Q ∨ rReprO C (spRp C) E0 [v] H Q ∨ rReprD0 [v] H Q := by
  have lz : (100 : Nat) ≤ sizeLine := by decide
  have fix : ∀ d ∈ [PyData.none, .int 0, .bool true], Dp K H v d → z = d.shown → rShowV K [v] H Q := fun d hd hp e => by
    obtain ⟨a, b, c, l, _⟩ := sb_fix d hd
    exact ⟨_, d, rfl, hp, a, b, c, Nat.le_trans l lz, e ▸ q⟩
  cases h with
  | non => exact .inl (fix .none (by simp) .non rfl)
  | int0 => exact .inl (fix (.int 0) (by simp) (.int 0) rfl)
  | bl => exact .inl (fix (.bool true) (by simp) (.bl _) rfl)
  | @txt z ok l =>
    have s := sb_any ok l
    exact .inl ⟨_, _, rfl, .str _, s.sh, s.nd, Nat.le_trans s.dp (by decide), Nat.le_trans s.ln (by decide), q⟩
  | @tup a z e ok l =>
    have s := sb_tup (n := 1) (b := 10 * 5000 + 2) (c := 1) (ds := [PyData.str z]) (fun d hd => by rw [List.mem_singleton.mp hd]; exact sb_any ok l) (Nat.le_refl 1)
    exact .inl ⟨_, _, rfl, .tup (SqT.of e) (.cons (.str _) .nil), s.sh, s.nd, Nat.le_trans s.dp (by decide), Nat.le_trans s.ln (by decide), q⟩
  | @lst a z e ok l =>
    have s := sb_list (n := 1) (b := 10 * 5000 + 2) (c := 1) (ds := [PyData.str z]) (fun d hd => by rw [List.mem_singleton.mp hd]; exact sb_any ok l) (Nat.le_refl 1)
    exact .inl ⟨_, _, rfl, .lst (SqL.of e) (.cons (.str _) .nil), s.sh, s.nd, Nat.le_trans s.dp (by decide), Nat.le_trans s.ln (by decide), q⟩
  | d0 e => exact .inr (.inr ⟨_, rfl, e, q⟩)
  | @sc a hs =>
    obtain ⟨dx, k, c, n, ⟨dp, ea, edp⟩, r⟩ := id hs
    exact .inr (.inl ⟨_, dx, _, rfl, ea, _, _, rfl, hs, g, _, rfl, q⟩)
theorem okS_rpS (m : Md) : okS (rpS m) :=
  okS_app (okS_app (okS_app (okS_app (okS_app (fun c hc => by cases hc) (okS_of _)) (okS_of _)) (okS_of _)) (okS_of _)) (okS_of _)
theorem Shw.ok {C : Addr} {m : Md} {H : Hp} {v : V} {z : Str} (h : Shw C m H v z) : PyData.strOk z = true := by
  refine strOk_of ?_
  have fix : ∀ d ∈ [PyData.none, .int 0, .bool true], okS d.shown := fun d hd => by
    obtain ⟨_, b, _, _, l⟩ := sb_fix d hd
    exact shown_ok d l b
  cases h with
  | non => exact fix .none (by simp)
  | int0 => exact fix (.int 0) (by simp)
  | bl => exact fix (.bool true) (by simp)
  | @txt z ok l => exact shown_ok (.str _) (strOk_of ok) rfl
  | @tup a z e ok l => exact shown_ok (.tuple [.str z]) (by rw [PyData.canLay0, PyData.canLayAll0, PyData.canLay0, strOk_of ok]; rfl) rfl
  | @lst a z e ok l => exact shown_ok (.list [.str z]) (by rw [PyData.canLay0, PyData.canLayAll0, PyData.canLay0, strOk_of ok]; rfl) rfl
  | d0 e => exact okS_of "{}"
  | sc hs => exact okS_rpS m
theorem Shw.keep {C : Addr} {m : Md} {H H' : Hp} {v : V} {z : Str} (h : Shw C m H v z) (s : ExtN H H') : Shw C m H' v z := by
  cases h with
  | non => exact .non
  | int0 => exact .int0
  | bl => exact .bl
  | txt ok l => exact .txt ok l
  | tup e ok l => exact .tup (s _ _ e fun _ z => by cases z) ok l
  | lst e ok l => exact .lst (s _ _ e fun _ z => by cases z) ok l
  | d0 e => exact .d0 (s _ _ e fun _ z => by cases z)
  | sc hs => exact .sc (hs.nt (.ext s))
theorem Shw.same {C : Addr} {m : Md} {H H' : Hp} {v : V} {z : Str} (h : Shw C m H v z) (s : Same H H') : Shw C m H' v z := h.keep (.of s)
/-- what of these is no text -/
theorem Shw.noS {K : PySem.W.Frag} {C : Addr} {m : Md} {H : Hp} {v : V} {z : Str} (h : Shw C m H v z) (Z : SCl K C) (I : SCi K C) (kt : PySem.W.kitOne K (.ref C) (.type "str") = some false) (n : ∀ w, v ≠ .str w) : NoStr K H v := by
  cases h with
  | non => exact ⟨_, .base .non, kit_ty (by decide +kernel)⟩
  | int0 => exact ⟨_, .base (.int 0), kit_ty (by decide +kernel)⟩
  | bl => exact ⟨_, .base (.bl true), kit_ty (by decide +kernel)⟩
  | @txt z ok l => exact absurd rfl (n z)
  | tup e ok l => exact ⟨_, .base (.tup e), kit_ty (by decide +kernel)⟩
  | lst e ok l => exact ⟨_, .base (.lst e), kit_ty (by decide +kernel)⟩
  | d0 e => exact ⟨_, .base (.dT e), kit_ty (by decide +kernel)⟩
  | sc hs => exact ⟨_, .base (hs.ty Z I), kt⟩
/-- the word of an error -/
def spSrt (C IT CE : Addr) : SpE := fun cls d H Q => ∃ x : Addr, d = some x ∧
  ((∃ (v : V) (z : Str) (m : Md), H x = some (.xd [("value", v)]) ∧ Good m ∧ Shw C m H v z ∧ cls = .ref IT ∧ ∀ p H', Same H H' → H' p = some (.lst [.str "InvalidText", .str z]) → Q (.ref p) H') ∨
   (∃ k : Str, H x = some (.xd [("kind", .str k)]) ∧ okS k ∧ k.length ≤ 5000 ∧ cls = .ref CE ∧ ∀ p H', Same H H' → H' p = some (.lst [.str "EmptyKind", .str (PyData.str k).shown]) → Q (.ref p) H'))
section
variable {P : Program} {w : World} {K : PySem.W.Frag} {mg : Str → Option Value} {base : Heap} {C IT CE : Addr}
theorem ok_rpP {f : Addr} {fd : FuncData} (F : Fun K "__repr__" "Schema.__repr__" (cS 10) f fd) (T : TS0 mg) (Z : SCl K C) : FnP P w K mg base 1 f fd ["self"] (spRp C) := by
  refine okP F scRp (fun vs H Q E h => ?_) (fun cv A ou s H vs Q p hr h => ?_)
  · obtain ⟨a, m, rfl, _⟩ := h
    rfl
  obtain ⟨a, m, rfl, ⟨dx, k, c, n, ⟨dp, e, _⟩, ek, ⟨xs, ec, hp⟩, en⟩, g, q⟩ := h
  have ln : xs.length = m.rs.length := Paired.length hp
  refine ⟨_, pss_one (ps_ret (pe_joined (.cons pe_str (.cons (pe_fmt (pe_callB call_len_seq (by rfl) T.len PySem.boot_len (pa_cons (pe_fld (pv 0) rfl) pa_nil))) (.cons pe_str (.cons (pe_fmt (pe_callB call_len_seq (by rfl) T.len PySem.boot_len (pa_cons (pe_fld (pv 0) rfl) pa_nil))) (.cons pe_str .nil))))))), ?_⟩
  have k4 := g.k4
  have r6 := g.r6
  have i1 : ∀ j : Nat, j ≤ 6 → ((j : Nat) : Int).natAbs.log2 < 1920 ∧ (((toString ((j : Nat) : Int) : String) : Str)).length ≤ 1 := by
    intro j hj
    have : ∀ i : _root_.Fin 7, (((i.1 : Nat) : Int)).natAbs.log2 < 1920 ∧ (((toString ((i.1 : Nat) : Int) : String) : Str)).length ≤ 1 := by
      intro i
      refine ⟨?_, ?_⟩
      · have : i.1 < 2 ^ 3 := Nat.lt_trans i.2 (by decide)
        by_cases z : ((i.1 : Nat) : Int).natAbs = 0
        · rw [z]; decide
        · exact (Nat.log2_lt z).mpr (Nat.lt_of_lt_of_le (show ((i.1 : Nat) : Int).natAbs < 2 ^ 3 by omega) (Nat.pow_le_pow_right (by decide) (by decide)))
      · revert i
        decide +kernel
    exact this ⟨j, by omega⟩
  obtain ⟨a1, a2⟩ := i1 m.ks.length (by omega)
  obtain ⟨b1, b2⟩ := i1 m.rs.length (by omega)
  have l1 : (Str.ofString "Schema(").length = 7 := by decide +kernel
  have l2 : (Str.ofString " kinds, ").length = 8 := by decide +kernel
  have l3 : (Str.ofString " constructors)").length = 14 := by decide +kernel
  have l0 : Str.empty.length = 0 := rfl
  have sz := sizeLine_eq
  have e1 : (m.ks.map V.str).length = m.ks.length := List.length_map ..
  rw [← e1] at a1 a2
  rw [← ln] at b1 b2
  have ap := fun x y : Str => Str.length_append x y
  refine ⟨_, rfl, ?_, .ref a, rfl, a, C, dx, _, _, rfl, e, Z.cls, Z.nk, scF_k, k, _, rfl, .inr (SqT.of ek), .inr ⟨_, rfl, a1, _, rfl, ?_, _, rfl, ?_, .ref a, rfl, a, C, dx, _, _, rfl, e, Z.cls, Z.nc, scF_c, c, _, rfl, .inr ec.sq, .inr ⟨_, rfl, b1, _, rfl, ?_, _, rfl, ?_, ?_⟩⟩⟩
  · rw [ap, l0, l1]; omega
  · rw [ap, ap, l0, l1]; omega
  · rw [ap, ap, ap, l0, l1, l2]; omega
  · rw [ap, ap, ap, ap, l0, l1, l2]; omega
  · rw [ap, ap, ap, ap, ap, l0, l1, l2, l3]; omega
  · rw [e1, ln]
    exact q
theorem ok_srt {f fr : Addr} {fd fdr : FuncData} (F : Fun K "_law_sort" "_law_sort" sSrt f fd) (mi : mg "isinstance" = none) (mr : mg "repr" = none) (gP : mg "InvalidText" = some (.ref IT)) (gT : mg "EmptyKind" = some (.ref CE)) (XP : XC K IT) (XT : XC K CE)
    (nP : PySem.W.findIn K (.ref IT) "value" = some none) (nT : PySem.W.findIn K (.ref CE) "kind" = some none) (kP : PySem.W.kitOne K (.ref IT) (.ref IT) = some true) (kTP : PySem.W.kitOne K (.ref CE) (.ref IT) = some false) (kT : PySem.W.kitOne K (.ref CE) (.ref CE) = some true)
    (Drp : Dm K C "__repr__" fr) (Frp : FnP P w K mg base 1 fr fdr ["self"] (spRp C)) (brp : Binds K fdr ["self"] []) : FnE P w K mg base 6 f fd "_law_e" (spSrt C IT CE) := by
  refine okE F scSrt fun cv A ou s H p cls d Q hG hR hz hf h => ?_
  have hu : (A.deeper (envOfC "_law_sort" (defScope sSrt) s.heap.objs.size f cv)).units + 64 < cLine := by
    have := hR.un
    omega
  have hG2 : (A.deeper (envOfC "_law_sort" (defScope sSrt) s.heap.objs.size f cv)).guards = some [] := hG
  have hR2 : L2H.RoomH 2 (A.deeper (envOfC "_law_sort" (defScope sSrt) s.heap.objs.size f cv)) := hR.mono (by decide)
  refine ⟨_, pss_cons (ps_if (pt_val (pe_callB call_isP (by rfl) mi boot_isinstance (pa_cons (pv 0) (pa_cons (pe_glob (v := .ref IT) (by rfl) gP rfl) pa_nil))))
      (pss_one (ps_ret (pe_lst (pa_cons pe_str (pa_cons (pe_callB (call_or (call_showV hG2 hu) (call_or (call_reprP Drp Frp hR2 brp ⟨p, List.mem_singleton.mpr rfl⟩) (call_reprD0 hG2 hu))) (by rfl) mr boot_repr (pa_cons (pe_fp (f := "value") (pv 0)) pa_nil)) pa_nil))))) pss_nil)
    (pss_cons (ps_if (pt_val (pe_callB call_isP (by rfl) mi boot_isinstance (pa_cons (pv 0) (pa_cons (pe_glob (v := .ref CE) (by rfl) gT rfl) pa_nil))))
      (pss_one (ps_ret (pe_lst (pa_cons pe_str (pa_cons (pe_callB (call_showV hG2 hu) (by rfl) mr boot_repr (pa_cons (pe_fp (f := "kind") (pv 0)) pa_nil)) pa_nil))))) pss_nil)
    (pss_one (ps_ret (pe_lst (pa_cons pe_str pa_nil))))), ?_⟩
  obtain ⟨x, rfl, h⟩ := h
  rcases h with ⟨v, z, m, ex, g, sv, rfl, q⟩ | ⟨k, ex, ok, lk, rfl, q⟩
  · have pn : Pnd (L2H.cxH CX0 P w K mg base ["_law_e"] "_law_sort" (defScope sSrt) f cv A ou s H E0 p) p.1 IT x := ⟨p.2, List.mem_singleton.mpr rfl, hz, hf⟩
    refine ⟨.ref p.1, rfl, p.1, IT, x, _, .ref IT, .ref IT, true, rfl, pn, ex, .own _, XP, kP, _, rfl, iteT ?_⟩
    exact ⟨.ref p.1, rfl, p.1, IT, x, _, v, rfl, pn, XP, nP, ex, rfl, sv.show g ⟨(by show 2 ≤ sizeLine; decide), fun L nL => q L _ (same_new nL) upd_same⟩⟩
  · have pn : Pnd (L2H.cxH CX0 P w K mg base ["_law_e"] "_law_sort" (defScope sSrt) f cv A ou s H E0 p) p.1 CE x := ⟨p.2, List.mem_singleton.mpr rfl, hz, hf⟩
    have sb := sb_any ok lk
    refine ⟨.ref p.1, rfl, p.1, CE, x, _, .ref IT, .ref IT, false, rfl, pn, ex, .own _, XT, kTP, _, rfl, iteF ?_⟩
    refine ⟨.ref p.1, rfl, p.1, CE, x, _, .ref CE, .ref CE, true, rfl, pn, ex, .own _, XT, kT, _, rfl, iteT ?_⟩
    refine ⟨.ref p.1, rfl, p.1, CE, x, _, .str k, rfl, pn, XT, nT, ex, rfl, .str k, .str k, rfl, .str k, sb.sh, sb.nd, Nat.le_trans sb.dp (by decide), Nat.le_trans sb.ln (by decide), ?_⟩
    exact ⟨(by show 2 ≤ sizeLine; decide), fun L nL => q L _ (same_new nL) upd_same⟩
end
end Ks
set_option Elab.async false
set_option linter.all false
set_option maxRecDepth 100000
set_option maxHeartbeats 4000000
namespace Ks
open PySem PySem.Spec PyProof.Rows L2 Gd Kx
abbrev sLnm : Stmt := Kx.topS 36
theorem scLnm : FnScope ["_law_thing", "_law_small", "_law_sign"] ["_law_thing"] (defScope sLnm) := ⟨rfl, rfl, rfl, by decide +kernel, rfl, by decide +kernel, by decide +kernel⟩
abbrev sTxt : Stmt := Kx.topS 33
abbrev nTxt : List Str := ["_law_model_here", "_law_lines", "_law_kind", "_law_row"]
theorem scTxt : FnScope nTxt ["_law_model_here"] (defScope sTxt) := ⟨rfl, rfl, rfl, by decide +kernel, rfl, by decide +kernel, by decide +kernel⟩
abbrev sEmp : Stmt := Kx.topS 38
abbrev nEmp : List Str := ["_law_model_here", "_law_full", "_law_turn", "_law_row", "_law_left", "_law_field", "_law_kind"]
theorem scEmp : FnScope nEmp ["_law_model_here"] (defScope sEmp) := ⟨rfl, rfl, rfl, by decide +kernel, rfl, by decide +kernel, by decide +kernel⟩
theorem asTT {X : Cx} {es : List Expr} {t t' : TT} (h : PTs X es t') (q : t' = t) : PTs X es t := q ▸ h
theorem at_zero (z : V) (r : List V) : atI (z :: r) 0 = some z := by
  unfold atI ixN
  simp
def dLs (ss : List Str) : PyData := .list (ss.map .str)
theorem eqv_ls (a b : List Str) : PyData.eqv (dLs a) (dLs b) = decide (a = b) := eqvAll_map eqv_str a b
theorem sh_ls {ss : List Str} (h : ∀ s ∈ ss, nmS s = true) : SeqAt.shaped (dLs ss) = true := by
  obtain ⟨h1, h2⟩ := lay_ss h
  have e1 : (dLs ss).canLay0 = (dSs ss).canLay0 := rfl
  have e2 : (dLs ss).depth = (dSs ss).depth := by
    unfold dLs dSs
    rw [PyData.depth, PyData.depth]
  unfold SeqAt.shaped
  rw [e1, h1, e2, decide_eq_true (by omega)]
  rfl
theorem picked_strs {p : Str → Bool} (ws : List Str) : picked (ws.map fun z => (p z, V.str z)) = (ws.filter p).map V.str := by
  unfold picked
  induction ws with
  | nil => rfl
  | cons r t ih =>
    cases h : p r <;> simp [h] <;> simpa using ih
section
variable {P : Program} {w : World} {K : PySem.W.Frag} {mg : Str → Option Value} {base : Heap}
def spLnm : Sp := fun vs H Q _ => ∃ z : Str, vs = [.str z] ∧ z.length ≤ 1000 ∧ ∀ H', Same H H' → Q (.bl (nmS z)) H'
theorem ok_lnm {f : Addr} {fd : FuncData} (F : Fun K "_law_is_name" "_law_is_name" sLnm f fd) (T : TS0 mg) : FnOk P w K mg base CX0 1 f fd ["_law_thing"] spLnm := by
  refine F.ok scLnm (fun vs H Q E h => ?_) (fun cv A ou s H vs Q E hr h => ?_)
  · obtain ⟨z, rfl, _⟩ := h
    rfl
  obtain ⟨z, rfl, hz, q⟩ := h
  refine ⟨_, pss_cons (ps_set (i := 1) scLnm.nd rfl (.inr rfl) pe_str)
    (pss_cons (ps_if (PW.pt (pw_or (pt_not (pt_chain op_lt op_lt pe_int (pe_callB call_len_str (by rfl) T.len PySem.boot_len (pa_cons (pv 0) pa_nil)) pe_int)) (pw_or1 (pt_cmpR op_notIn_sign (pe_ix ix_str (pv 0) pe_int (fun _ _ => rfl)) (pv 1) rfl))))
      (pss_one (ps_ret pe_bl)) pss_nil)
    (pss_one (ps_ret (pe_callB (cr_all rfl) (by rfl) T.all boot_all (pa_cons (pe_lc (own := [("_law_sign", 2)]) (g := gName 2) (tt := tYes) rfl scLnm.nd (pi_str (pv 0)) (blkOk_by (own := [("_law_sign", 2)]) (N := ["_law_thing", "_law_small", "_law_sign"]) (sc := defScope sLnm) (by decide +kernel))
        (fun _ _ _ _ _ => pg_name (i := 2) scLnm.nd rfl (Or.inl rfl)) (fun _ _ _ _ _ => pts_nil) (fun _ _ _ _ _ => pe_or (pe_cmpR op_in_sign (pv 2) (pv 1) rfl) (pe_one (pe_cmpR op_in_sign (pv 2) pe_str rfl)))) pa_nil))))), ?_⟩
  have ez := len_list z
  refine ⟨.str z, rfl, z, rfl, small1000 hz |> Nat.le_of_lt, ?_⟩
  refine ⟨_, _, rfl, rfl, _, rfl, ?_⟩
  by_cases h1 : 1 ≤ z.length
  rotate_left
  · rw [decide_eq_false (show ¬ (0 : Int) < ((z.length : Nat) : Int) by omega)]
    have q2 := q H fun _ _ e => e
    rw [nm_empty (by omega)] at q2
    exact iteF ⟨_, rfl, iteT (iteT q2)⟩
  rw [decide_eq_true (show (0 : Int) < ((z.length : Nat) : Int) by omega)]
  refine iteT ⟨_, _, rfl, rfl, _, rfl, ?_⟩
  by_cases h8 : z.length ≤ 8
  rotate_left
  · rw [decide_eq_false (show ¬ ((z.length : Nat) : Int) < 9 by omega)]
    have q2 := q H fun _ _ e => e
    rw [nm_long h8] at q2
    exact iteT (iteT q2)
  rw [decide_eq_true (show ((z.length : Nat) : Int) < 9 by omega)]
  obtain ⟨c, r, ec⟩ := ne_cons h1
  have en : nmS z = (inL c && z.cps.toList.all inN) := nm_short ec h8
  refine iteF ⟨.str z, rfl, z, 0, c, rfl, rfl, Nat.le_of_lt (small1000 hz), atI_nat (j := 0) (by rw [ec]; rfl), .str lets, rfl, c, lets, rfl, rfl, _, rfl, ?_⟩
  cases e3 : inL c with
  | false =>
    have e3' : decide (c ∈ lets.cps.toList) = false := e3
    rw [e3']
    have q2 := q H fun _ _ e => e
    rw [en, e3, Bool.false_and] at q2
    exact iteT q2
  | true =>
    have e3' : decide (c ∈ lets.cps.toList) = true := e3
    rw [e3']
    refine iteF ⟨.str z, rfl, z, rfl, fun D nD => lc_strY (x := z) (fun i H2 => Same H H2 ∧ H2 D = some (.lst ((z.cps.toList.take i).map fun c => V.bl (inN c)))) (fun _ => rfl) ⟨same_new nD, upd_same⟩ ?_ ?_⟩
    · rintro i y H2 hi ⟨s2, eD⟩
      have fin : ∃ acc, H2 D = some (.lst acc) ∧ acc.length < sizeLine ∧ (Same H (upd H2 D (.lst (acc ++ [V.bl (inN y)]))) ∧ (upd H2 D (.lst (acc ++ [V.bl (inN y)]))) D = some (.lst ((z.cps.toList.take (i + 1)).map fun c => V.bl (inN c)))) := by
        refine ⟨_, eD, ?_, ?_, ?_⟩
        · rw [List.length_map, List.length_take]
          exact small1000 (by omega)
        · intro b o e
          rw [upd_ne (ne_of_none e nD)]
          exact s2 b o e
        · rw [upd_same, List.take_add_one, hi]
          simp [inN]
      rw [inN_eq] at fin
      refine ⟨_, rfl, .str lets, rfl, y, lets, rfl, rfl, _, rfl, ite2 (fun e4 => ?_) (fun e4 => ?_)⟩
      · have e5 : inL y = true := e4
        rw [e5, Bool.true_or] at fin
        exact fin
      · have e5 : inL y = false := Bool.eq_false_iff.mpr e4
        rw [e5, Bool.false_or] at fin
        exact ⟨_, rfl, y, digs, rfl, rfl, fin⟩
    · rintro H2 ⟨s2, eD⟩
      rw [List.take_length] at eD
      refine ⟨D, z.cps.toList.map inN, rfl, SqL.of (by rw [eD, List.map_map]; rfl), ?_⟩
      have q2 := q H2 s2
      rw [en] at q2
      have : (inL c && z.cps.toList.all inN) = (z.cps.toList.map inN).all id := by
        rw [e3, Bool.true_and, List.all_map]
        rfl
      rw [this] at q2
      exact q2
def spTxt : Sp := fun vs H Q _ => ∃ (a : Addr) (m : Md), vs = [.ref a] ∧ MdAt H a m ∧ GoodN m ∧ ∀ H' : Hp, Same H H' → Q (.str (mdT m)) H'
set_option maxHeartbeats 8000000 in
theorem ok_txt {f : Addr} {fd : FuncData} (F : Fun K "_law_text" "_law_text" sTxt f fd) (T : TS0 mg) (ml : mg "list" = none) : FnOk P w K mg base CX0 1 f fd ["_law_model_here"] spTxt := by
  refine F.ok scTxt (fun vs H Q E h => ?_) (fun cv A ou s H vs Q E hr h => ?_)
  · obtain ⟨a, m, rfl, _⟩ := h
    rfl
  obtain ⟨a, m, rfl, ha, g, q⟩ := h
  refine ⟨_, pss_cons (ps_setLc (i := 1) (own := [("_law_kind", 2)]) (g := gName 2) (tt := tYes) (by rfl) scTxt.nd rfl rfl (sw_true rfl rfl rfl (by decide +kernel)) (pi_tup (pe_ix ix_tup (pv 0) pe_int (fun _ _ => rfl))) (blkOk_by (own := [("_law_kind", 2)]) (N := nTxt) (sc := defScope sTxt) (by decide +kernel))
      (fun _ _ _ _ _ => pg_name (i := 2) scTxt.nd rfl (Or.inl rfl)) (fun _ _ _ _ _ => pts_nil) (fun _ _ _ _ _ => pe_op op_add_str pe_str (pv 2)))
    (pss_one (ps_ret (pe_join pe_str (pe_op op_cat (pv 1) (pe_lc (own := [("_law_row", 3)]) (g := gName 3) (tt := tYes) (by rfl) scTxt.nd (pi_tup (pe_ix ix_tup (pv 0) pe_int (fun _ _ => rfl))) (blkOk_by (own := [("_law_row", 3)]) (N := nTxt) (sc := defScope sTxt) (by decide +kernel))
      (fun _ _ _ _ _ => pg_name (i := 3) scTxt.nd rfl (Or.inl rfl)) (fun _ _ _ _ _ => pts_nil)
      (fun _ _ _ _ _ => asTE (te := tM1 (rJoin K) (tC (.str " ")) (tOp (rCat) (tLst (tCons (tC (.str "make")) (tCons (tOp (rIxT K) (tVar 3) (tC (.int 0))) (tCons (tOp (rIxT K) (tVar 3) (tC (.int 1))) tNil)))) (tCB (fun xs H Q => ∃ p ys, xs = [.ref p] ∧ (SqL K H p ys ∨ SqT K H p ys) ∧ ∀ l, H l = none → Q (.ref l) (upd H l (.lst ys))) (tCons (tOp (rIxT K) (tVar 3) (tC (.int 2))) tNil))))
        (pe_join pe_str (pe_op op_cat (pe_lst (pa_cons pe_str (pa_cons (pe_ix ix_tup (pv 3) pe_int (fun _ _ => rfl)) (pa_cons (pe_ix ix_tup (pv 3) pe_int (fun _ _ => rfl)) pa_nil)))) (pe_callTy call_list_of (by rfl) ml boot_list (pa_cons (pe_ix ix_tup (pv 3) pe_int (fun _ _ => rfl)) pa_nil)))) rfl)))))), ?_⟩
  obtain ⟨k, c, ea, hk, hc⟩ := ha
  obtain ⟨xs, hc1, pc⟩ := id hc
  have lx : xs.length = m.rs.length := Paired.length pc
  have k4 := g.k.k4
  have r6 := g.r.r6
  have sz := sizeLine_eq
  have l5 : (Str.ofString "kind ").length = 5 := by decide +kernel
  have l1 : (Str.ofString " ").length = 1 := by decide +kernel
  have ln1 : (Str.ofString "\n").length = 1 := by decide +kernel
  have hk' : H k = some (.tup (m.ks.map V.str)) := hk
  refine ⟨.ref a, rfl, a, _, _, .ref k, rfl, rfl, SqT.of ea, rfl, k, rfl, ⟨_, SqT.of hk'⟩, fun D nD => lc_funT (K := K) (a := k) (xs := m.ks.map V.str) (ys := (m.ks.map kdT).map V.str) (fun _ => rfl) nD (SqT.of hk') (by rw [List.length_map]; omega) (by rw [List.length_map, List.length_map, List.length_map]) (fun i x y H1 hx hy s1 q => ?_) fun H1 s1 eD => ?_⟩
  · intro kk
    rw [List.getElem?_map] at hx hy
    rw [List.getElem?_map] at hy
    cases ek : m.ks[i]? with
    | none => rw [ek] at hx; cases hx
    | some z =>
      rw [ek] at hx hy
      cases hx
      cases hy
      have := g.kl (List.mem_of_getElem? ek)
      exact ⟨.str z, rfl, _, _, rfl, rfl, by omega, kk H1 fun _ _ e => e⟩
  · have ea1 := s1 _ _ ea
    have hc2 := hc1.keep s1
    refine ⟨⟨_, rfl⟩, .ref D, rfl, .ref a, rfl, a, _, _, .ref c, rfl, rfl, SqT.of ea1, rfl, c, rfl, ⟨_, hc2.sq⟩, fun D2 nD2 => lc_tup (K := K) (a := c) (xs := xs) (fun i H' => i ≤ xs.length ∧ Same H1 H' ∧ H' D2 = some (.lst (((m.rs.take i).map mkT).map V.str))) ⟨Nat.zero_le _, same_new nD2, upd_same⟩ (fun i H' _ p => (hc2.keep p.2.1).sq) (fun i x H' hx p => ?_) fun H' p => ?_⟩
    · obtain ⟨hi, s4, eD2⟩ := p
      obtain ⟨r, hr2, b, fa, rfl, hb, hf⟩ := rows_at pc hx
      have hlt : i < xs.length := (List.getElem?_eq_some_iff.mp hx).1
      have hrm := List.mem_of_getElem? hr2
      have s14 := s1.trans s4
      have hb4 := s14 _ _ hb
      have hf4 : H' fa = some (.tup (r.2.2.map V.str)) := s14 _ _ hf
      have rl := (g.r.ok r hrm).l
      refine ⟨rfl, Gd.yes_if ⟨⟨_, rfl⟩, .ref b, rfl, b, _, _, .str r.1, rfl, rfl, SqT.of hb4, rfl, .ref b, rfl, b, _, _, .str r.2.1, rfl, rfl, SqT.of hb4, rfl, (by show 3 ≤ sizeLine; omega), fun L1 nL1 => ?_⟩⟩
      have sL1 := same_new (o := .lst [V.str (Str.ofString "make"), .str r.1, .str r.2.1]) nL1
      refine ⟨.ref b, rfl, b, _, _, .ref fa, rfl, rfl, SqT.of (sL1 _ _ hb4), rfl, fa, _, rfl, .inr (SqT.of (sL1 _ _ hf4)), fun L2 nL2 => ?_⟩
      have sL2 := same_new (o := .lst (r.2.2.map V.str)) nL2
      refine ⟨L1, L2, _, _, rfl, rfl, sL2 _ _ upd_same, upd_same, ?_, fun L nL => ?_⟩
      · rw [List.length_map]
        show 3 + _ ≤ _
        omega
      · have sL := same_new (o := .lst ([V.str (Str.ofString "make"), .str r.1, .str r.2.1] ++ r.2.2.map V.str)) nL
        have sB := sL1.trans (sL2.trans sL)
        refine ⟨_, L, wdsT r, rfl, rfl, .inl (SqL.of (by rw [upd_same]; rfl)), ?_, _, sB _ _ eD2, ?_, hlt, ?_, ?_⟩
        · have u := sum_le (wds_le g hrm)
          have v := wds_n g hrm
          rw [l1]
          omega
        · rw [List.length_map, List.length_map, List.length_take]
          exact Nat.lt_of_le_of_lt (Nat.min_le_left _ _) (by omega)
        · intro x o e
          rw [upd_ne (ne_of_none e nD2)]
          exact (s4.trans sB) _ _ e
        · rw [upd_same, List.take_add_one, hr2, Option.toList_some, List.map_append, List.map_append]
          rfl
    · obtain ⟨_, s4, eD2⟩ := p
      rw [lx, List.take_length] at eD2
      have eD4 := s4 _ _ eD
      refine ⟨D, D2, _, _, rfl, rfl, eD4, eD2, ?_, fun L nL => ?_⟩
      · have := lin_n g
        rw [List.length_map, List.length_map, List.length_map, List.length_map]
        omega
      · have es : (m.ks.map kdT).map V.str ++ (m.rs.map mkT).map V.str = (linT m).map V.str := by rw [← List.map_append]; rfl
        have sL := same_new (o := .lst ((m.ks.map kdT).map V.str ++ (m.rs.map mkT).map V.str)) nL
        refine ⟨_, L, linT m, rfl, rfl, .inl (SqL.of (by rw [upd_same, es])), ?_, q _ (s1.trans (s4.trans sL))⟩
        have u := sum_le (lin_le g)
        have v := lin_n g
        rw [ln1]
        omega
def empS (ks : List Str) (rs : List Rw) : Str := (emp ks rs).getD (Str.ofString "")
def spEmp : Sp := fun vs H Q _ => ∃ (D0 a c : Addr) (ks : List Str) (rs : List Rw), vs = [.ref D0] ∧ H D0 = some (.lst [.ref a, .ref c]) ∧ StT H a ks ∧ RowsT H c rs ∧ KsOk ks ∧ (∀ r ∈ rs, RwOk ks r) ∧ rs.length ≤ 6 ∧ ∀ H', Same H H' → Q (.str (empS ks rs)) H'
set_option maxHeartbeats 8000000 in
theorem ok_emp {f : Addr} {fd : FuncData} (F : Fun K "_law_empty" "_law_empty" sEmp f fd) (T : TS0 mg) : FnOk P w K mg base CX0 1 f fd ["_law_model_here"] spEmp := by
  refine F.ok scEmp (fun vs H Q E h => ?_) (fun cv A ou s H vs Q E hr h => ?_)
  · obtain ⟨D0, a, c, ks, rs, rfl, _⟩ := h
    rfl
  obtain ⟨D0, a, c, ks, rs, rfl, hD, hs, ⟨xs, hc, hp⟩, gk, g, r6, q⟩ := h
  have k4 := gk.k4
  have ln : xs.length = rs.length := Paired.length hp
  have hu := hr.units
  refine ⟨_, pss_cons (ps_set (i := 1) scEmp.nd rfl (.inr rfl) (pe_lst pa_nil))
    (pss_cons (ps_for PassesOwn.never rfl (pi_range1 rfl T.rng (pa_cons (pe_callB call_len_seq (by rfl) T.len PySem.boot_len (pa_cons (pe_ix ix_list (pv 0) pe_int (fun _ _ => rfl)) pa_nil)) pa_nil)) (pg_name (i := 2) scEmp.nd rfl (.inl rfl))
      (pss_one (ps_for PassesOwn.never rfl (pi_tup (pe_ix ix_list (pv 0) pe_int (fun _ _ => rfl))) (pg_name (i := 3) scEmp.nd rfl (.inl rfl))
        (pss_one (ps_if (PW.pt (pw_and (pt_cmpR op_notIn_seq (pe_ix ix_tup (pv 3) pe_int (fun _ _ => rfl)) (pv 1) (by rfl)) (pw_and1 (pt_val (pe_callB (cr_all rfl) (by rfl) T.all boot_all (pa_cons (pe_lc (own := [("_law_field", 5)]) (g := gName 5) (tt := tYes) rfl scEmp.nd (pi_tup (pe_ix ix_tup (pv 3) pe_int (fun _ _ => rfl))) (blkOk_by (own := [("_law_field", 5)]) (N := nEmp) (sc := defScope sEmp) (by decide +kernel))
            (fun _ _ _ _ _ => pg_name (i := 5) scEmp.nd rfl (Or.inl rfl)) (fun _ _ _ _ _ => pts_nil)
            (fun _ _ _ _ _ => asTE (te := tOp (rIn K false) (tVar 5) (tVar 1)) (pe_cmpR op_in_seq (pv 5) (pv 1) (by rfl)) rfl)) pa_nil))))))
          (pss_one (ps_expr (pe_bm PySem.F.plainAttrs_list PySem.F.slot_list_append PySem.F.type_list_append mt_append (pv 1) (pa_cons (pe_ix ix_tup (pv 3) pe_int (fun _ _ => rfl)) pa_nil)))) pss_nil)))))
    (pss_cons (ps_setLc (i := 4) (own := [("_law_kind", 6)]) (g := gName 6) (tt := tTest (tOp (rIn K true) (tVar 6) (tVar 1))) (by rfl) scEmp.nd rfl rfl (sw_true rfl rfl rfl (by decide +kernel)) (pi_tup (pe_ix ix_list (pv 0) pe_int (fun _ _ => rfl)))
        (blkOk_by (own := [("_law_kind", 6)]) (N := nEmp) (sc := defScope sEmp) (by decide +kernel)) (fun _ _ _ _ _ => pg_name (i := 6) scEmp.nd rfl (Or.inl rfl))
        (fun _ _ _ _ _ => asTT (pts_one (pt_cmpR op_notIn_seq (pv 6) (pv 1) (by rfl))) rfl) (fun _ _ _ _ _ => pv 6))
    (pss_one (ps_ret (pe_ifExp (pt_cmpR (op_neD hu) (pv 4) (pe_lst pa_nil) (nomark _)) (pe_ix ix_list (pv 4) pe_int (fun _ _ => rfl)) pe_str))))), ?_⟩
  refine ⟨(by show 0 ≤ sizeLine; exact Nat.zero_le _), fun L nL => ?_⟩
  refine ⟨.ref D0, rfl, D0, _, _, .ref a, rfl, rfl, SqL.of (same_new nL _ _ hD), rfl, a, _, rfl, .inr (SqT.of (same_new nL _ _ hs)), _, rfl, ?_, ?_, for_range (fun i σ H' => ∃ (o3 o4 : Option V) (fl : List Str), σ = [some (.ref D0), some (.ref L), o3, o4, none, none, none] ∧ Same H H' ∧ H' L = some (.lst (fl.map V.str)) ∧ FullK ks fl ∧ fl = rds rs i)
    ⟨none, none, [], rfl, same_new nL, upd_same, ⟨.nil, fun x hx => by cases hx⟩, rfl⟩ ?_ ?_⟩
  · omega
  · rw [List.length_map]
    omega
  · rintro i σ H1 hi ⟨o3, o4, fl, rfl, s1, eL, fu, al⟩
    refine ⟨.ref D0, rfl, D0, _, _, .ref c, rfl, rfl, SqL.of (s1 _ _ hD), rfl, c, rfl, ⟨_, (hc.keep s1).sq⟩, for_tup (K := K) (a := c) (xs := xs) (fun j σ H' => ∃ (o4 : Option V) (fl : List Str), σ = [some (.ref D0), some (.ref L), some (.int (0 + (i : Int))), o4, none, none, none] ∧ Same H H' ∧ H' L = some (.lst (fl.map V.str)) ∧ FullK ks fl ∧ fl = (rs.take j).foldl stp (rds rs i))
      ⟨o4, fl, rfl, s1, eL, fu, al⟩ (fun j σ H' _ p => ?_) ?_ ?_⟩
    · obtain ⟨_, _, _, s2, _⟩ := p
      exact (hc.keep s2).sq
    · clear eL fu al
      rintro j x σ H2 hx ⟨o4, fl, rfl, s2, eL, fu, al⟩
      obtain ⟨r, hr2, b, fa, rfl, hb, hf⟩ := rows_at hp hx
      have hrm := List.mem_of_getElem? hr2
      have hb2 := s2 _ _ hb
      have hf2 : StT H2 fa r.2.2 := s2 _ _ hf
      have l4 := fu.len k4
      have gf := (g r hrm).l
      have tk : stp fl r = (rs.take (j + 1)).foldl stp (rds rs i) := by
        rw [List.take_add_one, hr2, List.foldl_append, ← al]
        rfl
      refine ⟨.ref b, rfl, b, _, _, .str r.2.1, rfl, rfl, SqT.of hb2, rfl, .ref L, rfl, L, _, rfl, .inl (SqL.of eL), rfl, all_flat _, _, rfl, ?_⟩
      rw [if_pos rfl, inV_str]
      by_cases hk : r.2.1 ∈ fl
      · rw [decide_eq_true hk]
        refine iteF (iteF ?_)
        exact ⟨_, fl, rfl, s2, eL, fu, by rw [← tk, stp, if_neg (fun h => h.1 hk)]⟩
      · rw [decide_eq_false hk]
        refine iteT ?_
        refine ⟨.ref b, rfl, b, _, _, .ref fa, rfl, rfl, SqT.of hb2, rfl, fa, rfl, ⟨_, SqT.of hf2⟩, fun D nD => lc_funT (K := K) (a := fa) (xs := r.2.2.map V.str) (ys := (r.2.2.map fun z => decide (z ∈ fl)).map V.bl) (fun _ => rfl) nD (SqT.of hf2) (by rw [List.length_map]; omega) (by rw [List.length_map, List.length_map, List.length_map]) (fun n x y H3 hx hy s3 q => ?_) fun H3 s3 eD => ?_⟩
        · intro k
          rw [List.getElem?_map] at hx
          cases e : r.2.2[n]? with
          | none => rw [e] at hx; cases hx
          | some z =>
            rw [e] at hx
            cases hx
            rw [List.getElem?_map, List.getElem?_map, e] at hy
            cases hy
            refine ⟨.str z, rfl, .ref L, rfl, L, _, rfl, .inl (SqL.of (s3 _ _ eL)), rfl, all_flat _, ?_⟩
            rw [if_neg (by decide), inV_str]
            exact k H3 fun _ _ e => e
        · refine ⟨D, _, rfl, SqL.of eD, _, rfl, ?_⟩
          have eL3 := s3 _ _ eL
          have s4 := s2.trans s3
          cases hb : (r.2.2.map fun z => decide (z ∈ fl)).all id with
          | false =>
            refine iteF ⟨_, fl, rfl, s4, eL3, fu, ?_⟩
            rw [← tk, stp, if_neg (fun h => ?_)]
            rw [all_in, h.2] at hb
            cases hb
          | true =>
            refine iteT ⟨.ref L, rfl, .inl ⟨rfl, _, SqL.of eL3⟩, .ref b, rfl, b, _, _, .str r.2.1, rfl, rfl, SqT.of (s3 _ _ hb2), rfl, L, _, _, rfl, rfl, eL3, ?_, _, fl ++ [r.2.1], rfl, same_upd s4 nL, ?_, ⟨?_, ?_⟩, by rw [← tk, stp, if_pos ⟨hk, by rw [← all_in]; exact hb⟩]⟩
            · rw [List.length_map]
              exact small1000 (by omega)
            · rw [upd_same, List.map_append]
              rfl
            · rw [List.nodup_append]
              exact ⟨fu.nd, List.nodup_cons.mpr ⟨by simp, .nil⟩, fun x hx y hy e => hk (by rw [List.mem_singleton.mp hy] at e; rw [← e]; exact hx)⟩
            · intro x hx
              rcases List.mem_append.mp hx with z | z
              · exact fu.sub x z
              · rw [List.mem_singleton.mp z]
                exact (g r hrm).k
    · clear eL fu al
      rintro σ H2 ⟨o4, fl, rfl, s2, eL, fu, al⟩
      refine ⟨_, o4, fl, rfl, s2, eL, fu, ?_⟩
      rw [al, ln, List.take_length]
      rfl
  · rintro σ H1 ⟨o3, o4, fl, rfl, s1, eL, fu, al⟩
    have al2 : fl = fullOf ks rs := by rw [al, List.length_map]; rfl
    have l4 := fu.len k4
    refine ⟨.ref D0, rfl, D0, _, _, .ref a, rfl, rfl, SqL.of (s1 _ _ hD), rfl, a, rfl, ⟨_, SqT.of (s1 _ _ hs)⟩, fun D nD => ?_⟩
    refine lc_selT (K := K) (a := a) (xs := ks.map V.str) (zs := ks.map fun z => (!decide (z ∈ fl), V.str z)) (fun _ => rfl) nD (SqT.of (s1 _ _ hs)) (by rw [List.length_map]; omega) (by rw [List.length_map, List.length_map]) (fun i x y H3 hx hy s3 p => ?_) (fun i x y H3 hx hy hb s3 p => ?_) fun H3 s3 eD => ?_
    · intro kk
      rw [List.getElem?_map] at hx hy
      cases ez : ks[i]? with
      | none => rw [ez] at hx; cases hx
      | some z =>
        rw [ez] at hx hy
        cases hx
        cases hy
        refine ⟨.str z, rfl, .ref L, rfl, L, _, rfl, .inl (SqL.of (s3 _ _ eL)), rfl, all_flat _, _, rfl, ?_⟩
        rw [if_pos rfl, inV_str]
        exact kk H3 fun _ _ e => e
    · intro kk
      rw [List.getElem?_map] at hx hy
      cases ez : ks[i]? with
      | none => rw [ez] at hx; cases hx
      | some z =>
        rw [ez] at hx hy
        cases hx
        cases hy
        exact ⟨.str z, rfl, kk H3 fun _ _ e => e⟩
    · rw [picked_strs] at eD
      refine ⟨.ref D, rfl, (by show 0 ≤ sizeLine; exact Nat.zero_le _), fun M nM => ?_⟩
      have sM := same_new (H := H3) (o := .lst []) nM
      have eD2 := sM _ _ eD
      refine ⟨dLs (ks.filter fun z => !decide (z ∈ fl)), dLs [], .lst (SqL.of eD2) (dp_strs _), .lst (SqL.of upd_same) .nil, sh_ls fun z hz => gk.kn z (List.mem_filter.mp hz).1, by decide +kernel, _, rfl, ?_⟩
      rw [eqv_ls]
      have ee : emp ks rs = (ks.filter fun z => !decide (z ∈ fl)).head? := by
        rw [al2, List.head?_filter]
        rfl
      cases ef : ks.filter fun z => !decide (z ∈ fl) with
      | nil =>
        rw [ef] at ee
        have e2 : empS ks rs = Str.ofString "" := by rw [empS, ee]; rfl
        rw [e2] at q
        exact iteF (q _ (s1.trans (s3.trans sM)))
      | cons z r =>
        rw [ef] at ee eD2
        have e2 : empS ks rs = z := by rw [empS, ee]; rfl
        rw [e2] at q
        exact iteT ⟨.ref D, rfl, D, _, _, .str z, rfl, rfl, SqL.of eD2, at_zero _ _, q _ (s1.trans (s3.trans sM))⟩
end
end Ks
set_option Elab.async false
set_option linter.all false
set_option maxRecDepth 100000
/-! len(set(x)), x a list of texts, some of them perhaps alike -/
namespace Dd
open PySem PySem.Spec PyProof.Rows
/-- a text put to those that were met -/
def put (acc : List Str) (x : Str) : List Str := if x ∈ acc then acc else acc ++ [x]
/-- the texts, each where it was met first -/
def dd (xs : List Str) : List Str := xs.foldl put []
theorem dd_snoc (xs : List Str) (x : Str) : dd (xs ++ [x]) = put (dd xs) x := by
  unfold dd
  rw [List.foldl_append]
  rfl
theorem foldl_mem : ∀ (xs acc : List Str) (k : Str), k ∈ xs.foldl put acc ↔ k ∈ acc ∨ k ∈ xs
  | [], acc, k => by simp
  | x :: r, acc, k => by
    rw [List.foldl_cons, foldl_mem r (put acc x) k]
    unfold put
    split
    · rename_i h
      constructor
      · rintro (a | a)
        · exact .inl a
        · exact .inr (List.mem_cons_of_mem _ a)
      · rintro (a | a)
        · exact .inl a
        · rcases List.mem_cons.mp a with rfl | a
          · exact .inl h
          · exact .inr a
    · constructor
      · rintro (a | a)
        · rcases List.mem_append.mp a with a | a
          · exact .inl a
          · rw [List.mem_singleton.mp a]
            exact .inr (List.mem_cons_self ..)
        · exact .inr (List.mem_cons_of_mem _ a)
      · rintro (a | a)
        · exact .inl (List.mem_append_left _ a)
        · rcases List.mem_cons.mp a with rfl | a
          · exact .inl (List.mem_append_right _ (List.mem_singleton.mpr rfl))
          · exact .inr a
theorem foldl_len : ∀ (xs acc : List Str), (xs.foldl put acc).length ≤ acc.length + xs.length ∧ ((xs.foldl put acc).length = acc.length + xs.length ↔ (xs.Nodup ∧ ∀ x ∈ xs, x ∉ acc))
  | [], acc => by simp
  | x :: r, acc => by
    obtain ⟨h1, h2⟩ := foldl_len r (put acc x)
    rw [List.foldl_cons, List.length_cons, List.nodup_cons]
    by_cases hx : x ∈ acc
    · have e : put acc x = acc := if_pos hx
      rw [e] at h1 h2 ⊢
      exact ⟨by omega, ⟨fun h => by omega, fun h => absurd hx (h.2 x (List.mem_cons_self ..))⟩⟩
    · have e : put acc x = acc ++ [x] := if_neg hx
      rw [e] at h1 h2 ⊢
      rw [List.length_append, List.length_singleton] at h1 h2
      refine ⟨by omega, ⟨fun h => ?_, fun h => ?_⟩⟩
      · obtain ⟨nd, hn⟩ := h2.mp (by omega)
        refine ⟨⟨fun hm => hn x hm (List.mem_append_right _ (List.mem_singleton.mpr rfl)), nd⟩, fun y hy => ?_⟩
        rcases List.mem_cons.mp hy with rfl | hy
        · exact hx
        · exact fun z => hn y hy (List.mem_append_left _ z)
      · have := h2.mpr ⟨h.1.2, fun y hy z => ?_⟩
        · omega
        · rcases List.mem_append.mp z with z | z
          · exact h.2 y (List.mem_cons_of_mem _ hy) z
          · rw [List.mem_singleton.mp z] at hy
            exact h.1.1 hy
theorem dd_mem (xs : List Str) (k : Str) : k ∈ dd xs ↔ k ∈ xs := by
  unfold dd
  rw [foldl_mem]
  simp
theorem dd_le (xs : List Str) : (dd xs).length ≤ xs.length := by
  have := (foldl_len xs []).1
  rw [List.length_nil, Nat.zero_add] at this
  exact this
theorem dd_lt (xs : List Str) : (dd xs).length < xs.length ↔ ¬ xs.Nodup := by
  have h := (foldl_len xs []).2
  have l := dd_le xs
  have h' : (dd xs).length = xs.length ↔ xs.Nodup := by
    have : (dd xs).length = xs.length ↔ (xs.Nodup ∧ ∀ x ∈ xs, x ∉ ([] : List Str)) := by simpa [dd] using h
    rw [this]
    exact ⟨fun a => a.1, fun a => ⟨a, fun _ _ z => by cases z⟩⟩
  constructor
  · intro a b
    have := h'.mpr b
    omega
  · intro a
    by_cases e : (dd xs).length = xs.length
    · exact absurd (h'.mp e) a
    · omega
section
variable {prog : Program} {w : World} {A : Around} {R : Result → Shared → Prop} {I : Addr} {fp wr : List Addr} {G : Array GenState → Array GenState → Prop} {n : Nat} {P : Nat → Value → Prop} {St : Nat → Shared → Prop}
/-- the set holds the texts met before i -/
abbrev Has (prog : Program) (w : World) (xs : List Str) (S : Addr) (i : Nat) (h : Heap) : Prop := h.SetOf (PySem.strKind prog w) S (fun k => decide (k ∈ dd (xs.take i))) (dd (xs.take i)).length
theorem Has.move {xs : List Str} {S : Addr} {i : Nat} {h h' : Heap} (x : Has prog w xs S i h) (k : ∀ o, h.get? S = some o → h'.get? S = some o) : Has prog w xs S i h' := by
  obtain ⟨o, es, ep, tb, ho, rest⟩ := x
  exact ⟨o, es, ep, tb, k _ ho, rest⟩
theorem gather (W : WalksS prog w A.in1 I fp wr G n P St) (S : Addr) (hSf : S ∉ fp) (xs : List Str) (hsz : xs.length = n) (hb : n + 1 < scanBound) (hval : ∀ i v, P i v → ∃ t, v = .str (xs.getD i Str.empty) t) :
    ∀ (k i : Nat) (s : Shared), n - i = k → i ≤ n → St i s → Has prog w xs S i s.heap → (∀ s', Moved (S :: wr) G s s' → Has prog w xs S n s'.heap → R (.ok (.ret .none)) s') →
      codeAny (model prog w) A (.builtin "set.update.loop" ⟨[.ref S, .ref I], []⟩) R s := by
  have out : S ∉ wr := fun h => hSf (W.sub _ h)
  have more : ∀ b ∈ wr, b ∈ S :: wr := fun b hb => List.mem_cons_of_mem _ hb
  intro k
  induction k with
  | zero =>
    intro i s hk hi hst hS hR
    obtain rfl : i = n := by omega
    refine codeAny_builtin PyProof.Rows.F.entry_set_update_loop ?_
    rw [Around.under_plainId PyProof.Rows.F.plain_set_update_loop _]
    show wpAny _ A.in1 (pyNext (.ref I) >>= _) _ _ s
    refine wpAny_bind (W.done s _ _ hst fun s' hm => ?_)
    show wpAny _ A.in1 (ret Value.none) _ _ s'
    exact wpAny_pure (hR s' (hm.mono more) (hS.move fun o => hm.heap S o out))
  | succ k ih =>
    intro i s hk hi hst hS hR
    have hlt : i < n := by omega
    refine codeAny_builtin PyProof.Rows.F.entry_set_update_loop ?_
    rw [Around.under_plainId PyProof.Rows.F.plain_set_update_loop _]
    show wpAny _ A.in1 (pyNext (.ref I) >>= _) _ _ s
    refine wpAny_bind (W.item i s _ _ hlt hst fun v s' hP hst' hm => ?_)
    obtain ⟨t, rfl⟩ := hval i v hP
    have hS' : Has prog w xs S i s'.heap := hS.move fun o => hm.heap S o out
    have gx : xs[i]? = some (xs.getD i Str.empty) := by
      rw [List.getD_eq_getElem?_getD, List.getElem?_eq_getElem (by omega)]
      rfl
    have nx : xs.take (i + 1) = xs.take i ++ [xs.getD i Str.empty] := by rw [List.take_add_one, gx]; rfl
    have room : (dd (xs.take i)).length + 1 < scanBound := by
      have := dd_le (xs.take i)
      rw [List.length_take] at this
      omega
    show wpAny _ A.in1 (holding [Value.str (xs.getD i Str.empty) t] (setAdd S (.str (xs.getD i Str.empty) t)) >>= _) _ _ s'
    refine wpAny_bind (wpAny_holding ?_)
    unfold setAdd
    refine wpAny_holding (wpAny_bind ((PySem.strKind prog w).pyHash (k := xs.getD i Str.empty) (strKind_is _ _ _ _) ?_))
    refine wpAny_setAddHashed_of (knd := PySem.strKind prog w) (s := { s' with toks := s'.toks + 1 }) (strKind_is _ _ _ _) rfl hS' room fun h' same hS2 => ?_
    have hSi : Has prog w xs S (i + 1) h' := by
      refine SetOf_congr hS2 (fun k' => ?_) ?_
      · rw [nx, dd_snoc]
        unfold put
        split
        · rename_i hm
          by_cases e : k' = xs.getD i Str.empty
          · rw [e, decide_eq_true hm]
            rfl
          · rw [decide_eq_false e, Bool.or_false]
        · rw [Bool.eq_iff_iff]
          simp
      · rw [nx, dd_snoc]
        unfold put
        by_cases hm : xs.getD i Str.empty ∈ dd (xs.take i)
        · rw [if_pos (decide_eq_true hm), if_pos hm]
        · rw [if_neg (by rw [decide_eq_false hm]; decide), if_neg hm, List.length_append]
          rfl
    refine wpAny_pure ⟨plainId_quiet PyProof.Rows.F.plain_set_update_loop _, ih (i + 1) _ (by omega) hlt (W.frame _ s' _ _ hst' (Nat.le_succ _) fun b hb o e => ?_) hSi fun s'' hm'' hS'' => ?_⟩
    · rw [same.2 b fun z => hSf (z ▸ hb)]
      exact e
    · refine hR s'' (Moved.trans W.gtrans ((hm.mono more).then_heap (Nat.le_succ _) fun b o hb e => ?_) hm'') hS''
      rw [same.2 b fun z => hb (z ▸ List.mem_cons_self)]
      exact e
end
section
variable {prog : Program} {w : World} {A : Around} {E : Value → Shared → Prop} {s : Shared}
set_option maxHeartbeats 3200000 in
theorem set_of {l : Addr} {items : Array Value} {xs : List Str} {Q : Value → Shared → Prop} (hh : A.handled = none) (hl : s.heap.IsList l items) (hi : PyProof.Rows.StrsAre items.toList xs) (hb : items.size + 1 < scanBound)
    (h : ∀ (h' : Heap) (tk : Nat), Has prog w xs s.heap.objs.size items.size h' → (∀ b o, b < s.heap.objs.size → s.heap.get? b = some o → h'.get? b = some o) → Q (.ref s.heap.objs.size) { s with heap := h', toks := tk }) :
    wpAny (model prog w) A (call (.type "set") [.ref l]) Q E s := by
  obtain ⟨c, tl, hmro⟩ := PySem.F.called_set.mro
  have hmade := PySem.F.called_set.made
  have hsub := PySem.F.called_set.sub
  refine wpAny_call (codeAny_of_tree ?_)
  show wpAny _ _ (callAny (.type "set") _) _ _ _
  refine wpAny_pure ⟨Code.quiet_builtin _ (by decide +kernel), codeAny_builtin PySem.F.entry_type_call ?_⟩
  rw [Around.under_plain (weight_type_call_type "set" [.ref l] []) rfl]
  have n1 := PySem.F.called_set.notType
  have n2 := PySem.F.called_set.canCreate
  have n3 := PySem.F.typeCall_set_1 (.ref l)
  repeat (any_goals (first | assumption | wp_step))
  refine codeAny_mono (code_set_new_1 (.ref l) (E := E) (Q₁ := fun obj s₁ => ∃ led : Bool, obj = .ref s.heap.objs.size ∧ s₁ = { s with heap := s.heap.push { cls := .type "set", dict := none, data := .set #[] 0 (.fresh 0 0 led) } }) fun led => ⟨led, rfl, rfl⟩) fun r s₁ hr => ?_
  match r, hr with
  | .error e, hr => exact hr
  | .ok .next, hr => exact hr.elim
  | .ok .brk, hr => exact hr.elim
  | .ok .cont, hr => exact hr.elim
  | .ok (.ret obj), hr =>
  obtain ⟨led, rfl, rfl⟩ := hr
  have hS : (s.heap.push { cls := .type "set", dict := none, data := .set #[] 0 (.fresh 0 0 led) }).get? s.heap.objs.size = some { cls := .type "set", dict := none, data := .set #[] 0 (.fresh 0 0 led) } := Heap.get?_push_size _ rfl
  have hT : Shared.TypeIs { s with heap := s.heap.push { cls := .type "set", dict := none, data := .set #[] 0 (.fresh 0 0 led) } } (.ref s.heap.objs.size) "set" := ⟨_, hS, rfl⟩
  have i1 := PySem.F.called_set.init.lookup
  have i2 := PySem.F.called_set.init.bind (.ref s.heap.objs.size)
  repeat (any_goals (first | assumption | wp_step))
  refine codeAny_mono (codeAny_call_builtin (R := wants (fun r s₂ => r = .none ∧ ∃ h' tk, s₂ = { s with heap := h', toks := tk } ∧ Has prog w xs s.heap.objs.size items.size h' ∧ (∀ b o, b < s.heap.objs.size → s.heap.get? b = some o → h'.get? b = some o)) E)
    PySem.F.called_set.init.plain PySem.F.entry_set_init (check_set_init_1 hT ?_)) fun r₂ s₂ hr₂ => ?_
  · obtain ⟨ol, hol, hcl, nl, hdl⟩ := hl
    obtain ⟨ocls, odict, odata, oslots⟩ := ol
    simp only at hcl hdl
    subst hcl; subst hdl
    have hol' : (s.heap.push { cls := .type "set", dict := none, data := .set #[] 0 (.fresh 0 0 led) }).get? l = some { cls := .type "list", dict := odict, data := .seq items nl, slots := oslots } := Heap.get?_push_of_some _ hol
    have hsls := PySem.F.sub_list_set
    have hslf := PySem.F.sub_list_frozenset
    have hne : (Value.type "list" == Value.type "dict") = false := by decide
    have hl1 : (s.heap.push { cls := .type "set", dict := none, data := .set #[] 0 (.fresh 0 0 led) }).IsList l items := ⟨_, hol', rfl, nl, rfl⟩
    unfold Builtin.«set.__init__» noKeywords Builtin.Frozenset.updateFrom
    generalize hPI : pyIter = PI
    wp_walk
    subst hPI
    refine wpAny_pyIter_list hl1 ?_
    refine wpAny_bind (wpAny_runValue ?_)
    have lt : l < s.heap.objs.size := Heap.lt_size hol
    have hh3 : A.in1.in1.in1.handled = none := by simp [hh]
    have e1 : (s.heap.push { cls := .type "set", dict := none, data := .set #[] 0 (.fresh 0 0 led) }).objs.size = s.heap.objs.size + 1 := Heap.size_push _ _
    have hneI : l ≠ (s.heap.push { cls := .type "set", dict := none, data := .set #[] 0 (.fresh 0 0 led) }).objs.size := by rw [e1]; exact Nat.ne_of_lt (Nat.lt_succ_of_lt lt)
    have hSf : s.heap.objs.size ∉ [(s.heap.push { cls := .type "set", dict := none, data := .set #[] 0 (.fresh 0 0 led) }).objs.size, l] := by
      rw [e1]
      simp only [List.mem_cons, List.mem_singleton, List.not_mem_nil, or_false, not_or]
      exact ⟨Nat.ne_of_lt (Nat.lt_succ_self _), Nat.ne_of_gt lt⟩
    have hsz : xs.length = items.size := by rw [← StrsAre.len_eq hi, Array.length_toList]
    refine gather ((Walks.list hh3 _ l hneI items).toS) s.heap.objs.size hSf xs hsz hb (fun i v hv => SS.strs_at hi i v (by rw [Array.getElem?_toList]; exact hv)) (items.size - 0) 0 _ (by omega) (Nat.zero_le _) ⟨⟨_, Heap.get?_push_size _ rfl, rfl, rfl⟩, (hl1.push _)⟩ ?_ ?_
    · have hget : ((s.heap.push { cls := .type "set", dict := none, data := .set #[] 0 (.fresh 0 0 led) }).push { cls := .type "list_iterator", data := .fields #[.ref l, .int 0 0] }).get? s.heap.objs.size = some { cls := .type "set", dict := none, data := .set #[] 0 (.fresh 0 0 led) } := Heap.get?_push_of_some _ hS
      exact PyProof.Rows.SetOf_congr ((PyProof.Rows.setObjOf_fresh (knd := PySem.strKind prog w) led).setOf hget (by unfold scanBound; omega)) (fun _ => rfl) rfl
    · intro s' hm hS'
      obtain ⟨h', g', d', tk', os'⟩ := s'
      obtain rfl : g' = s.gens := hm.gens
      obtain rfl : d' = s.drawn := hm.drawn
      obtain rfl : os' = s.os := hm.os
      show wpAny _ _ _ _ _ _
      refine wpAny_pure ?_
      show wpAny _ _ (ret Value.none) _ _ _
      refine wpAny_pure ⟨rfl, h', tk', rfl, hS', fun b o hb e => hm.heap b o ?_ (Heap.get?_push_of_some _ (Heap.get?_push_of_some _ e))⟩
      simp only [List.mem_cons, List.mem_singleton, List.not_mem_nil, or_false, not_or]
      exact ⟨Nat.ne_of_lt hb, by rw [e1]; exact Nat.ne_of_lt (Nat.lt_succ_of_lt hb)⟩
  · match r₂, hr₂ with
    | .error e, hr₂ => exact hr₂
    | .ok .next, hr₂ => exact hr₂.elim
    | .ok .brk, hr₂ => exact hr₂.elim
    | .ok .cont, hr₂ => exact hr₂.elim
    | .ok (.ret r), hr₂ =>
      obtain ⟨rfl, h', tk, rfl, hS', hk'⟩ := hr₂
      repeat (any_goals (first | assumption | wp_step))
      exact h _ _ hS' hk'
end
end Dd
namespace Gd
open PySem PySem.Spec PyProof.Rows L2
section
variable {X : Cx}
def tLenSetT (K : PySem.W.Frag) (ta : TE) : TE := fun σ H Q => ta σ H fun x H1 => ∃ l, ∃ xs : List Str, x = .ref l ∧ SqL K H1 l (xs.map V.str) ∧ xs.length ≤ 1000 ∧ Q (.int ((Dd.dd xs).length : Nat)) H1
theorem pe_lenSetT {a : Expr} {ta : TE} {p p2 q pos : Pos} (hc : X.calm = true) (hg : Gl X "len") (hm : X.mg "len" = none) (hg2 : Gl X "set") (hm2 : X.mg "set" = none) (ha : PE X a ta)
    (na : starEach [a] X.env = (false, eval a X.env) :: starEach [] X.env := by rfl) : PE X (.Call (.Name "len" p) [.Call (.Name "set" p2) [a] [] q] [] pos) (tLenSetT X.K ta) := by
  refine ⟨fun pins s σ H Q I h => ?_⟩
  refine Call_ (ld_blt I hg hm boot_len (PyProof.Rows.callWith_builtin1 (PyProof.Rows.args_cons ?_ rfl) rfl rfl))
  refine Call_ (ld_blt I hg2 hm2 boot_set (PyProof.Rows.callWith_type1 (PyProof.Rows.args_cons (thn (ha.run pins s σ H _ I h) fun v s1 ⟨x, H1, I1, r1, q1⟩ => PyProof.Rows.args_nil ?_) na) na rfl))
  obtain ⟨l, xs, rfl, hq, h1, q1⟩ := q1
  cases r1
  obtain ⟨its, r, pl, hz⟩ := I1.list hq
  have hl : its.toArray.size = xs.length := by rw [List.size_toArray, ← r.length, List.length_map]
  refine Dd.set_of (xs := xs) (I1.ok.hd hc) pl.isList (by simpa using strsAre_of r) (by rw [hl]; unfold scanBound; omega) fun h' tk hS hk => ?_
  refine PyProof.Rows.args_nil ?_
  unfold Dd.Has at hS
  rw [hl, List.take_length] at hS
  have dl := Dd.dd_le xs
  obtain ⟨o, es, ep, t, ho, hex, hd, _, _, _, hf, hn⟩ := hS
  have I2 : Inv X pins σ H1 { s1 with heap := h', toks := tk } := I1.kept fun b o e => hk b o (Heap.lt_size e) e
  exact call_len_set ho hex hd hf (by rw [hn]; omega) ⟨.int (Dd.dd xs).length, H1, I2.tok _, ⟨_, by rw [hn]⟩, q1⟩
end
end Gd
set_option Elab.async false
set_option linter.all false
set_option maxRecDepth 100000
set_option maxHeartbeats 4000000
namespace Ks
open PySem PySem.Spec PyProof.Rows L2 Gd Kx
/-! ### the law's reader -/
abbrev sLrd : Stmt := Kx.topS 37
abbrev nLrd : List Str := ["_law_line", "_law_kinds", "_law_rows", "_law_part", "_law_words_here", "_law_row", "_law_names", "_law_word_here"]
theorem scLrd : FnScope nLrd ["_law_line"] (defScope sLrd) := ⟨rfl, rfl, rfl, by decide +kernel, rfl, by decide +kernel, by decide +kernel⟩
/-- a text whose lines are few and short -/
structure LnOk (z : Str) : Prop where
  len : z.length ≤ 100000
  n : (cutS z "\n").length ≤ 900
  p : ∀ p ∈ cutS z "\n", p.length ≤ 900
section
variable {P : Program} {w : World} {K : PySem.W.Frag} {mg : Str → Option Value} {base : Heap}
def spLrd : Sp := fun vs H Q _ => ∃ z : Str, vs = [.str z] ∧ LnOk z ∧ (txtM z = none → ∀ L H', Same H H' → H' L = some (.lst []) → Q (.ref L) H') ∧
  (∀ m, txtM z = some m → ∀ L k c H', Same H H' → H' L = some (.lst [.ref k, .ref c]) → StT H' k m.ks → RowsT H' c m.rs → Q (.ref L) H')
set_option maxHeartbeats 16000000 in
theorem ok_lrd {f fn : Addr} {fd fdn : FuncData} (F : Fun K "_law_read" "_law_read" sLrd f fd) (T : TS0 mg) (mset : mg "set" = none) (ml : mg "list" = none)
    (GN : FnOk P w K mg base CX0 1 fn fdn ["_law_thing"] spLnm) (kn : PySem.W.keepIn K (.ref fn) = true) (bN : Binds K fdn ["_law_thing"] []) (gN : mg "_law_is_name" = some (.ref fn)) : FnOk P w K mg base CX0 2 f fd ["_law_line"] spLrd := by
  refine F.ok scLrd (fun vs H Q E h => ?_) (fun cv A ou s H vs Q E hr h => ?_)
  · obtain ⟨z, rfl, _⟩ := h
    rfl
  obtain ⟨z, rfl, ⟨hz, hn9, hp9⟩, qN, qS⟩ := h
  have hu := hr.units
  refine ⟨_, pss_cons (ps_asg (pe_tup (pa_cons (pe_lst pa_nil) (pa_cons (pe_lst pa_nil) pa_nil))) (pg_tup rfl (pgs_cons (pg_name (i := 1) scLrd.nd rfl (.inr rfl)) (pgs_cons (pg_name (i := 2) scLrd.nd rfl (.inl rfl)) pgs_nil))))
    (pss_cons (ps_for PassesOwn.never rfl (pi_list (pe_split (pv 0) pe_str)) (pg_name (i := 3) scLrd.nd rfl (.inl rfl))
      (pss_cons (ps_set (i := 4) scLrd.nd rfl (.inl rfl) (pe_split (pv 3) pe_str))
      (pss_one (ps_if (PW.pt (pw_and (pt_cmpR op_eq (pe_ix ix_list (pv 4) pe_int (fun _ _ => rfl)) pe_str (nomark _)) (pw_and (pt_cmpR op_eq (pe_callB call_len_seq (by rfl) T.len PySem.boot_len (pa_cons (pv 4) pa_nil)) pe_int (nomark _)) (pw_and1 (pt_cmpR (op_or2 (op_eqD hu) (op_eq0 hu)) (pv 2) (pe_lst pa_nil) (nomark _))))))
        (pss_one (ps_expr (pe_bm PySem.F.plainAttrs_list PySem.F.slot_list_append PySem.F.type_list_append mt_append (pv 1) (pa_cons (pe_ix ix_list (pv 4) pe_int (fun _ _ => rfl)) pa_nil))))
        (pss_one (ps_if (PW.pt (pw_and (pt_cmpR op_eq (pe_ix ix_list (pv 4) pe_int (fun _ _ => rfl)) pe_str (nomark _)) (pw_and1 (pt_cmpR op_gt (pe_callB call_len_seq (by rfl) T.len PySem.boot_len (pa_cons (pv 4) pa_nil)) pe_int (nomark _)))))
          (pss_one (ps_expr (pe_bm PySem.F.plainAttrs_list PySem.F.slot_list_append PySem.F.type_list_append mt_append (pv 2) (pa_cons (pe_tup (pa_cons (pe_ix ix_list (pv 4) pe_int (fun _ _ => rfl)) (pa_cons (pe_ix ix_list (pv 4) pe_int (fun _ _ => rfl)) (pa_cons (pe_tupleOf (by rfl) T.tup (pe_slice sl_list (pv 4) (po_some pe_int) po_none)) pa_nil)))) pa_nil))))
          (pss_one (ps_ret (pe_lst pa_nil)))))))))
    (pss_cons (ps_setLc (i := 6) (own := [("_law_row", 5)]) (g := gName 5) (tt := tYes) (by rfl) scLrd.nd rfl rfl (sw_true rfl rfl rfl (by decide +kernel)) (pi_list (pv 2)) (blkOk_by (own := [("_law_row", 5)]) (N := nLrd) (sc := defScope sLrd) (by decide +kernel))
        (fun _ _ _ _ _ => pg_name (i := 5) scLrd.nd rfl (Or.inl rfl)) (fun _ _ _ _ _ => pts_nil) (fun _ _ _ _ _ => asTE (te := tOp (rIxT K) (tVar 5) (tC (.int 0))) (pe_ix ix_tup (pv 5) pe_int (fun _ _ => rfl)) rfl))
    (pss_cons (ps_if (PW.pt (pw_or (pt_not (pt_chain op_lt op_lt pe_int (pe_callB call_len_seq (by rfl) T.len PySem.boot_len (pa_cons (pv 1) pa_nil)) pe_int)) (pw_or (pt_not (pt_chain op_lt op_lt pe_int (pe_callB call_len_seq (by rfl) T.len PySem.boot_len (pa_cons (pv 2) pa_nil)) pe_int))
        (pw_or1 (pt_not (pt_val (pe_callB (cr_all rfl) (by rfl) T.all boot_all (pa_cons (pe_lc (own := [("_law_word_here", 7)]) (g := gName 7) (tt := tYes) (by rfl) scLrd.nd (pi_list (pe_op op_cat (pv 1) (pv 6))) (blkOk_by (own := [("_law_word_here", 7)]) (N := nLrd) (sc := defScope sLrd) (by decide +kernel))
          (fun _ _ _ _ _ => pg_name (i := 7) scLrd.nd rfl (Or.inl rfl)) (fun _ _ _ _ _ => pts_nil) (fun _ _ _ _ _ => asTE (te := tCall spLnm [] E0 (tCons (tVar 7) tNil)) (pe_call GN hr (by rfl) gN kn bN .nil pass0 (pa_cons (pv 7) pa_nil)) rfl)) pa_nil)))))))) (pss_one (ps_ret (pe_lst pa_nil))) pss_nil)
    (pss_cons (ps_if (PW.pt (pw_or (pt_cmpR op_lt (pe_lenSetT (by rfl) (by rfl) T.len (by rfl) mset (pv 1)) (pe_callB call_len_seq (by rfl) T.len PySem.boot_len (pa_cons (pv 1) pa_nil)) (nomark _)) (pw_or1 (pt_cmpR op_lt (pe_lenSetT (by rfl) (by rfl) T.len (by rfl) mset (pv 6)) (pe_callB call_len_seq (by rfl) T.len PySem.boot_len (pa_cons (pv 6) pa_nil)) (nomark _))))) (pss_one (ps_ret (pe_lst pa_nil))) pss_nil)
    (pss_cons (ps_for PassesOwn.never rfl (pi_list (pv 2)) (pg_name (i := 5) scLrd.nd rfl (.inl rfl))
      (pss_one (ps_if (PW.pt (pw_or (pt_cmpR op_gt (pe_callB call_len_seq (by rfl) T.len PySem.boot_len (pa_cons (pe_ix ix_tup (pv 5) pe_int (fun _ _ => rfl)) pa_nil)) pe_int (nomark _)) (pw_or1 (pt_not (pt_val (pe_callB (cr_all rfl) (by rfl) T.all boot_all (pa_cons (pe_lc (own := [("_law_word_here", 7)]) (g := gName 7) (tt := tYes) (by rfl) scLrd.nd
          (pi_list (pe_op op_cat (pe_lst (pa_cons (pe_ix ix_tup (pv 5) pe_int (fun _ _ => rfl)) pa_nil)) (pe_callTy call_list_of (by rfl) ml boot_list (pa_cons (pe_ix ix_tup (pv 5) pe_int (fun _ _ => rfl)) pa_nil)))) (blkOk_by (own := [("_law_word_here", 7)]) (N := nLrd) (sc := defScope sLrd) (by decide +kernel))
          (fun _ _ _ _ _ => pg_name (i := 7) scLrd.nd rfl (Or.inl rfl)) (fun _ _ _ _ _ => pts_nil) (fun _ _ _ _ _ => asTE (te := tOp (rIn K false) (tVar 7) (tVar 1)) (pe_cmpR op_in_seq (pv 7) (pv 1) (by rfl)) rfl)) pa_nil))))))) (pss_one (ps_ret (pe_lst pa_nil))) pss_nil)))
    (pss_one (ps_ret (pe_lst (pa_cons (pe_tupleOf (by rfl) T.tup (pv 1)) (pa_cons (pe_tupleOf (by rfl) T.tup (pv 2)) pa_nil)))))))))), ?_⟩
  have sz := sizeLine_eq
  refine ⟨(by show 0 ≤ sizeLine; exact Nat.zero_le _), fun M nM => ?_⟩
  have sM := same_new (o := .lst []) nM
  refine ⟨(by show 0 ≤ sizeLine; exact Nat.zero_le _), fun N nN => ?_⟩
  have MN : M ≠ N := ne_of_none upd_same nN
  have sN := sM.trans (same_new (o := .lst []) nN)
  refine ⟨(by show 2 ≤ sizeLine; omega), fun T0 nT0 => ⟨T0, _, rfl, SqT.of upd_same, rfl, _, _, rfl, _, _, rfl, rfl, ?_⟩⟩
  have sT0 := same_new (o := .tup [.ref M, .ref N]) nT0
  refine ⟨.str z, rfl, ⟨z, rfl⟩, z, "\n", rfl, rfl, by decide +kernel, by omega, fun Lp nLp => ?_⟩
  have eM0 := sT0 _ _ (show (upd (upd H M (.lst [])) N (.lst [])) M = some (.lst []) by rw [upd_ne MN]; exact upd_same)
  have eN0 := sT0 _ _ (show (upd (upd H M (.lst [])) N (.lst [])) N = some (.lst []) from upd_same)
  have ML : M ≠ Lp := ne_of_none eM0 nLp
  have NL : N ≠ Lp := ne_of_none eN0 nLp
  have sP := (sN.trans sT0).trans (same_new (o := .lst ((Txt.split z "\n").map V.str)) nLp)
  have nHN : H N = none := by
    cases e : H N with
    | none => rfl
    | some o => rw [sM _ _ e] at nN; cases nN
  have ln := PyProof.Rows.split_le z "\n"
  refine ⟨Lp, rfl, ⟨_, SqL.of upd_same⟩, for_list (K := K) (a := Lp) (xs := (Txt.split z "\n").map V.str) (fun i σ H' => ∃ (o3 o4 : Option V) (ks : List Str) (rs : List Rw) (xs : List V), σ = [some (.str z), some (.ref M), some (.ref N), o3, o4, none, none, none] ∧ Same H H' ∧ H' Lp = some (.lst ((Txt.split z "\n").map V.str)) ∧ H' M = some (.lst (ks.map V.str)) ∧ H' N = some (.lst xs) ∧ Paired (RowV H') xs rs ∧ ks.length + rs.length ≤ i ∧ prs (ks, rs) ((cutS z "\n").drop i) = partsT z)
    ⟨none, none, [], [], [], rfl, sP, upd_same, by rw [upd_ne ML]; exact eM0, by rw [upd_ne NL]; exact eN0, .nil, Nat.zero_le _, rfl⟩ (fun i σ H' _ pp => ?_) ?_ ?_⟩
  · obtain ⟨_, _, _, _, _, _, _, e, _⟩ := pp
    exact SqL.of e
  · rintro i x σ H1 hx ⟨o3, o4, ks, rs, xs, rfl, s1, eL, eM, eN, pr, li, pe⟩
    rw [List.getElem?_map] at hx
    cases ep : (Txt.split z "\n")[i]? with
    | none => rw [ep] at hx; cases hx
    | some p =>
    rw [ep] at hx
    cases hx
    have hp := hp9 p (List.mem_of_getElem? ep)
    have hi := (List.getElem?_eq_some_iff.mp ep).1
    have lw := PyProof.Rows.split_le p " "
    rw [prs_at (zs := cutS z "\n") (z := p) ep] at pe
    refine ⟨.str p, rfl, ⟨p, rfl⟩, p, " ", rfl, rfl, by decide +kernel, by omega, fun Wd nW => ?_⟩
    have ec : (Txt.split p " ") = cutS p " " := rfl
    have sW := same_new (o := .lst ((Txt.split p " ").map V.str)) nW
    have sA := s1.trans sW
    have wl : 0 < (cutS p " ").length := List.length_pos_iff.mpr (wd_ne p)
    have atW : ∀ j, j < (cutS p " ").length → L2.atI ((cutS p " ").map V.str) ((j : Nat) : Int) = some (V.str (wdAt p j)) := fun j hj => atI_nat (j := j) (by rw [List.getElem?_map, wd_at hj]; rfl)
    have dS : ∀ x y : Str, decide (V.str x = V.str y) = decide (x = y) := fun x y => by simp
    have dL : decide (V.int ((((Txt.split p " ").map V.str).length : Nat) : Int) = V.int 2) = decide ((cutS p " ").length = 2) := by
      rw [List.length_map, ec]
      by_cases h : (cutS p " ").length = 2
      · rw [h]; rfl
      · rw [decide_eq_false h]
        exact decide_eq_false fun e => h (by injection e with e1; omega)
    have dG : decide (((((Txt.split p " ").map V.str).length : Nat) : Int) > 2) = decide (3 ≤ (cutS p " ").length) := by
      rw [List.length_map, ec]
      by_cases h : 3 ≤ (cutS p " ").length
      · rw [decide_eq_true h]
        exact decide_eq_true (by omega)
      · rw [decide_eq_false h]
        exact decide_eq_false (by omega)
    have eL2 := sW _ _ eL
    have eM2 := sW _ _ eM
    have eN2 := sW _ _ eN
    have lx : xs.length = rs.length := Paired.length pr
    have li2 : ks.length + rs.length < 100010 := by omega
    have rz : lnP (ks, rs) p = none → ∀ LL H', Same (upd H1 Wd (.lst ((Txt.split p " ").map V.str))) H' → H' LL = some (.lst []) → Q (.ref LL) H' := fun e LL H' s e2 => by
      rw [e] at pe
      exact qN (by unfold txtM; rw [← pe]) LL H' (sA.trans s) e2
    have e0 : PyData.eqv (dLs []) (dLs []) = true := by rw [eqv_ls]; rfl
    refine ⟨.ref Wd, rfl, Wd, _, _, .str (wdAt p 0), rfl, rfl, SqL.of upd_same, atW 0 wl, rfl, _, rfl, ?_⟩
    rw [dS]
    by_cases k0 : wdAt p 0 = "kind"
    · have m0 : wdAt p 0 ≠ "make" := by rw [k0]; decide +kernel
      have nm : ¬ lnM p := fun h => m0 h.1
      rw [decide_eq_true k0]
      refine iteT ⟨.ref Wd, rfl, Wd, _, rfl, .inl (SqL.of upd_same), rfl, _, rfl, ?_⟩
      rw [dL]
      by_cases k2 : (cutS p " ").length = 2
      · rw [decide_eq_true k2]
        refine iteT ⟨.ref N, rfl, (by show 0 ≤ sizeLine; exact Nat.zero_le _), fun E0 nE0 => ?_⟩
        have sE := same_new (o := .lst []) nE0
        have eNE := sE _ _ eN2
        have eME := sE _ _ eM2
        have sAE := sA.trans sE
        cases xs with
        | nil =>
          refine .inl ⟨dLs [], dLs [], .lst (SqL.of eNE) .nil, .lst (SqL.of upd_same) .nil, by decide +kernel, by decide +kernel, _, rfl, ?_⟩
          rw [e0]
          cases pr
          have lk : lnK (ks, []) p := ⟨k0, k2, rfl⟩
          have el : lnP (ks, []) p = some (ks ++ [wdAt p 1], []) := by unfold lnP; rw [if_pos lk]
          rw [el] at pe
          refine iteT ⟨.ref M, rfl, .inl ⟨rfl, _, SqL.of eME⟩, .ref Wd, rfl, Wd, _, _, .str (wdAt p 1), rfl, rfl, SqL.of (sE _ _ upd_same), atW 1 (by omega), M, _, _, rfl, rfl, eME, ?_, _, _, ks ++ [wdAt p 1], [], [], rfl, same_upd sAE nM, ?_, ?_, ?_, .nil, ?_, pe⟩
          · rw [List.length_map]
            omega
          · rw [upd_ne (Ne.symm ML)]
            exact sE _ _ eL2
          · rw [upd_same, List.map_append]
            rfl
          · rw [upd_ne (Ne.symm MN)]
            exact eNE
          · rw [List.length_append, List.length_singleton]
            simp at li
            simp
            omega
        | cons x0 xr =>
          have nk : ¬ lnK (ks, rs) p := fun h => by
            have e : rs = [] := h.2.2
            rw [e] at lx
            cases lx
          refine .inr ⟨N, E0, x0, xr, rfl, rfl, eNE, upd_same, _, rfl, ?_⟩
          refine iteF ⟨.ref Wd, rfl, Wd, _, _, .str (wdAt p 0), rfl, rfl, SqL.of (sE _ _ upd_same), atW 0 wl, rfl, _, rfl, ?_⟩
          rw [dS, decide_eq_false m0]
          exact iteF (iteF ⟨(by show 0 ≤ sizeLine; exact Nat.zero_le _), fun LL nLL => rz (by unfold lnP; rw [if_neg nk, if_neg nm]) LL _ (sE.trans (same_new nLL)) upd_same⟩)
      · have nk : ¬ lnK (ks, rs) p := fun h => k2 h.2.1
        rw [decide_eq_false k2]
        refine iteF (iteF ⟨.ref Wd, rfl, Wd, _, _, .str (wdAt p 0), rfl, rfl, SqL.of upd_same, atW 0 wl, rfl, _, rfl, ?_⟩)
        rw [dS, decide_eq_false m0]
        exact iteF (iteF ⟨(by show 0 ≤ sizeLine; exact Nat.zero_le _), fun LL nLL => rz (by unfold lnP; rw [if_neg nk, if_neg nm]) LL _ (same_new nLL) upd_same⟩)
    · have nk : ¬ lnK (ks, rs) p := fun h => k0 h.1
      rw [decide_eq_false k0]
      refine iteF (iteF ⟨.ref Wd, rfl, Wd, _, _, .str (wdAt p 0), rfl, rfl, SqL.of upd_same, atW 0 wl, rfl, _, rfl, ?_⟩)
      rw [dS]
      by_cases m0 : wdAt p 0 = "make"
      rotate_left
      · have nm : ¬ lnM p := fun h => m0 h.1
        rw [decide_eq_false m0]
        exact iteF (iteF ⟨(by show 0 ≤ sizeLine; exact Nat.zero_le _), fun LL nLL => rz (by unfold lnP; rw [if_neg nk, if_neg nm]) LL _ (same_new nLL) upd_same⟩)
      rw [decide_eq_true m0]
      refine iteT ⟨.ref Wd, rfl, Wd, _, rfl, .inl (SqL.of upd_same), _, _, rfl, rfl, _, rfl, ?_⟩
      rw [dG]
      by_cases k3 : 3 ≤ (cutS p " ").length
      rotate_left
      · have nm : ¬ lnM p := fun h => k3 h.2
        rw [decide_eq_false k3]
        exact iteF ⟨(by show 0 ≤ sizeLine; exact Nat.zero_le _), fun LL nLL => rz (by unfold lnP; rw [if_neg nk, if_neg nm]) LL _ (same_new nLL) upd_same⟩
      rw [decide_eq_true k3]
      have lm : lnM p := ⟨m0, k3⟩
      have el : lnP (ks, rs) p = some (ks, rs ++ [(wdAt p 1, wdAt p 2, (cutS p " ").drop 3)]) := by unfold lnP; rw [if_neg nk, if_pos lm]
      rw [el] at pe
      refine iteT ⟨.ref N, rfl, .inl ⟨rfl, _, SqL.of eN2⟩, .ref Wd, rfl, Wd, _, _, .str (wdAt p 1), rfl, rfl, SqL.of upd_same, atW 1 (by omega), .ref Wd, rfl, Wd, _, _, .str (wdAt p 2), rfl, rfl, SqL.of upd_same, atW 2 (by omega), ?_⟩
      refine ⟨.ref Wd, rfl, _, rfl, Wd, _, rfl, SqL.of upd_same, fun c nc => ?_⟩
      have ed : cutV ((Txt.split p " ").map V.str) (some (3 : Int)) none = ((Txt.split p " ").map V.str).drop 3 := cut_drop (i := 3) (by rw [List.length_map, ec]; omega)
      rw [ed]
      have sc := same_new (o := .lst (((Txt.split p " ").map V.str).drop 3)) nc
      refine .inl ⟨c, _, rfl, SqL.of upd_same, fun T1 nT1 => ⟨(by show 3 ≤ sizeLine; omega), fun T2 nT2 => ?_⟩⟩
      have sT1 := same_new (o := .tup (((Txt.split p " ").map V.str).drop 3)) nT1
      have sT2 := same_new (o := .tup [.str (wdAt p 1), .str (wdAt p 2), .ref T1]) nT2
      have sB := sc.trans (sT1.trans sT2)
      have eN3 := sB _ _ eN2
      have nl := Nl.upd (ys := xs ++ [V.ref T2]) eN3
      refine ⟨N, _, _, rfl, rfl, eN3, by omega, _, _, ks, rs ++ [(wdAt p 1, wdAt p 2, (cutS p " ").drop 3)], xs ++ [.ref T2], rfl, same_upd (sA.trans sB) nHN, ?_, ?_, upd_same, ?_, ?_, pe⟩
      · rw [upd_ne (Ne.symm NL)]
        exact sB _ _ eL2
      · rw [upd_ne MN]
        exact sB _ _ eM2
      · refine Paired.snoc (Paired.mapP pr fun _ _ h => ?_) ?_
        · obtain ⟨b', q', e', h1, h2⟩ := h.keep (sW.trans sB)
          exact ⟨b', q', e', nl.tk _ _ h1, nl.tk _ _ h2⟩
        · refine ⟨T2, T1, rfl, nl.tk _ _ upd_same, ?_⟩
          show _ = some (HO.tup (((cutS p " ").drop 3).map V.str))
          rw [List.map_drop]
          exact nl.tk _ _ (sT2 _ _ upd_same)
      · rw [List.length_append, List.length_singleton]
        omega
  · rintro σ H1 ⟨o3, o4, ks, rs, xs, rfl, s1, eL, eM, eN, pr, li, pe⟩
    rw [List.drop_of_length_le (by rw [List.length_map]; exact Nat.le_refl _)] at pe
    have li9 : ks.length + rs.length ≤ 900 := by
      have : ((Txt.split z "\n").map V.str).length = (cutS z "\n").length := List.length_map ..
      omega
    have pe' : partsT z = some (ks, rs) := pe.symm
    have pb : PB (ks, rs) := prs_b (p := ([], [])) ⟨fun _ h => (List.not_mem_nil h).elim, ⟨fun _ h => (List.not_mem_nil h).elim, fun _ h => (List.not_mem_nil h).elim⟩⟩ hp9 pe'
    have no : ¬ (KsOk ks ∧ RsOk ks rs) → ∀ LL H', Same H1 H' → H' LL = some (.lst []) → Q (.ref LL) H' := fun e LL H' s e2 => qN (by unfold txtM; rw [pe']; exact if_neg fun g => e (goodB_iff.mp g)) LL H' (s1.trans s) e2
    have yes : KsOk ks ∧ RsOk ks rs → txtM z = some ⟨ks, rs⟩ := fun e => by unfold txtM; rw [pe']; exact if_pos (goodB_iff.mpr e)
    have lx : xs.length = rs.length := Paired.length pr
    have z0 : (0 : Nat) ≤ sizeLine := Nat.zero_le _
    refine ⟨.ref N, rfl, N, rfl, ⟨_, SqL.of eN⟩, fun D nD => lc_funL (K := K) (te := tOp (rIxT K) (tVar 5) (tC (.int 0))) (j := 5) (vs := [5]) (a := N) (xs := xs) (ys := (rs.map (·.1)).map V.str) (fun _ => rfl) nD (SqL.of eN) (by omega) (by rw [List.length_map, List.length_map, lx]) (fun i x y H3 hx hy s3 p => ?_) fun H3 s3 eD => ?_⟩
    · intro kk
      obtain ⟨r, er, b, fa, rfl, hb, hf⟩ := rows_at pr hx
      rw [List.getElem?_map, List.getElem?_map, er] at hy
      cases hy
      exact ⟨.ref b, rfl, b, _, _, .str r.1, rfl, rfl, SqT.of (s3 _ _ hb), rfl, kk H3 fun _ _ e => e⟩
    have eM3 := s3 _ _ eM
    have eN3 := s3 _ _ eN
    have pr3 := Paired.mapP pr fun _ _ h => h.keep s3
    replace no := fun e LL H' s e2 => no e LL H' (s3.trans s) e2
    have s13 := s1.trans s3
    clear pr eM eN eL
    refine ⟨.ref M, rfl, M, _, rfl, .inl (SqL.of eM3), _, _, rfl, rfl, _, rfl, ?_⟩
    by_cases k1 : 1 ≤ ks.length
    rotate_left
    · rw [decide_eq_false (show ¬ (0 : Int) < (((ks.map V.str).length : Nat) : Int) by rw [List.length_map]; omega)]
      exact iteF ⟨_, rfl, iteT (iteT ⟨z0, fun LL nLL => no (fun h => k1 h.1.k1) LL _ (same_new nLL) upd_same⟩)⟩
    rw [decide_eq_true (show (0 : Int) < (((ks.map V.str).length : Nat) : Int) by rw [List.length_map]; omega)]
    refine iteT ⟨_, _, rfl, rfl, _, rfl, ?_⟩
    by_cases k4 : ks.length ≤ 4
    rotate_left
    · rw [decide_eq_false (show ¬ (((ks.map V.str).length : Nat) : Int) < 5 by rw [List.length_map]; omega)]
      exact iteT (iteT ⟨z0, fun LL nLL => no (fun h => k4 h.1.k4) LL _ (same_new nLL) upd_same⟩)
    rw [decide_eq_true (show (((ks.map V.str).length : Nat) : Int) < 5 by rw [List.length_map]; omega)]
    refine iteF ⟨.ref N, rfl, N, _, rfl, .inl (SqL.of eN3), _, _, rfl, rfl, _, rfl, ?_⟩
    by_cases r1 : 1 ≤ rs.length
    rotate_left
    · rw [decide_eq_false (show ¬ (0 : Int) < ((xs.length : Nat) : Int) by omega)]
      exact iteF ⟨_, rfl, iteT (iteT ⟨z0, fun LL nLL => no (fun h => r1 h.2.r1) LL _ (same_new nLL) upd_same⟩)⟩
    rw [decide_eq_true (show (0 : Int) < ((xs.length : Nat) : Int) by omega)]
    refine iteT ⟨_, _, rfl, rfl, _, rfl, ?_⟩
    by_cases r6 : rs.length ≤ 6
    rotate_left
    · rw [decide_eq_false (show ¬ ((xs.length : Nat) : Int) < 7 by omega)]
      exact iteT (iteT ⟨z0, fun LL nLL => no (fun h => r6 h.2.r6) LL _ (same_new nLL) upd_same⟩)
    rw [decide_eq_true (show ((xs.length : Nat) : Int) < 7 by omega)]
    refine iteF ⟨.ref M, rfl, .ref D, rfl, M, D, _, _, rfl, rfl, eM3, eD, ?_, fun J nJ => ?_⟩
    · rw [List.length_map, List.length_map, List.length_map]
      omega
    have sJ := same_new (o := .lst (ks.map V.str ++ (rs.map (·.1)).map V.str)) nJ
    have eJ : (upd H3 J (.lst (ks.map V.str ++ (rs.map (·.1)).map V.str))) J = some (.lst ((ks ++ rs.map (·.1)).map V.str)) := by rw [upd_same, List.map_append]
    refine ⟨J, rfl, ⟨_, SqL.of eJ⟩, fun D2 nD2 => lc_funL (K := K) (te := tCall spLnm [] E0 (tCons (tVar 7) tNil)) (j := 7) (vs := [7]) (a := J) (xs := (ks ++ rs.map (·.1)).map V.str) (ys := ((ks ++ rs.map (·.1)).map nmS).map V.bl) (fun _ => rfl) nD2 (SqL.of eJ) (by rw [List.length_map, List.length_append, List.length_map]; omega) (by rw [List.length_map, List.length_map, List.length_map]) (fun i x y H4 hx hy s4 p => ?_) fun H4 s4 eD2 => ?_⟩
    · intro kk
      rw [List.getElem?_map] at hx
      rw [List.getElem?_map, List.getElem?_map] at hy
      cases e : (ks ++ rs.map (·.1))[i]? with
      | none => rw [e] at hx; cases hx
      | some y =>
        rw [e] at hx hy
        cases hx
        cases hy
        have ly : y.length ≤ 900 := by
          rcases List.mem_append.mp (List.mem_of_getElem? e) with m | m
          · exact pb.k y m
          · obtain ⟨r, hr, rfl⟩ := List.mem_map.mp m
            exact pb.r.n r hr
        exact ⟨.str y, rfl, y, rfl, by omega, fun H5 s5 => kk H5 s5⟩
    refine ⟨D2, _, rfl, SqL.of eD2, _, rfl, ?_⟩
    have s34 := sJ.trans s4
    replace no := fun e LL H' s e2 => no e LL H' (s34.trans s) e2
    have eM4 := s34 _ _ eM3
    have eN4 := s34 _ _ eN3
    have eD4 := s34 _ _ eD
    have pr4 := Paired.mapP pr3 fun _ _ h => h.keep s34
    have s14 := s13.trans s34
    clear eM3 eN3 eD pr3 eD2 eJ
    cases ha : ((ks ++ rs.map (·.1)).map nmS).all id with
    | false =>
      refine iteT ⟨z0, fun LL nLL => no (fun h => ?_) LL _ (same_new nLL) upd_same⟩
      have : ((ks ++ rs.map (·.1)).map nmS).all id = true := by
        rw [List.all_map, List.all_eq_true]
        intro y hy
        rcases List.mem_append.mp hy with m | m
        · exact h.1.kn y m
        · obtain ⟨r, hr, rfl⟩ := List.mem_map.mp m
          exact (h.2.ok r hr).n
      rw [this] at ha
      cases ha
    | true =>
    rw [List.all_map, List.all_eq_true] at ha
    refine iteF ⟨.ref M, rfl, M, ks, rfl, SqL.of eM4, by omega, .ref M, rfl, M, _, rfl, .inl (SqL.of eM4), _, _, rfl, rfl, _, rfl, ?_⟩
    by_cases kd : ks.Nodup
    rotate_left
    · have := (Dd.dd_lt ks).mpr kd
      rw [decide_eq_true (show (((Dd.dd ks).length : Nat) : Int) < (((ks.map V.str).length : Nat) : Int) by rw [List.length_map]; omega)]
      exact iteT (iteT ⟨z0, fun LL nLL => no (fun h => kd h.1.kd) LL _ (same_new nLL) upd_same⟩)
    rw [decide_eq_false (show ¬ (((Dd.dd ks).length : Nat) : Int) < (((ks.map V.str).length : Nat) : Int) by
      rw [List.length_map]
      intro h
      exact (Dd.dd_lt ks).mp (by omega) kd)]
    refine iteF ⟨.ref D, rfl, D, rs.map (·.1), rfl, SqL.of eD4, by rw [List.length_map]; omega, .ref D, rfl, D, _, rfl, .inl (SqL.of eD4), _, _, rfl, rfl, _, rfl, ?_⟩
    by_cases rd : (rs.map (·.1)).Nodup
    rotate_left
    · have := (Dd.dd_lt (rs.map (·.1))).mpr rd
      rw [decide_eq_true (show (((Dd.dd (rs.map (·.1))).length : Nat) : Int) < ((((rs.map (·.1)).map V.str).length : Nat) : Int) by rw [List.length_map (f := V.str)]; omega)]
      exact iteT ⟨z0, fun LL nLL => no (fun h => rd h.2.rd) LL _ (same_new nLL) upd_same⟩
    rw [decide_eq_false (show ¬ (((Dd.dd (rs.map (·.1))).length : Nat) : Int) < ((((rs.map (·.1)).map V.str).length : Nat) : Int) by
      rw [List.length_map (f := V.str)]
      intro h
      exact (Dd.dd_lt (rs.map (·.1))).mp (by omega) rd)]
    refine iteF ⟨.ref N, rfl, N, rfl, ⟨_, SqL.of eN4⟩, for_list (K := K) (a := N) (xs := xs) (fun i σ H' => ∃ o5 : Option V, σ = [some (.str z), some (.ref M), some (.ref N), o3, o4, o5, some (.ref D), none] ∧ Same H4 H' ∧ ∀ r ∈ rs.take i, rwB ks r = true) ⟨none, rfl, fun _ _ e => e, fun r hr => by rw [List.take_zero] at hr; cases hr⟩ (fun i σ H' _ pp => ?_) ?_ ?_⟩
    · obtain ⟨_, _, s5, _⟩ := pp
      exact SqL.of (s5 _ _ eN4)
    · rintro i x σ H5 hx ⟨o5, rfl, s5, gd⟩
      obtain ⟨r, er, b, fa, rfl, hb, hf⟩ := rows_at pr4 hx
      have rm := List.mem_of_getElem? er
      have hb5 := s5 _ _ hb
      have hf5 : H5 fa = some (.tup (r.2.2.map V.str)) := s5 _ _ hf
      have eM5 := s5 _ _ eM4
      have rf := pb.r.f r rm
      have nn : nmS r.1 = true := ha r.1 (List.mem_append_right _ (List.mem_map.mpr ⟨r, rm, rfl⟩))
      refine ⟨.ref b, rfl, b, _, _, .ref fa, rfl, rfl, SqT.of hb5, rfl, fa, _, rfl, .inr (SqT.of hf5), _, _, rfl, rfl, _, rfl, ?_⟩
      by_cases l3 : r.2.2.length ≤ 3
      rotate_left
      · rw [decide_eq_true (show (((r.2.2.map V.str).length : Nat) : Int) > 3 by rw [List.length_map]; omega)]
        exact iteT (iteT ⟨z0, fun LL nLL => no (fun h => l3 (h.2.ok r rm).l) LL _ (s5.trans (same_new nLL)) upd_same⟩)
      rw [decide_eq_false (show ¬ (((r.2.2.map V.str).length : Nat) : Int) > 3 by rw [List.length_map]; omega)]
      refine iteF ⟨.ref b, rfl, b, _, _, .str r.2.1, rfl, rfl, SqT.of hb5, rfl, (by show 1 ≤ sizeLine; omega), fun L1 nL1 => ?_⟩
      have sL1 := same_new (o := .lst [V.str r.2.1]) nL1
      refine ⟨.ref b, rfl, b, _, _, .ref fa, rfl, rfl, SqT.of (sL1 _ _ hb5), rfl, fa, _, rfl, .inr (SqT.of (sL1 _ _ hf5)), fun L2 nL2 => ?_⟩
      have sL2 := same_new (o := .lst (r.2.2.map V.str)) nL2
      refine ⟨L1, L2, _, _, rfl, rfl, sL2 _ _ upd_same, upd_same, ?_, fun J2 nJ2 => ?_⟩
      · rw [List.length_map]
        show 1 + _ ≤ _
        omega
      have sJ2 := same_new (o := .lst ([V.str r.2.1] ++ r.2.2.map V.str)) nJ2
      have s6 := sL1.trans (sL2.trans sJ2)
      have eM6 := s6 _ _ eM5
      have eJ2 : (upd (upd (upd H5 L1 (.lst [V.str r.2.1])) L2 (.lst (r.2.2.map V.str))) J2 (.lst ([V.str r.2.1] ++ r.2.2.map V.str))) J2 = some (.lst ((r.2.1 :: r.2.2).map V.str)) := upd_same
      refine ⟨J2, rfl, ⟨_, SqL.of eJ2⟩, fun D3 nD3 => lc_funL (K := K) (te := tOp (rIn K false) (tVar 7) (tVar 1)) (j := 7) (vs := [7]) (a := J2) (xs := (r.2.1 :: r.2.2).map V.str) (ys := ((r.2.1 :: r.2.2).map fun y => decide (y ∈ ks)).map V.bl) (fun _ => rfl) nD3 (SqL.of eJ2) (by rw [List.length_map, List.length_cons]; omega) (by rw [List.length_map, List.length_map, List.length_map]) (fun n x y H7 hx hy s7 p => ?_) fun H7 s7 eD3 => ?_⟩
      · intro kk
        rw [List.getElem?_map] at hx
        rw [List.getElem?_map, List.getElem?_map] at hy
        cases e : (r.2.1 :: r.2.2)[n]? with
        | none => rw [e] at hx; cases hx
        | some y =>
          rw [e] at hx hy
          cases hx
          cases hy
          refine ⟨.str y, rfl, .ref M, rfl, M, _, rfl, .inl (SqL.of (s7 _ _ eM6)), rfl, all_flat _, ?_⟩
          rw [if_neg (by decide), inV_str]
          exact kk H7 fun _ _ e => e
      · refine ⟨D3, _, rfl, SqL.of eD3, _, rfl, ?_⟩
        have s57 := s5.trans (s6.trans s7)
        cases hw : ((r.2.1 :: r.2.2).map fun y => decide (y ∈ ks)).all id with
        | false =>
          refine iteT ⟨z0, fun LL nLL => no (fun h => ?_) LL _ (s57.trans (same_new nLL)) upd_same⟩
          have o := h.2.ok r rm
          have : ((r.2.1 :: r.2.2).map fun y => decide (y ∈ ks)).all id = true := by
            rw [List.all_map, List.all_eq_true]
            intro y hy
            rcases List.mem_cons.mp hy with rfl | m
            · exact decide_eq_true o.k
            · exact decide_eq_true (o.f y m)
          rw [this] at hw
          cases hw
        | true =>
          refine iteF ⟨_, rfl, s57, fun r' hr' => ?_⟩
          rw [List.take_add_one, er] at hr'
          rcases List.mem_append.mp hr' with m | m
          · exact gd r' m
          · have e : r' = r := by simpa using m
            rw [e]
            rw [List.all_map, List.all_eq_true] at hw
            exact rwB_of ⟨nn, of_decide_eq_true (hw r.2.1 (List.mem_cons_self ..)), l3, fun y hy => of_decide_eq_true (hw y (List.mem_cons_of_mem _ hy))⟩
    · rintro σ H5 ⟨o5, rfl, s5, gd⟩
      rw [lx, List.take_length] at gd
      have good : KsOk ks ∧ RsOk ks rs := ⟨⟨k1, k4, fun y hy => ha y (List.mem_append_left _ hy), kd⟩, ⟨r1, r6, fun r hr => rwB_ok (gd r hr), rd⟩⟩
      have eM5 := s5 _ _ eM4
      refine ⟨.ref M, rfl, .inl ⟨M, _, rfl, SqL.of eM5, fun T1 nT1 => ?_⟩⟩
      have sT1 := same_new (o := .tup (ks.map V.str)) nT1
      refine ⟨.ref N, rfl, .inl ⟨N, _, rfl, SqL.of (sT1 _ _ (s5 _ _ eN4)), fun T2 nT2 => ⟨(by show 2 ≤ sizeLine; omega), fun T nT => ?_⟩⟩⟩
      have sT2 := same_new (o := .tup xs) nT2
      have sT := same_new (o := .lst [.ref T1, .ref T2]) nT
      have s23 := sT2.trans sT
      exact qS _ (yes good) T T1 T2 _ (s14.trans (s5.trans (sT1.trans s23))) upd_same (s23 _ _ upd_same) ⟨xs, .inl (sT _ _ upd_same), Paired.mapP pr4 fun _ _ h => h.keep (s5.trans (sT1.trans s23))⟩
end
end Ks
set_option Elab.async false
set_option linter.all false
set_option maxRecDepth 100000
set_option maxHeartbeats 4000000
namespace Ks
open PySem PySem.Spec PyProof.Rows L2 Gd Kx
/-! ### the text of a schema is read back -/
theorem name_signs {z : Str} (h : nmS z = true) : ∀ c ∈ TL.tl z, inN c = true := by
  intro c hc
  obtain ⟨h1, h8⟩ := nm_len h
  obtain ⟨d, r, e⟩ := ne_cons h1
  have en := nm_short e h8
  rw [h] at en
  obtain ⟨_, ha⟩ := Bool.and_eq_true_iff.mp en.symm
  exact List.all_eq_true.mp ha c hc
theorem name_free {z : Str} {s : Nat} (h : nmS z = true) (hs : inN s = false) : s ∉ TL.tl z := fun hm => by
  rw [name_signs h s hm] at hs
  cases hs
theorem mem_joined {S : List Nat} {c : Nat} : ∀ {ps : List (List Nat)}, c ∈ TL.joinL S ps → c ∈ S ∨ ∃ p ∈ ps, c ∈ p
  | [], h => by cases h
  | [p], h => .inr ⟨p, List.mem_cons_self .., h⟩
  | p :: q :: r, h => by
    have h' : c ∈ p ++ (S ++ TL.joinL S (q :: r)) := h
    rcases List.mem_append.mp h' with h' | h'
    · exact .inr ⟨p, List.mem_cons_self .., h'⟩
    rcases List.mem_append.mp h' with h' | h'
    · exact .inl h'
    rcases mem_joined h' with h' | ⟨u, hu, hc⟩
    · exact .inl h'
    · exact .inr ⟨u, List.mem_cons_of_mem _ hu, hc⟩
theorem pre1 (s c : Nat) (r : List Nat) : TL.pre [s] (c :: r) = decide (c = s) := by
  unfold TL.pre
  by_cases h : c = s
  · subst h
    simp
  · simp [h]
/-- cut and joined -/
theorem joined1 (s : Nat) : ∀ (l acc : List Nat), TL.joinL [s] (TL.spl [s] 0 acc l) = acc ++ l
  | [], acc => by
    rw [TL.spl_nil, List.append_nil]
    rfl
  | c :: r, acc => by
    by_cases h : c = s
    · subst h
      rw [TL.spl_hit (by rw [pre1, decide_eq_true rfl])]
      have ih := joined1 c r []
      show TL.joinL [c] (acc :: TL.spl [c] 0 [] r) = _
      cases hs : TL.spl [c] 0 [] r with
      | nil => exact absurd hs (spl_ne _ _ _ _)
      | cons q qs =>
        rw [hs] at ih
        show acc ++ ([c] ++ TL.joinL [c] (q :: qs)) = _
        rw [ih]
        rfl
    · rw [TL.spl_miss (by rw [pre1, decide_eq_false h]), joined1 s r]
      simp
theorem cut_join1 {y : Str} {s : Nat} (ey : TL.tl y = [s]) (hk : y.cps.all (· < 256) = true) (z : Str) : Txt.join y (cutS z y) = z := by
  refine TL.ext_tl ?_
  rw [TL.join_eq, TL.tl_join, ey]
  have e := TL.split_spl z y (by rw [ey]; simp) (TL.kind_ok hk)
  rw [ey] at e
  show TL.joinL [s] ((Txt.split z y).map TL.tl) = _
  rw [e, joined1]
  rfl
theorem tl_sp : TL.tl (Str.ofString " ") = [32] := by decide +kernel
theorem tl_nl : TL.tl (Str.ofString "\n") = [10] := by decide +kernel
theorem k_sp : (Str.ofString " ").cps.all (· < 256) = true := by decide +kernel
theorem k_nl : (Str.ofString "\n").cps.all (· < 256) = true := by decide +kernel
theorem kd_join (k : Str) : kdT k = Txt.join (Str.ofString " ") [Str.ofString "kind", k] := by
  rw [TL.join_eq]
  show kdT k = Str.ofString "kind" ++ Str.ofString " " ++ k
  unfold kdT
  rw [show (Str.ofString "kind" ++ Str.ofString " " : Str) = Str.ofString "kind " by decide +kernel]
theorem wds_free {m : Md} (g : GoodN m) {r : Rw} (hr : r ∈ m.rs) {s : Nat} (hs : inN s = false) : ∀ p ∈ wdsT r, s ∉ TL.tl p := by
  have o := g.r.ok r hr
  intro p hp
  rcases List.mem_cons.mp hp with rfl | hp
  · exact name_free (by decide +kernel) hs
  rcases List.mem_cons.mp hp with rfl | hp
  · exact name_free o.n hs
  rcases List.mem_cons.mp hp with rfl | hp
  · exact name_free (g.k.kn _ o.k) hs
  · exact name_free (g.k.kn _ (o.f p hp)) hs
theorem kds_free {k : Str} (h : nmS k = true) {s : Nat} (hs : inN s = false) : ∀ p ∈ [Str.ofString "kind", k], s ∉ TL.tl p := by
  intro p hp
  simp only [List.mem_cons, List.not_mem_nil, or_false] at hp
  rcases hp with rfl | rfl
  · exact name_free (by decide +kernel) hs
  · exact name_free h hs
theorem cut_kd {k : Str} (h : nmS k = true) : cutS (kdT k) " " = [Str.ofString "kind", k] := by
  rw [kd_join]
  exact TL.split_join (s := 32) (S := []) tl_sp k_sp (by simp) (kds_free h (by decide +kernel))
theorem cut_mk {m : Md} (g : GoodN m) {r : Rw} (hr : r ∈ m.rs) : cutS (mkT r) " " = wdsT r :=
  TL.split_join (s := 32) (S := []) tl_sp k_sp (by simp [wdsT]) (wds_free g hr (by decide +kernel))
theorem no_nl {ps : List Str} (h : ∀ p ∈ ps, 10 ∉ TL.tl p) : 10 ∉ TL.tl (Txt.join (Str.ofString " ") ps) := fun hm => by
  rw [TL.join_eq, TL.tl_join, tl_sp] at hm
  rcases mem_joined hm with h1 | ⟨p, hp, hc⟩
  · simp at h1
  · obtain ⟨q, hq, rfl⟩ := List.mem_map.mp hp
    exact h q hq hc
theorem lin_ne {m : Md} (g : GoodN m) : linT m ≠ [] := fun e => by
  have h := g.k.k1
  have : (linT m).length = 0 := by rw [e]; rfl
  unfold linT at this
  rw [List.length_append, List.length_map] at this
  omega
theorem cut_md {m : Md} (g : GoodN m) : cutS (mdT m) "\n" = linT m :=
  TL.split_join (s := 10) (S := []) tl_nl k_nl (lin_ne g) fun p hp => by
    rcases List.mem_append.mp hp with h | h
    · obtain ⟨k, hk, rfl⟩ := List.mem_map.mp h
      rw [kd_join]
      exact no_nl (kds_free (g.k.kn k hk) (by decide +kernel))
    · obtain ⟨r, hr, rfl⟩ := List.mem_map.mp h
      exact no_nl (wds_free g hr (by decide +kernel))
theorem prs_app : ∀ (xs ys : List Str) (p q : List Str × List Rw), prs p xs = some q → prs p (xs ++ ys) = prs q ys
  | [], ys, p, q, h => by cases h; rfl
  | x :: r, ys, p, q, h => by
    unfold prs at h
    show prs p (x :: (r ++ ys)) = _
    rw [prs]
    cases e : lnP p x with
    | none => rw [e] at h; cases h
    | some u =>
      rw [e] at h
      exact prs_app r ys u q h
theorem prs_ks : ∀ (ks acc : List Str), (∀ k ∈ ks, nmS k = true) → prs (acc, []) (ks.map kdT) = some (acc ++ ks, [])
  | [], acc, _ => by rw [List.append_nil]; rfl
  | k :: r, acc, h => by
    have hc := cut_kd (h k (List.mem_cons_self ..))
    have lk : lnK (acc, []) (kdT k) := by
      refine ⟨?_, ?_, rfl⟩
      · unfold wdAt; rw [hc]; rfl
      · rw [hc]; rfl
    have e : lnP (acc, []) (kdT k) = some (acc ++ [k], []) := by
      unfold lnP
      rw [if_pos lk]
      unfold wdAt
      rw [hc]
      rfl
    show prs (acc, []) (kdT k :: r.map kdT) = _
    rw [prs, e]
    show prs (acc ++ [k], []) (r.map kdT) = _
    rw [prs_ks r (acc ++ [k]) fun x hx => h x (List.mem_cons_of_mem _ hx), List.append_assoc]
    rfl
theorem prs_rs {m : Md} (g : GoodN m) (ks : List Str) : ∀ (rs acc : List Rw), (∀ r ∈ rs, r ∈ m.rs) → prs (ks, acc) (rs.map mkT) = some (ks, acc ++ rs)
  | [], acc, _ => by rw [List.append_nil]; rfl
  | r :: t, acc, h => by
    have hc := cut_mk g (h r (List.mem_cons_self ..))
    have w0 : wdAt (mkT r) 0 = Str.ofString "make" := by unfold wdAt; rw [hc]; rfl
    have nk : ¬ lnK (ks, acc) (mkT r) := fun l => by
      have := l.1
      rw [w0] at this
      exact absurd this (by decide +kernel)
    have lm : lnM (mkT r) := ⟨w0, by rw [hc]; show 3 ≤ r.2.2.length + 1 + 1 + 1; omega⟩
    have e : lnP (ks, acc) (mkT r) = some (ks, acc ++ [r]) := by
      unfold lnP
      rw [if_neg nk, if_pos lm]
      unfold wdAt
      rw [hc]
      rfl
    show prs (ks, acc) (mkT r :: t.map mkT) = _
    rw [prs, e]
    show prs (ks, acc ++ [r]) (t.map mkT) = _
    rw [prs_rs g ks t (acc ++ [r]) fun x hx => h x (List.mem_cons_of_mem _ hx), List.append_assoc]
    rfl
theorem parts_md {m : Md} (g : GoodN m) : partsT (mdT m) = some (m.ks, m.rs) := by
  unfold partsT
  rw [cut_md g]
  unfold linT
  rw [prs_app _ _ _ _ (prs_ks m.ks [] g.k.kn), List.nil_append, prs_rs g m.ks m.rs [] fun _ h => h, List.nil_append]
theorem txt_md {m : Md} (g : GoodN m) : txtM (mdT m) = some m := by
  unfold txtM
  rw [parts_md g]
  exact if_pos (goodB_iff.mpr ⟨g.k, g.r⟩)
theorem ln_kd {p : List Str × List Rw} {z : Str} (h : lnK p z) : z = kdT (wdAt z 1) := by
  obtain ⟨h0, h2, _⟩ := h
  have e := cut_join1 tl_sp k_sp z
  unfold wdAt at h0 ⊢
  have h2' : (cutS z (Str.ofString " ")).length = 2 := h2
  have h0' : (cutS z (Str.ofString " ")).getD 0 "" = "kind" := h0
  show z = kdT ((cutS z (Str.ofString " ")).getD 1 "")
  generalize cutS z (Str.ofString " ") = ws at e h2' h0'
  match ws, h2' with
  | [a, b], _ =>
    have ea : a = Str.ofString "kind" := h0'
    rw [← e, ea, kd_join]
    rfl
theorem ln_mk {z : Str} (h : lnM z) : z = mkT (wdAt z 1, wdAt z 2, (cutS z " ").drop 3) := by
  obtain ⟨h0, h3⟩ := h
  have e := cut_join1 tl_sp k_sp z
  unfold wdAt at h0 ⊢
  have h3' : 3 ≤ (cutS z (Str.ofString " ")).length := h3
  have h0' : (cutS z (Str.ofString " ")).getD 0 "" = "make" := h0
  show z = mkT ((cutS z (Str.ofString " ")).getD 1 "", (cutS z (Str.ofString " ")).getD 2 "", (cutS z (Str.ofString " ")).drop 3)
  generalize cutS z (Str.ofString " ") = ws at e h3' h0'
  match ws, h3' with
  | a :: b :: c :: r, _ =>
    have ea : a = Str.ofString "make" := h0'
    rw [← e, ea]
    rfl
theorem prs_back : ∀ {zs : List Str} {p q : List Str × List Rw}, prs p zs = some q → ∃ ks rs, q = (p.1 ++ ks, p.2 ++ rs) ∧ zs = ks.map kdT ++ rs.map mkT ∧ (p.2 ≠ [] → ks = [])
  | [], p, q, h => by
    cases h
    exact ⟨[], [], by simp, rfl, fun _ => rfl⟩
  | z :: r, p, q, h => by
    rw [prs] at h
    unfold lnP at h
    by_cases hk : lnK p z
    · rw [if_pos hk] at h
      obtain ⟨ks, rs, eq, er, _⟩ := prs_back h
      refine ⟨wdAt z 1 :: ks, rs, ?_, ?_, fun n => absurd hk.2.2 n⟩
      · rw [eq]
        simp
      · rw [er]
        show z :: _ = kdT (wdAt z 1) :: _
        rw [← ln_kd hk]
        rfl
    · rw [if_neg hk] at h
      by_cases hm : lnM z
      · rw [if_pos hm] at h
        obtain ⟨ks, rs, eq, er, en⟩ := prs_back h
        have e0 := en (by simp)
        subst e0
        refine ⟨[], (wdAt z 1, wdAt z 2, (cutS z " ").drop 3) :: rs, ?_, ?_, fun _ => rfl⟩
        · rw [eq]
          simp
        · rw [er]
          show z :: _ = mkT _ :: _
          rw [← ln_mk hm]
          rfl
      · rw [if_neg hm] at h
        cases h
/-- a text that tells a schema is that schema's -/
theorem txt_back {z : Str} {m : Md} (h : txtM z = some m) : mdT m = z ∧ GoodN m := by
  unfold txtM at h
  cases e : partsT z with
  | none => rw [e] at h; cases h
  | some p =>
    obtain ⟨ks, rs⟩ := p
    rw [e] at h
    have h' : (if goodB ks rs = true then some (⟨ks, rs⟩ : Md) else none) = some m := h
    by_cases g : goodB ks rs = true
    · rw [if_pos g] at h'
      cases h'
      refine ⟨?_, ⟨(goodB_iff.mp g).1, (goodB_iff.mp g).2⟩⟩
      obtain ⟨ks', rs', eq, ez, _⟩ := prs_back e
      have e1 : ks = ks' := by simpa using congrArg Prod.fst eq
      have e2 : rs = rs' := by simpa using congrArg Prod.snd eq
      subst e1 e2
      unfold mdT linT
      rw [← ez]
      exact cut_join1 tl_nl k_nl z
    · rw [if_neg g] at h'
      cases h'
theorem txt_none : txtM "" = none ∧ txtM "kind a" = none := by
  refine ⟨?_, ?_⟩
  · have e : partsT "" = none := by decide +kernel
    unfold txtM
    rw [e]
  · have e : partsT "kind a" = some ([Str.ofString "a"], []) := by decide +kernel
    have g : goodB [Str.ofString "a"] [] = false := by decide +kernel
    unfold txtM
    rw [e]
    show (if goodB [Str.ofString "a"] [] = true then _ else _) = _
    rw [g]
    rfl
/-! ### signs and lengths -/
theorem okS_tjoin {y : Str} (hy : okS y) {l : List Str} (h : ∀ z ∈ l, okS z) : okS (Txt.join y l) := by
  rw [TL.join_eq]
  exact okS_join hy h
theorem okS_lin {m : Md} (g : GoodN m) : ∀ z ∈ linT m, okS z := by
  intro z hz
  rcases List.mem_append.mp hz with h | h
  · obtain ⟨k, hk, rfl⟩ := List.mem_map.mp h
    exact okS_app (okS_of _) (okS_nm (g.k.kn k hk))
  · obtain ⟨r, hr, rfl⟩ := List.mem_map.mp h
    have o := g.r.ok r hr
    refine okS_tjoin (okS_of _) fun z hz => ?_
    rcases List.mem_cons.mp hz with rfl | hz
    · exact okS_of _
    rcases List.mem_cons.mp hz with rfl | hz
    · exact okS_nm o.n
    rcases List.mem_cons.mp hz with rfl | hz
    · exact okS_nm (g.k.kn _ o.k)
    · exact okS_nm (g.k.kn _ (o.f z hz))
theorem okS_md {m : Md} (g : GoodN m) : okS (mdT m) := okS_tjoin (okS_of _) (okS_lin g)
theorem md_pos {m : Md} (g : GoodN m) : 1 ≤ (mdT m).length := by
  obtain ⟨k, hk⟩ : ∃ k, k ∈ m.ks := by
    cases h : m.ks with
    | nil => have := g.k.k1; rw [h] at this; cases this
    | cons k r => exact ⟨k, List.mem_cons_self ..⟩
  have h := cut_len (z := mdT m) (y := "\n") (p := kdT k) (by decide +kernel) (by decide +kernel) (by rw [cut_md g]; exact List.mem_append_left _ (List.mem_map.mpr ⟨k, hk, rfl⟩))
  have b : (Str.ofString "kind ").length = 5 := by decide +kernel
  have c : (kdT k).length = (Str.ofString "kind ").length + k.length := Str.length_append _ _
  omega
end Ks
set_option Elab.async false
set_option linter.all false
set_option maxRecDepth 100000
set_option maxHeartbeats 4000000
namespace Ks
open PySem PySem.Spec PyProof.Rows L2 Gd Kx
/-! ### a text, bent -/
structure BentOk (z : Str) : Prop where
  ok : okS z
  len : z.length ≤ 890
theorem cut_count (z y : Str) : (cutS z y).length ≤ z.length + 2 := PyProof.Rows.split_le z y
theorem BentOk.parts {z : Str} (h : BentOk z) : (cutS z "\n").length ≤ 900 ∧ ∀ p ∈ cutS z "\n", p.length ≤ 900 := by
  have := h.len
  refine ⟨Nat.le_trans (cut_count z "\n") (by omega), fun p hp => ?_⟩
  have := cut_len (z := z) (y := "\n") (p := p) (by decide +kernel) (by decide +kernel) hp
  omega
structure LinesOk (ps : List Str) : Prop where
  par : ∀ q ∈ ps, okS q ∧ q.length ≤ 60
  n : ps.length ≤ 11
theorem bent_join {ps : List Str} (h : LinesOk ps) : BentOk (Txt.join (Str.ofString "\n") ps) := by
  refine ⟨okS_tjoin (okS_of _) fun z hz => (h.par z hz).1, ?_⟩
  have := tjoin_le (Str.ofString "\n") ps (c := 60) (n := 11) (k := 1) (fun z hz => (h.par z hz).2) h.n (by decide +kernel)
  exact Nat.le_trans this (by decide)
theorem lines_md {m : Md} (g : GoodN m) : LinesOk (linT m) := ⟨fun q hq => ⟨okS_lin g q hq, lin_le g q hq⟩, Nat.le_trans (lin_n g) (by decide)⟩
theorem bent_mid {z y s : Str} {a b : Nat} (hz : z.length ≤ 610) (hk : okS z) (e : TL.tl y = (TL.tl z).take a ++ TL.tl s ++ (TL.tl z).drop b) (hs : okS s) (ls : s.length ≤ 5) (hab : a ≤ b) : BentOk y := by
  refine ⟨fun c hc => ?_, ?_⟩
  · have hc' : c ∈ TL.tl y := hc
    rw [e, List.append_assoc] at hc'
    rcases List.mem_append.mp hc' with h | h
    · exact hk c (List.mem_of_mem_take h)
    rcases List.mem_append.mp h with h | h
    · exact hs c h
    · exact hk c (List.mem_of_mem_drop h)
  · rw [TL.len_tl, e, List.length_append, List.length_append, List.length_take, List.length_drop]
    rw [TL.len_tl] at hz ls
    omega
theorem tlc_take (z : Str) (a : Nat) : TL.tl (L2.cutS z none (some ((a : Nat) : Int))) = (TL.tl z).take a := by
  show (z.cps.toList.drop (HT.sIx z.length 0 none)).take (HT.sIx z.length z.length (some ((a : Nat) : Int)) - HT.sIx z.length 0 none) = z.cps.toList.take a
  have l : z.cps.toList.length = z.length := by simp [Str.length]
  rw [HT.sIx_none, HT.sIx_nat, List.drop_zero, Nat.sub_zero, ← l]
  by_cases h : a ≤ z.cps.toList.length
  · rw [Nat.min_eq_left h]
  · rw [Nat.min_eq_right (by omega), List.take_of_length_le (Nat.le_refl _), List.take_of_length_le (by omega)]
theorem tlc_drop (z : Str) (a : Nat) : TL.tl (L2.cutS z (some ((a : Nat) : Int)) none) = (TL.tl z).drop a := by
  show (z.cps.toList.drop (HT.sIx z.length 0 (some ((a : Nat) : Int)))).take (HT.sIx z.length z.length none - HT.sIx z.length 0 (some ((a : Nat) : Int))) = z.cps.toList.drop a
  have l : z.cps.toList.length = z.length := by simp [Str.length]
  rw [HT.sIx_none, HT.sIx_nat, ← l]
  by_cases h : a ≤ z.cps.toList.length
  · rw [Nat.min_eq_left h, List.take_of_length_le (by rw [List.length_drop]; omega)]
  · rw [Nat.min_eq_right (by omega), List.drop_of_length_le (Nat.le_refl _), List.drop_of_length_le (l := z.cps.toList) (i := a) (by omega), List.take_nil]
theorem ixN_q {n j : Nat} (hj : j < n) : ixN n ((j : Nat) : Int) = some j := by
  unfold ixN
  rw [if_pos (by omega), if_pos (by omega)]
  simp
def sgns : List Str := [" ", "\n", "a", "0", "A", "k", "make ", "kind ", "  "]
def ends : List Str := ["", "\n", " "]
theorem sgn_ok : ∀ i : _root_.Fin 9, ∃ s, (sgns.map V.str)[i.1]? = some (V.str s) ∧ s.length ≤ 5 ∧ okS s
  | ⟨0, _⟩ => ⟨" ", rfl, by decide +kernel, okS_of _⟩
  | ⟨1, _⟩ => ⟨"\n", rfl, by decide +kernel, okS_of _⟩
  | ⟨2, _⟩ => ⟨"a", rfl, by decide +kernel, okS_of _⟩
  | ⟨3, _⟩ => ⟨"0", rfl, by decide +kernel, okS_of _⟩
  | ⟨4, _⟩ => ⟨"A", rfl, by decide +kernel, okS_of _⟩
  | ⟨5, _⟩ => ⟨"k", rfl, by decide +kernel, okS_of _⟩
  | ⟨6, _⟩ => ⟨"make ", rfl, by decide +kernel, okS_of _⟩
  | ⟨7, _⟩ => ⟨"kind ", rfl, by decide +kernel, okS_of _⟩
  | ⟨8, _⟩ => ⟨"  ", rfl, by decide +kernel, okS_of _⟩
theorem end_ok : ∀ i : _root_.Fin 3, ∃ s, (ends.map V.str)[i.1]? = some (V.str s) ∧ s.length ≤ 2 ∧ okS s
  | ⟨0, _⟩ => ⟨"", rfl, by decide +kernel, okS_of _⟩
  | ⟨1, _⟩ => ⟨"\n", rfl, by decide +kernel, okS_of _⟩
  | ⟨2, _⟩ => ⟨" ", rfl, by decide +kernel, okS_of _⟩
section
variable {P : Program} {w : World} {K : PySem.W.Frag} {mg : Str → Option Value} {base : Heap}
abbrev sBnt : Stmt := Kx.topS 39
abbrev nBnt : List Str := ["_law_deal_here", "_law_line", "_law_lines", "_law_way", "_law_at", "_law_sign", "_law_one", "_law_two"]
theorem scBnt : FnScope nBnt ["_law_deal_here", "_law_line"] (defScope sBnt) := ⟨rfl, rfl, rfl, by decide +kernel, rfl, by decide +kernel, by decide +kernel⟩
def spBnt : Sp := fun vs H Q _ => ∃ (p : Addr) (m : Md), vs = [.ref p, .str (mdT m)] ∧ DealAt H p ∧ GoodN m ∧ ∀ (y : Str) (H' : Hp), BentOk y → DealAt H' p → Sb p H H' → Q (.str y) H'
set_option maxHeartbeats 16000000 in
theorem ok_bnt {f fp : Addr} {fd fdp : FuncData} (F : Fun K "_law_bent" "_law_bent" sBnt f fd) (T : TS0 mg)
    (GP : FnOk P w K mg base CX0 1 fp fdp ["_law_deal_here", "_law_many"] spPick) (kp : PySem.W.keepIn K (.ref fp) = true) (bP : Binds K fdp ["_law_deal_here", "_law_many"] []) (gP : mg "_law_pick" = some (.ref fp)) :
    FnOk P w K mg base CX0 2 f fd ["_law_deal_here", "_law_line"] spBnt := by
  refine F.ok scBnt (fun vs H Q E h => ?_) (fun cv A ou s H vs Q E hr h => ?_)
  · obtain ⟨p, m, rfl, _⟩ := h
    rfl
  obtain ⟨p, m, rfl, hD, g, q⟩ := h
  refine ⟨_, pss_cons (ps_par3 (i := 2) (j := 3) (l := 4) (by rfl) scBnt.nd rfl rfl rfl (by decide) (by decide) (by decide) rfl rfl rfl (pa_cons (pe_split (pv 1) pe_str) (pa_cons (pe_call GP hr (by rfl) gP kp bP .nil pass0 (pa_cons (pv 0) (pa_cons pe_int pa_nil))) (pa_cons (pe_call GP hr (by rfl) gP kp bP .nil pass0 (pa_cons (pv 0) (pa_cons (pe_callB call_len_str (by rfl) T.len PySem.boot_len (pa_cons (pv 1) pa_nil)) pa_nil))) pa_nil))) (by rfl))
    (pss_cons (ps_set (i := 5) scBnt.nd rfl (.inl rfl) (pe_ix ix_list (pe_lst (pa_cons pe_str (pa_cons pe_str (pa_cons pe_str (pa_cons pe_str (pa_cons pe_str (pa_cons pe_str (pa_cons pe_str (pa_cons pe_str (pa_cons pe_str pa_nil)))))))))) (pe_call GP hr (by rfl) gP kp bP .nil pass0 (pa_cons (pv 0) (pa_cons pe_int pa_nil))) (fun _ _ => rfl)))
    (pss_cons (ps_if (pt_cmpR op_eq (pv 3) pe_int (nomark _)) (pss_one (ps_ret (pe_op op_add_str (pe_op op_add_str (pe_slice sl_str (pv 1) po_none (po_some (pv 4))) (pv 5)) (pe_slice sl_str (pv 1) (po_some (pv 4)) po_none)))) pss_nil)
    (pss_cons (ps_if (pt_cmpR op_eq (pv 3) pe_int (nomark _)) (pss_one (ps_ret (pe_op op_add_str (pe_slice sl_str (pv 1) po_none (po_some (pv 4))) (pe_slice sl_str (pv 1) (po_some (pe_op op_add (pv 4) pe_int)) po_none)))) pss_nil)
    (pss_cons (ps_if (pt_cmpR op_eq (pv 3) pe_int (nomark _)) (pss_one (ps_ret (pe_op op_add_str (pe_op op_add_str (pe_slice sl_str (pv 1) po_none (po_some (pv 4))) (pv 5)) (pe_slice sl_str (pv 1) (po_some (pe_op op_add (pv 4) pe_int)) po_none)))) pss_nil)
    (pss_cons (ps_par (i := 6) (j := 7) (by rfl) scBnt.nd rfl rfl (by decide) rfl rfl (pa_cons (pe_call GP hr (by rfl) gP kp bP .nil pass0 (pa_cons (pv 0) (pa_cons (pe_callB call_len_seq (by rfl) T.len PySem.boot_len (pa_cons (pv 2) pa_nil)) pa_nil))) (pa_cons (pe_call GP hr (by rfl) gP kp bP .nil pass0 (pa_cons (pv 0) (pa_cons (pe_callB call_len_seq (by rfl) T.len PySem.boot_len (pa_cons (pv 2) pa_nil)) pa_nil))) pa_nil)) (by rfl))
    (pss_cons (ps_if (pt_cmpR op_eq (pv 3) pe_int (nomark _)) (pss_one (ps_asg (pe_tup (pa_cons (pe_ix ix_list (pv 2) (pv 7) (fun _ _ => rfl)) (pa_cons (pe_ix ix_list (pv 2) (pv 6) (fun _ _ => rfl)) pa_nil))) (pg_tup rfl (pgs_cons (pg_sub (pv 2) (pv 6) set_list) (pgs_cons (pg_sub (pv 2) (pv 7) set_list) pgs_nil))))) pss_nil)
    (pss_cons (ps_if (pt_cmpR op_eq (pv 3) pe_int (nomark _)) (pss_one (ps_expr (pe_bm PySem.F.plainAttrs_list PySem.F.slot_list_append PySem.F.type_list_append mt_append (pv 2) (pa_cons (pe_ix ix_list (pv 2) (pv 6) (fun _ _ => rfl)) pa_nil)))) pss_nil)
    (pss_cons (ps_if (pt_cmpR op_eq (pv 3) pe_int (nomark _)) (pss_one (ps_set (i := 2) scBnt.nd rfl (.inl rfl) (pe_op op_cat (pe_slice sl_list (pv 2) po_none (po_some (pv 6))) (pe_slice sl_list (pv 2) (po_some (pe_op op_add (pv 6) pe_int)) po_none)))) pss_nil)
    (pss_one (ps_ret (pe_ifExp (pt_cmpR op_eq (pv 3) pe_int (nomark _)) (pe_op op_add_str (pe_join pe_str (pv 2)) (pe_ix ix_list (pe_lst (pa_cons pe_str (pa_cons pe_str (pa_cons pe_str pa_nil)))) (pe_call GP hr (by rfl) gP kp bP .nil pass0 (pa_cons (pv 0) (pa_cons pe_int pa_nil))) (fun _ _ => rfl))) (pe_join pe_str (pv 2))))))))))))), ?_⟩
  have sz := sizeLine_eq
  have zl := md_le g
  have zp := md_pos g
  have zok := okS_md g
  have hps := lines_md g
  have l10 := lin_n g
  have pl : 1 ≤ (linT m).length := List.length_pos_iff.mpr (lin_ne g)
  have pH : ∀ {G : Hp}, DealAt G p → ∀ {b : Addr}, G b = none → b ≠ p := fun D b n e => by
    obtain ⟨_, _, _, e2, _⟩ := D
    rw [e, e2] at n
    cases n
  have zc' : Txt.split (mdT m) "\n" = linT m := cut_md g
  generalize mdT m = z at *
  generalize linT m = ps at *
  refine ⟨.str z, rfl, ⟨_, rfl⟩, z, "\n", rfl, rfl, by decide +kernel, by omega, fun PA nPA => ?_⟩
  rw [zc'] at *
  have PAp := pH hD nPA
  have sPA := same_new (o := .lst (ps.map V.str)) nPA
  refine ⟨.ref p, rfl, p, 7, rfl, hD.keep sPA, by decide, by decide, fun d1 H1 l1 u1 D1 b1 => ?_⟩
  refine ⟨.ref p, rfl, .str z, rfl, z, rfl, by omega, p, _, rfl, D1, by omega, by omega, fun d2 H2 l2 u2 D2 b2 => ⟨_, _, _, rfl, ?_⟩⟩
  have B2 : Sb p H H2 := Sb.trans (.of sPA) (Sb.trans b1 b2)
  have ePA2 : H2 PA = some (.lst (ps.map V.str)) := b2 _ _ PAp (b1 _ _ PAp upd_same)
  refine ⟨(by show 9 ≤ sizeLine; decide), fun LL nLL => ?_⟩
  have LLp := pH D2 nLL
  have sLL := same_new (o := .lst (sgns.map V.str)) nLL
  refine ⟨.ref p, rfl, p, 9, rfl, D2.keep sLL, by decide, by decide, fun d3 H3 l3 u3 D3 b3 => ?_⟩
  obtain ⟨c3, rfl⟩ := Int.eq_ofNat_of_zero_le l3
  obtain ⟨sg, esg, lsg, hsg⟩ := sgn_ok ⟨c3, by omega⟩
  refine ⟨LL, _, _, .str sg, rfl, rfl, SqL.of (b3 _ _ LLp upd_same), atI_nat esg, ?_⟩
  have B3 : Sb p H H3 := B2.trans (Sb.trans (.of sLL) b3)
  have ePA3 : H3 PA = some (.lst (ps.map V.str)) := b3 _ _ PAp (sLL _ _ ePA2)
  obtain ⟨a, rfl⟩ := Int.eq_ofNat_of_zero_le l2
  have c1 := cutS_length z none (some ((a : Nat) : Int))
  have c2 := cutS_length z (some ((a : Nat) : Int)) none
  have c3' := cutS_length z (some (((a : Nat) : Int) + 1)) none
  have dI : ∀ i j : Int, decide (V.int i = V.int j) = decide (i = j) := fun i j => by simp
  refine ⟨.int d1, rfl, rfl, _, rfl, ?_⟩
  rw [dI]
  by_cases w0 : d1 = 0
  · rw [decide_eq_true w0]
    refine iteT ⟨.str z, rfl, .int ((a : Nat) : Int), rfl, _, rfl, z, rfl, by omega, .str sg, rfl, _, _, rfl, rfl, by omega, .str z, rfl, .int ((a : Nat) : Int), rfl, _, rfl, z, rfl, by omega, _, _, rfl, rfl, by rw [Str.length_append]; omega, ?_⟩
    refine q _ _ (bent_mid (a := a) (b := a) (s := sg) zl zok ?_ hsg lsg (Nat.le_refl _)) D3 B3
    rw [TL.tl_append, TL.tl_append, tlc_take, tlc_drop]
  rw [decide_eq_false w0]
  refine iteF ⟨.int d1, rfl, rfl, _, rfl, ?_⟩
  rw [dI]
  by_cases w1 : d1 = 1
  · rw [decide_eq_true w1]
    refine iteT ⟨.str z, rfl, .int ((a : Nat) : Int), rfl, _, rfl, z, rfl, by omega, .str z, rfl, .int ((a : Nat) : Int), rfl, _, _, rfl, rfl, _, rfl, z, rfl, by omega, _, _, rfl, rfl, by omega, ?_⟩
    refine q _ _ (bent_mid (a := a) (b := a + 1) (s := "") zl zok ?_ (okS_of "") (by decide +kernel) (Nat.le_succ _)) D3 B3
    rw [TL.tl_append, tlc_take, show TL.tl ("" : Str) = [] by decide +kernel, List.append_nil]
    show _ ++ TL.tl (L2.cutS z (some (((a : Nat) : Int) + 1)) none) = _
    rw [show (((a : Nat) : Int) + 1) = ((a + 1 : Nat) : Int) from rfl, tlc_drop]
  rw [decide_eq_false w1]
  refine iteF ⟨.int d1, rfl, rfl, _, rfl, ?_⟩
  rw [dI]
  by_cases w2 : d1 = 2
  · rw [decide_eq_true w2]
    refine iteT ⟨.str z, rfl, .int ((a : Nat) : Int), rfl, _, rfl, z, rfl, by omega, .str sg, rfl, _, _, rfl, rfl, by omega, .str z, rfl, .int ((a : Nat) : Int), rfl, _, _, rfl, rfl, _, rfl, z, rfl, by omega, _, _, rfl, rfl, by rw [Str.length_append]; omega, ?_⟩
    refine q _ _ (bent_mid (a := a) (b := a + 1) (s := sg) zl zok ?_ hsg lsg (Nat.le_succ _)) D3 B3
    rw [TL.tl_append, TL.tl_append, tlc_take]
    show _ ++ TL.tl (L2.cutS z (some (((a : Nat) : Int) + 1)) none) = _
    rw [show (((a : Nat) : Int) + 1) = ((a + 1 : Nat) : Int) from rfl, tlc_drop]
  rw [decide_eq_false w2]
  refine iteF ?_
  refine ⟨.ref p, rfl, .ref PA, rfl, PA, _, rfl, .inl (SqL.of ePA3), p, _, rfl, D3, by rw [List.length_map]; omega, by rw [List.length_map]; omega, fun d4 H4 l4 u4 D4 b4 => ?_⟩
  have ePA4 := b4 _ _ PAp ePA3
  refine ⟨.ref p, rfl, .ref PA, rfl, PA, _, rfl, .inl (SqL.of ePA4), p, _, rfl, D4, by rw [List.length_map]; omega, by rw [List.length_map]; omega, fun d5 H5 l5 u5 D5 b5 => ⟨_, _, rfl, ?_⟩⟩
  have ePA5 := b5 _ _ PAp ePA4
  have B5 : Sb p H H5 := B3.trans (Sb.trans b4 b5)
  rw [List.length_map] at u4 u5
  obtain ⟨i, rfl⟩ := Int.eq_ofNat_of_zero_le l4
  obtain ⟨j, rfl⟩ := Int.eq_ofNat_of_zero_le l5
  have hi : i < ps.length := by omega
  have hj : j < ps.length := by omega
  have ei : ps[i]? = some ps[i] := List.getElem?_eq_getElem hi
  have ej : ps[j]? = some ps[j] := List.getElem?_eq_getElem hj
  have ei' : (ps.map V.str)[i]? = some (.str ps[i]) := by rw [List.getElem?_map, ei]; rfl
  have ej' : (ps.map V.str)[j]? = some (.str ps[j]) := by rw [List.getElem?_map, ej]; rfl
  have mi := List.mem_of_getElem? ei
  have mj := List.mem_of_getElem? ej
  have ll1 : (Str.ofString "\n").length = 1 := by decide +kernel
  have joined : ∀ qs : List Str, LinesOk qs → (qs.map (·.length)).sum + qs.length * (Str.ofString "\n").length ≤ 16777216 := fun qs hq => by
    have b := sum_le (c := 60) fun z hz => (hq.par z hz).2
    have := hq.n
    rw [ll1]
    omega
  have done : ∀ (qs : List Str) (G : Hp), LinesOk qs → DealAt G p → Sb p H G → Q (.str (Txt.join (Str.ofString "\n") qs)) G := fun qs G hq DG BG => q _ G (bent_join hq) DG BG
  have mvp : ∀ {G : Hp} {o : HO}, DealAt G p → DealAt (upd G PA o) p := fun D => by
    obtain ⟨x, y, c, e, l⟩ := D
    exact ⟨x, y, c, by rw [upd_ne (Ne.symm PAp)]; exact e, l⟩
  have hd : d1 = 3 ∨ d1 = 4 ∨ d1 = 5 ∨ d1 = 6 := by omega
  rcases hd with rfl | rfl | rfl | rfl
  · refine ⟨.int 3, rfl, rfl, _, rfl, iteT ⟨.ref PA, rfl, .int ((j : Nat) : Int), rfl, PA, _, _, .str ps[j], rfl, rfl, SqL.of ePA5, atI_nat ej', .ref PA, rfl, .int ((i : Nat) : Int), rfl, PA, _, _, .str ps[i], rfl, rfl, SqL.of ePA5, atI_nat ei', (by show 2 ≤ sizeLine; decide), fun T2 nT2 => ?_⟩⟩
    have sT2 := same_new (o := .tup [V.str ps[j], V.str ps[i]]) nT2
    have ePA6 := sT2 _ _ ePA5
    have D6 := D5.keep sT2
    have eset : ((ps.map V.str).set i (V.str ps[j])).set j (V.str ps[i]) = ((ps.set i ps[j]).set j ps[i]).map V.str := by
      rw [List.map_set, List.map_set]
    refine ⟨T2, _, rfl, SqT.of upd_same, rfl, _, _, rfl, .ref PA, rfl, .int ((i : Nat) : Int), rfl, PA, _, _, i, rfl, rfl, ePA6, ixN_q (by rw [List.length_map]; exact hi), ?_⟩
    refine ⟨_, _, rfl, .ref PA, rfl, .int ((j : Nat) : Int), rfl, PA, _, _, j, rfl, rfl, upd_same, ixN_q (by rw [List.length_set, List.length_map]; exact hj), rfl, ?_⟩
    have hq : LinesOk ((ps.set i ps[j]).set j ps[i]) := ⟨fun x hx => by
      rcases List.mem_or_eq_of_mem_set hx with h | rfl
      · rcases List.mem_or_eq_of_mem_set h with h | rfl
        · exact hps.par x h
        · exact hps.par _ mj
      · exact hps.par _ mi, by
      rw [List.length_set, List.length_set]
      omega⟩
    refine ⟨.int 3, rfl, rfl, _, rfl, iteF ⟨.int 3, rfl, rfl, _, rfl, iteF ⟨.int 3, rfl, rfl, _, rfl, iteF ⟨⟨_, rfl⟩, .ref PA, rfl, _, PA, _, rfl, rfl, .inl (SqL.of (by rw [upd_same, eset])), joined _ hq, ?_⟩⟩⟩⟩
    refine done _ _ hq (mvp (mvp D6)) fun b o nb e => ?_
    have := B5 b o nb e
    have nbP : b ≠ PA := fun h => by rw [h] at e; rw [e] at nPA; cases nPA
    rw [upd_ne nbP, upd_ne nbP]
    exact sT2 _ _ this
  · refine ⟨.int 4, rfl, rfl, _, rfl, iteF ⟨.int 4, rfl, rfl, _, rfl, iteT ?_⟩⟩
    have eap : ps.map V.str ++ [V.str ps[i]] = (ps ++ [ps[i]]).map V.str := by rw [List.map_append]; rfl
    have hq : LinesOk (ps ++ [ps[i]]) := ⟨fun x hx => by
      rcases List.mem_append.mp hx with h | h
      · exact hps.par x h
      · rw [List.mem_singleton.mp h]
        exact hps.par _ mi, by
      rw [List.length_append, List.length_singleton]
      omega⟩
    refine ⟨.ref PA, rfl, .inl ⟨rfl, _, SqL.of ePA5⟩, .ref PA, rfl, .int ((i : Nat) : Int), rfl, PA, _, _, .str ps[i], rfl, rfl, SqL.of ePA5, atI_nat ei', PA, _, _, rfl, rfl, ePA5, by rw [List.length_map]; omega, ?_⟩
    refine ⟨.int 4, rfl, rfl, _, rfl, iteF ⟨.int 4, rfl, rfl, _, rfl, iteF ⟨⟨_, rfl⟩, .ref PA, rfl, _, PA, _, rfl, rfl, .inl (SqL.of (by rw [upd_same, eap])), joined _ hq, ?_⟩⟩⟩
    refine done _ _ hq (mvp D5) fun b o nb e => ?_
    have nbP : b ≠ PA := fun h => by rw [h] at e; rw [e] at nPA; cases nPA
    rw [upd_ne nbP]
    exact B5 b o nb e
  · refine ⟨.int 5, rfl, rfl, _, rfl, iteF ⟨.int 5, rfl, rfl, _, rfl, iteF ⟨.int 5, rfl, rfl, _, rfl, iteT ?_⟩⟩⟩
    refine ⟨.ref PA, rfl, .int ((i : Nat) : Int), rfl, _, rfl, PA, _, rfl, SqL.of ePA5, fun A1 nA1 => ?_⟩
    have c1 : cutV (ps.map V.str) none (some ((i : Nat) : Int)) = (ps.map V.str).take i := cut_take (xs := ps.map V.str) (i := i) (by rw [List.length_map]; omega)
    have c2 : cutV (ps.map V.str) (some (((i : Nat) : Int) + 1)) none = (ps.map V.str).drop (i + 1) := cut_drop (xs := ps.map V.str) (i := i + 1) (by rw [List.length_map]; omega)
    rw [c1]
    have s1 := same_new (o := .lst ((ps.map V.str).take i)) nA1
    refine ⟨.ref PA, rfl, .int ((i : Nat) : Int), rfl, _, _, rfl, rfl, _, rfl, PA, _, rfl, SqL.of (s1 _ _ ePA5), fun A2 nA2 => ?_⟩
    rw [c2]
    have s2 := same_new (o := .lst ((ps.map V.str).drop (i + 1))) nA2
    refine ⟨A1, A2, _, _, rfl, rfl, s2 _ _ upd_same, upd_same, by rw [List.length_take, List.length_drop, List.length_map]; omega, fun A5 nA5 => ?_⟩
    have s5 := same_new (o := .lst ((ps.map V.str).take i ++ (ps.map V.str).drop (i + 1))) nA5
    have s05 := s1.trans (s2.trans s5)
    have eq4 : (ps.map V.str).take i ++ (ps.map V.str).drop (i + 1) = (ps.take i ++ ps.drop (i + 1)).map V.str := by
      rw [List.map_append, List.map_take, List.map_drop]
    have hq : LinesOk (ps.take i ++ ps.drop (i + 1)) := ⟨fun x hx => by
      rcases List.mem_append.mp hx with h | h
      · exact hps.par x (List.mem_of_mem_take h)
      · exact hps.par x (List.mem_of_mem_drop h), by
      rw [List.length_append, List.length_take, List.length_drop]
      omega⟩
    refine ⟨.int 5, rfl, rfl, _, rfl, iteF ⟨⟨_, rfl⟩, .ref A5, rfl, _, A5, _, rfl, rfl, .inl (SqL.of (by rw [upd_same, eq4])), joined _ hq, ?_⟩⟩
    exact done _ _ hq (D5.keep s05) (B5.trans (.of s05))
  · refine ⟨.int 6, rfl, rfl, _, rfl, iteF ⟨.int 6, rfl, rfl, _, rfl, iteF ⟨.int 6, rfl, rfl, _, rfl, iteF ⟨.int 6, rfl, rfl, _, rfl, iteT ?_⟩⟩⟩⟩
    refine ⟨⟨_, rfl⟩, .ref PA, rfl, _, PA, ps, rfl, rfl, .inl (SqL.of ePA5), joined _ hps, (by show 3 ≤ sizeLine; decide), fun L6 nL6 => ?_⟩
    have s6 := same_new (o := .lst (ends.map V.str)) nL6
    have L6p := pH D5 nL6
    refine ⟨.ref p, rfl, p, 3, rfl, D5.keep s6, by decide, by decide, fun d6 H6 l6 u6 D6 b6 => ?_⟩
    obtain ⟨c6, rfl⟩ := Int.eq_ofNat_of_zero_le l6
    obtain ⟨se, ese, lse, hse⟩ := end_ok ⟨c6, by omega⟩
    have jl := tjoin_le (Str.ofString "\n") ps (c := 60) (n := 10) (k := 1) (fun z hz => (hps.par z hz).2) l10 (by decide +kernel)
    refine ⟨L6, _, _, .str se, rfl, rfl, SqL.of (b6 _ _ L6p upd_same), atI_nat ese, _, _, rfl, rfl, ?_, ?_⟩
    · show (Txt.join (Str.ofString "\n") ps).length + se.length ≤ sizeLine
      omega
    · refine q _ _ ⟨okS_app (bent_join hps).ok hse, ?_⟩ D6 (B5.trans (Sb.trans (.of s6) b6))
      have := Str.length_append (Txt.join (Str.ofString "\n") ps) se
      show (Txt.join (Str.ofString "\n") ps ++ se).length ≤ 890
      omega
end
end Ks
set_option Elab.async false
set_option linter.all false
set_option maxRecDepth 100000
set_option maxHeartbeats 4000000
/-! the truth of an own instance by its __len__, bool(x) -/
namespace PySem.W
open PySem PySem.Calls PyProof.Rows Builtin
section
variable {prog : Program} {w : World} {A : Around} {E : Value → Shared → Prop} {s : Shared} {K : Frag} {x C L f : Addr} {h₀ : Heap} {m : Str → Option Value} {ox : Obj} {od : Option Obj}
theorem truthy_len {Q : Bool → Shared → Prop} (F : Fr h₀ L s.heap m) (X₀ : K.In h₀) (I : InstAt s.heap x ox C od) (hs : findIn K (.ref C) "__bool__" = some none) (hl : findIn K (.ref C) "__len__" = some (some (.ref f))) (hf : isFn K (.ref f) = true)
    (h : wpAny (model prog w) A.in1 (call (.ref f) [.ref x]) (fun v s' => ∃ n t, v = .int n t ∧ (0 ≤ n ∧ n < 2 ^ 63) ∧ Q (n != 0) { s' with toks := s'.toks + 1 }) E s) : wpAny (model prog w) A (truthy (.ref x)) Q E s := by
  have X := X₀.keeps F.keep
  have key : wpAny (model prog w) A (runValue (.builtin "len" ⟨[.ref x], []⟩)) (fun r s' => ∃ n t, r = .int n t ∧ Q (n != 0) s') E s := by
    refine wpAny_runValue (codeAny_builtin entry_len ?_)
    rw [Around.under_plainId plain_len _]
    unfold Builtin.«len»
    refine wpAny_bind (m := oneArg "len" _) (wpAny_pure ?_)
    refine wpAny_bind (m := callSpecial? (.ref x) (Str.ofString "__len__")) (special_fn X I hl (beq_iff_eq.mp hf) (wpAny_mono h (fun r s' hr => ?_) fun _ _ y => y))
    obtain ⟨n, t, rfl, ⟨h0, h1⟩, hq⟩ := hr
    refine wpAny_bind (wpAny_holding (wpAny_pure ?_))
    refine wpAny_bind (wpAny_letGo ?_)
    show wpAny _ _ (if n < 0 then _ else _) _ _ _
    rw [if_neg (by omega)]
    show wpAny _ _ (if n ≥ 2 ^ 63 then _ else _) _ _ _
    rw [if_neg (by omega)]
    exact wpAny_bind (wpAny_mkInt (wpAny_pure ⟨n, _, rfl, hq⟩))
  unfold truthy
  refine wpAny_bind (m := callSpecial? (.ref x) (Str.ofString "__bool__")) (wpAny_bind (wpAny_bind (I.type.here ((looks_findIn X hs).here (wpAny_pure ?_)))))
  refine wpAny_bind (wpAny_bind (I.type.here ((looks_findIn X hl).here ?_)))
  show wpAny _ _ (if (some (Value.ref f)).isNone = true then _ else _) _ _ _
  rw [if_neg (by simp)]
  refine wpAny_bind (wpAny_mono key (fun r s' z => ?_) fun _ _ e => e)
  obtain ⟨n, t, rfl, q⟩ := z
  exact wpAny_pure q
theorem bool_new {a : Addr} : MeetsIn prog w (Builtin.«bool.__new__» ⟨[.type "bool", .ref a], []⟩) (fun A R s => wpAny (model prog w) A.in1 (truthy (.ref a)) (fun b s' => R (.ok (.ret (.bool b))) s') (fun e s' => R (.error e) s') s) :=
  .of_wp fun A R s h => by
    have f1 := F.conv_sub_bool
    obtain ⟨hp, g, d, tk, os⟩ := s
    have h2 : ∀ {Q : Bool → Shared → Prop}, (∀ b s', R (.ok (.ret (.bool b))) s' → Q b s') → wpAny (model prog w) A.in1 (truthy (.ref a)) Q (fun e s' => R (.error e) s') ⟨hp, g, d, tk, os⟩ := fun q => wpAny_mono h (fun b s' z => q b s' z) fun _ _ e => e
    repeat (any_goals (first | assumption | (with_reducible refine h2 fun b s' z => ?_) | wp_step))
    all_goals exact ⟨_, rfl, z⟩

end
end PySem.W
namespace Gd
open PySem PySem.Spec PyProof.Rows L2
section
variable {X : Cx} {CX : CXT} {k : Nat} {C f : Addr} {fd : FuncData} {ps : List Str} {sp : Sp} {E : XK}
/-- bool(x), by len(x) -/
def rBoolO (C : Addr) (sp : Sp) (E : XK) : List V → Hp → VK → Prop := fun xs H Q => ∃ a dx fs, xs = [.ref a] ∧ H a = some (.ins C dx fs) ∧ sp [.ref a] H (fun v H' => ∃ n : Int, v = .int n ∧ 0 ≤ n ∧ n < 2 ^ 63 ∧ Q (.bl (n != 0)) H') E
theorem call_boolO (D : Dm X.K C "__len__" f) (nb : PySem.W.findIn X.K (.ref C) "__bool__" = some none) (F : FnOk X.prog X.w X.K X.mg X.base CX k f fd ps sp) (hr : Room (k + 3) X.A) (hb : Binds X.K fd ps []) (hx : Passes CX X.nox E) : CallR X (.type "bool") (rBoolO C sp E) := by
  intro pins s σ H xs us Q I r h
  obtain ⟨a, dx, fs, rfl, ea, q⟩ := h
  have e1 := Vals.ref1 r
  subst e1
  obtain ⟨mA, J, _⟩ := ins_get I.hok ea
  obtain ⟨od, J, _⟩ := J.look
  obtain ⟨m, hF⟩ := I.fr
  refine callType_newIn PySem.F.called_bool PySem.F.newNe_bool (PySem.F.typeCall_bool_1 _) (PySem.F.newCall_bool_1 _) (fun obj => PySem.F.args_object_init_2 obj _) PySem.F.entry_bool_new PySem.W.bool_new ?_
  refine PySem.W.truthy_len hF I.ok.mod.kin J nb D.at_ D.fn (wpAny_mono (run_at F hr.in1.in1.in1 I.env0.in1.in1.in1 hb hx I r q) (fun v s' z => ?_) fun _ _ e => e)
  obtain ⟨y, H', I', ry, n, ey, n0, n1, q2⟩ := z
  subst ey
  obtain ⟨t, rfl⟩ := ry
  exact ⟨n, t, rfl, ⟨n0, n1⟩, rfl, .bl (n != 0), H', I'.tok _, rfl, q2⟩
end
end Gd
set_option Elab.async false
set_option linter.all false
set_option maxRecDepth 100000
set_option maxHeartbeats 4000000
/-! != of two own instances whose class has an == and no != of its own -/
namespace PySem.W
open PySem PySem.Calls PyProof.Rows Builtin
section
variable {prog : Program} {w : World} {A : Around} {E : Value → Shared → Prop} {s : Shared} {K : Frag} {x y C L f : Addr} {h₀ : Heap} {m : Str → Option Value} {ox oy : Obj} {od od2 : Option Obj}
theorem ifBound_slot {M : Model} {name : Str} {id B : String} {args : List Value} {Q : Option Value → Shared → Prop} (X : K.In s.heap) (I : InstAt s.heap x ox C od) (hs : findIn K (.ref C) name = some (some (.builtin id))) (S : Slot B name id)
    (h : wpAny M A (call (.builtin id) (.ref x :: args)) (fun v => Q (some v)) E s) : wpAny M A (callSpecialIfBound? (.ref x) name args) Q E s := by
  simp only [callSpecialIfBound?, bindSpecialIfBound?]
  refine wpAny_holding (wpAny_bind (wpAny_bind (wpAny_bind (I.type.here ((looks_findIn X hs).here ?_)))))
  simp only [S.bind]
  refine wpAny_bind (wpAny_askSetting (wpAny_ite ?_))
  have fin : wpAny M A (call (.builtin id) ([.ref x] ++ args) >>= fun v => pure (some v)) Q E s := wpAny_bind (wpAny_mono h (fun v s' z => wpAny_pure z) fun _ _ z => z)
  split
  · exact wpAny_bind (wpAny_pure (wpAny_pure fin))
  · exact wpAny_tryCatch (wpAny_bind (wpAny_pure (wpAny_pure fin)))
theorem ne_body {Q : Fin → Shared → Prop} (hu : A.units < cLine) (X : K.In s.heap) (I : InstAt s.heap x ox C od) (hs : findIn K (.ref C) "__eq__" = some (some (.ref f))) (hf : isFn K (.ref f) = true)
    (h : wpAny (model prog w) A (call (.ref f) [.ref x, .ref y]) (fun v s' => ∃ b, v = .bool b ∧ Q (.done (.ret (.bool (!b)))) s') E s) : wpAny (model prog w) A (Builtin.«object.__ne__» ⟨[.ref x, .ref y], []⟩) Q E s := by
  unfold Builtin.«object.__ne__»
  refine wpAny_bind (m := slotArgs "__ne__" 1 _) (wpAny_pure ?_)
  refine wpAny_bind (wpAny_cRoomFor hu ?_)
  refine wpAny_bind (ifBound_K X I hs hf (wpAny_mono h (fun v s' z => ?_) fun _ _ e => e))
  obtain ⟨b, rfl, q⟩ := z
  refine wpAny_bind (m := truthy (.bool b)) (wpAny_pure ?_)
  exact wpAny_pure q
theorem ne_K {Q : Value → Shared → Prop} (hu : A.units + 1 < cLine) (F : Fr h₀ L s.heap m) (X₀ : K.In h₀) (I : InstAt s.heap x ox C od) (J : InstAt s.heap y oy C od2) (hn : findIn K (.ref C) "__ne__" = some (some (.builtin "object.__ne__"))) (mo : mroIn K C (.type "object") = some true)
    (hs : findIn K (.ref C) "__eq__" = some (some (.ref f))) (hf : isFn K (.ref f) = true) (hv : A.in1.units < cLine)
    (h : wpAny (model prog w) A.in1 (call (.ref f) [.ref x, .ref y]) (fun v s' => ∃ b, v = .bool b ∧ Q (.bool (!b)) s') E s) : wpAny (model prog w) A (richCompare .NotEq (.ref x) (.ref y)) Q E s := by
  have X := X₀.keeps F.keep
  have one : wpAny (model prog w) A (tryCompare (.ref x) "__ne__" (.ref y)) (fun r s' => ∃ v, r = some v ∧ Q v s') E s := by
    unfold tryCompare
    refine wpAny_bind (ifBound_slot X I hn PySem.F.cmp_object.ne (wpAny_call (codeAny_call_builtin PySem.F.cmp_object.ne.plain PySem.F.cmpEntry_ne
      (check_slot PySem.F.cmpKind_ne PySem.F.cmpSplit_ne (I.type.andThen (looks_mroIn X mo)) (PySem.F.cmpArgs_ne _ _) (ne_body hv X I hs hf (wpAny_mono h (fun v s' z => ?_) fun _ _ e => e))))))
    obtain ⟨b, rfl, q⟩ := z
    exact ⟨b, rfl, wpAny_pure ⟨_, rfl, q⟩⟩
  unfold richCompare
  simp only [oneThing_ref]
  refine wpAny_holding (wpAny_bind (wpAny_cRoomFor (Nat.lt_of_succ_lt hu) ?_))
  refine wpAny_bind (I.type.here (wpAny_bind (J.type.here ?_)))
  rw [if_neg (by simp)]
  refine wpAny_bind (wpAny_pure ?_)
  simp only [Bool.false_eq_true, if_false]
  refine wpAny_bind (wpAny_mono one (fun r s' z => ?_) fun _ _ e => e)
  obtain ⟨v, rfl, hq⟩ := z
  exact wpAny_pure hq
end
end PySem.W

namespace Gd
open PySem PySem.Spec PyProof.Rows L2
section
variable {X : Cx} {CX : CXT} {k : Nat} {C f : Addr} {fd : FuncData} {ps : List Str} {sp : Sp} {E : XK}
/-- x != y, both instances, by their == -/
def rNeO (C : Addr) (sp : Sp) (E : XK) : R2 := fun x y H Q => ∃ a dx fs b dy gs, x = .ref a ∧ y = .ref b ∧ H a = some (.ins C dx fs) ∧ H b = some (.ins C dy gs) ∧ sp [.ref a, .ref b] H (fun r H' => ∃ b : Bool, r = .bl b ∧ Q (.bl (!b)) H') E
theorem op_neO (D : Dm X.K C "__eq__" f) (nn : PySem.W.findIn X.K (.ref C) "__ne__" = some (some (.builtin "object.__ne__"))) (mo : PySem.W.mroIn X.K C (.type "object") = some true) (F : FnOk X.prog X.w X.K X.mg X.base CX k f fd ps sp) (hr : Room (k + 1) X.A) (hb : Binds X.K fd ps []) (hx : Passes CX X.nox E) : OpR X (compareOp .NotEq) (rNeO C sp E) := by
  intro pins s σ H x y v u Q I rx ry h
  obtain ⟨a, dx, fs, b, dy, gs, rfl, rfl, ea, eb, q⟩ := h
  obtain rfl : v = Value.ref a := rx
  obtain rfl : u = Value.ref b := ry
  obtain ⟨mA, J, _⟩ := ins_get I.hok ea
  obtain ⟨od, J, _⟩ := J.look
  obtain ⟨mB, J2, _⟩ := ins_get I.hok eb
  obtain ⟨od2, J2, _⟩ := J2.look
  obtain ⟨m, hF⟩ := I.fr
  show wpAny _ _ (richCompare .NotEq (.ref a) (.ref b)) _ _ _
  have hu := hr.units
  refine PySem.W.ne_K (by omega) hF I.ok.mod.kin J J2 nn mo D.at_ D.fn hr.in1.units0 (wpAny_mono (run_at F hr.in1 I.env0.in1 hb hx I (.cons (show RelV (V.ref a) (Value.ref a) from rfl) (.cons (show RelV (V.ref b) (Value.ref b) from rfl) .nil)) q) (fun r s' z => ?_) fun _ _ e => e)
  obtain ⟨y, H', I', ry, b, ey, q2⟩ := z
  subst ey
  obtain rfl : r = Value.bool b := ry
  exact ⟨b, rfl, .bl (!b), H', I', rfl, q2⟩
end
end Gd
set_option Elab.async false
set_option linter.all false
set_option maxRecDepth 100000
set_option maxHeartbeats 4000000
/-! a built-in's == with an instance of an own class declines -/
namespace PySem.W
open PySem PySem.Calls PyProof.Rows Builtin
section
variable {prog : Program} {w : World} {K : Frag} {a C : Addr} {ox : Obj} {od : Option Obj} {u : Value}
theorem tup_declines (e : subIn K (.ref C) (.type "tuple") = some false) : MeetsIn prog w (Builtin.«tuple.__eq__» ⟨[u, .ref a], []⟩) (fun _ R s => (K.In s.heap ∧ InstAt s.heap a ox C od) ∧ R (.ok (.ret .notImplemented)) s) :=
  .of_wp fun A R s h => by
    obtain ⟨⟨X, I⟩, h⟩ := h
    have hi : Looks (model prog w) s.heap (isInstance (.ref a) (.type "tuple")) false := I.type.andThen (looks_subIn X e)
    refine wpAny_bind (m := slotArgs "__eq__" 1 _) (wpAny_pure ?_)
    refine wpAny_bind (hi.here ?_)
    exact wpAny_bind (wpAny_pure (wpAny_pure ⟨_, rfl, h⟩))
theorem dict_declines (e : subIn K (.ref C) (.type "dict") = some false) : MeetsIn prog w (Builtin.«dict.__eq__» ⟨[u, .ref a], []⟩) (fun _ R s => (K.In s.heap ∧ InstAt s.heap a ox C od) ∧ R (.ok (.ret .notImplemented)) s) :=
  .of_wp fun A R s h => by
    obtain ⟨⟨X, I⟩, h⟩ := h
    have hi : Looks (model prog w) s.heap (isInstance (.ref a) (.type "dict")) false := I.type.andThen (looks_subIn X e)
    refine wpAny_bind (m := Dict.dictSlotArgs "__eq__" _) (wpAny_pure ?_)
    refine wpAny_bind (hi.here ?_)
    exact wpAny_bind (wpAny_rule (wpAny_bind (wpAny_pure (wpAny_pure ⟨_, rfl, h⟩))))
theorem str_declines {z : Str} {tk : Tok} (hd : ox.data = .plain) : MeetsIn prog w (Builtin.«str.__eq__» ⟨[.str z tk, .ref a], []⟩) (fun _ R s => s.heap.get? a = some ox ∧ R (.ok (.ret .notImplemented)) s) :=
  .of_wp fun A R s h => by
    obtain ⟨ho, h⟩ := h
    refine wpAny_bind (m := Str.strSlot "__eq__" 1 _) (wpAny_pure ?_)
    refine wpAny_bind (m := asStr? (.ref a)) (wpAny_bind (wpAny_loadPart ho ?_))
    rw [hd]
    refine wpAny_pure ?_
    exact wpAny_bind (wpAny_rule (wpAny_pure ⟨_, rfl, h⟩))
theorem int_declines {i : Int} {tk : Tok} (hd : ox.data = .plain) : MeetsIn prog w (Builtin.«int.__eq__» ⟨[.int i tk, .ref a], []⟩) (fun _ R s => s.heap.get? a = some ox ∧ R (.ok (.ret .notImplemented)) s) :=
  .of_wp fun A R s h => by
    obtain ⟨ho, h⟩ := h
    refine wpAny_bind (m := slotArgs "__eq__" 1 _) (wpAny_pure ?_)
    refine wpAny_bind (m := Int.intOfSelf (.int i tk)) (wpAny_pure ?_)
    refine wpAny_bind (m := asInt? (.ref a)) (wpAny_bind (wpAny_loadPart ho ?_))
    rw [hd]
    refine wpAny_pure ?_
    exact wpAny_bind (wpAny_rule (wpAny_pure ⟨_, rfl, h⟩))
theorem bool_declines {b : Bool} (hd : ox.data = .plain) : MeetsIn prog w (Builtin.«int.__eq__» ⟨[.bool b, .ref a], []⟩) (fun _ R s => s.heap.get? a = some ox ∧ R (.ok (.ret .notImplemented)) s) :=
  .of_wp fun A R s h => by
    obtain ⟨ho, h⟩ := h
    refine wpAny_bind (m := slotArgs "__eq__" 1 _) (wpAny_pure ?_)
    refine wpAny_bind (m := Int.intOfSelf (.bool b)) (wpAny_pure ?_)
    refine wpAny_bind (m := asInt? (.ref a)) (wpAny_bind (wpAny_loadPart ho ?_))
    rw [hd]
    refine wpAny_pure ?_
    exact wpAny_bind (wpAny_rule (wpAny_pure ⟨_, rfl, h⟩))
end
section
variable {prog : Program} {w : World} {A : Around} {E : Value → Shared → Prop} {s : Shared} {K : Frag} {a C L f : Addr} {h₀ : Heap} {m : Str → Option Value} {ox : Obj} {od : Option Obj} {u : Value} {T id : String}
/-- u == x, u of a built-in type whose == declines: x's own == is asked -/
theorem eq_turned {Q : Value → Shared → Prop} (hu : A.units < cLine) (F : Fr h₀ L s.heap m) (X₀ : K.In h₀) (I : InstAt s.heap a ox C od) (hT : s.TypeIs u T) (S : Slot T "__eq__" id) (sub : subIn K (.ref C) (.type T) = some false) (one : oneThing? .Eq u (.ref a) = none)
    (dec : ∀ Q' : Value → Shared → Prop, Q' .notImplemented s → wpAny (model prog w) A (call (.builtin id) [u, .ref a]) Q' E s) (hs : findIn K (.ref C) "__eq__" = some (some (.ref f))) (hf : isFn K (.ref f) = true)
    (h : wpAny (model prog w) A (call (.ref f) [.ref a, u]) (CmpBack Q) E s) : wpAny (model prog w) A (richCompare .Eq u (.ref a)) Q E s := by
  have X := X₀.keeps F.keep
  have own : wpAny (model prog w) A (tryCompare (.ref a) (cmpInfo .Eq).2.2 u) (fun r s' => ∃ v, r = some v ∧ Q v s') E s := by
    unfold tryCompare
    refine wpAny_bind (ifBound_K X I hs hf (wpAny_mono h (fun v s' hv => ?_) fun _ _ e => e))
    cases v <;> first | exact hv.elim | exact wpAny_pure ⟨_, rfl, hv⟩
  unfold richCompare
  simp only [one]
  refine wpAny_holding (wpAny_bind (wpAny_cRoomFor hu ?_))
  refine wpAny_bind (wpAny_typeOf hT (wpAny_bind (I.type.here ?_)))
  rw [if_pos (by simp)]
  refine wpAny_bind ((looks_subIn X sub).here ?_)
  simp only [Bool.false_eq_true, if_false]
  refine wpAny_bind (wpAny_tryCompare_declines hT S (dec _ ⟨rfl, ?_⟩))
  simp only [Bool.not_false, if_true]
  refine wpAny_bind (wpAny_mono own (fun r s' z => ?_) fun _ _ e => e)
  obtain ⟨v, rfl, hq⟩ := z
  exact wpAny_pure hq
end
end PySem.W
set_option Elab.async false
set_option linter.all false
set_option maxRecDepth 100000
set_option maxHeartbeats 4000000
namespace Gd
open PySem PySem.Spec PyProof.Rows L2
section
variable {X : Cx} {CX : CXT} {k : Nat} {C f : Addr} {fd : FuncData} {ps : List Str} {sp : Sp} {E : XK}
/-- values of built-in types whose == declines an instance -/
inductive Bt (K : PySem.W.Frag) (H : Hp) : V → Prop where
  | non : Bt K H .non
  | bl (b : Bool) : Bt K H (.bl b)
  | int (i : Int) : Bt K H (.int i)
  | str (z : Str) : Bt K H (.str z)
  | tup {a : Addr} {xs : List V} (h : SqT K H a xs) : Bt K H (.ref a)
  | dct {a : Addr} {kvs : List (Key × V)} (h : H a = some (.dK kvs)) : Bt K H (.ref a)
def rEqT (K : PySem.W.Frag) (C : Addr) (sp : Sp) (E : XK) : R2 := fun x y H Q => ∃ a dx fs, y = .ref a ∧ H a = some (.ins C dx fs) ∧ Bt K H x ∧ sp [.ref a, x] H (fun r H' => ∃ b : Bool, r = .bl b ∧ Q (.bl b) H') E
theorem op_eqT (D : Dm X.K C "__eq__" f) (hsub : ∀ T ∈ ["NoneType", "bool", "int", "str", "tuple", "dict"], PySem.W.subIn X.K (.ref C) (.type T) = some false) (F : FnOk X.prog X.w X.K X.mg X.base CX k f fd ps sp) (hr : Room k X.A) (hb : Binds X.K fd ps []) (hx : Passes CX X.nox E) : OpR X (compareOp .Eq) (rEqT X.K C sp E) := by
  intro pins s σ H x y v u Q I rx ry h
  obtain ⟨a, dx, fs, rfl, ea, bt, q⟩ := h
  obtain rfl : u = Value.ref a := ry
  obtain ⟨mA, J, _⟩ := ins_get I.hok ea
  obtain ⟨od, J, _⟩ := J.look
  obtain ⟨m, hF⟩ := I.fr
  have own : ∀ Ex : Value → Shared → Prop, wpAny (model X.prog X.w) X.A (call (.ref f) [.ref a, v]) (PySem.W.CmpBack (EP X pins σ Q)) Ex s := fun Ex => wpAny_mono (run_at F hr I.env0 hb hx I (.cons (show RelV (V.ref a) (Value.ref a) from rfl) (.cons rx .nil)) q) (fun r s' z => by
    obtain ⟨y, H', I', ry, b, ey, q2⟩ := z
    subst ey
    obtain rfl : r = Value.bool b := ry
    exact ⟨.bl b, H', I', rfl, q2⟩) fun _ _ e => e
  have hu := hr.units0
  have X0 := I.ok.mod.kin
  show wpAny _ _ (richCompare .Eq v (.ref a)) _ _ _
  cases bt with
  | non =>
    cases (show v = Value.none from rx)
    exact PySem.W.eq_turned hu hF X0 J (T := "NoneType") rfl PySem.F.slot_NoneType_eq (hsub _ (by simp)) rfl (fun Q' z => call_gives PySem.F.slot_NoneType_eq rfl PySem.F.entry_NoneType_eq (PySem.F.args_NoneType_eq_2 _ _) (PySem.SeqAt.NoneType___eq___none_ref_0 a) z) D.at_ D.fn (own _)
  | bl b =>
    cases (show v = Value.bool b from rx)
    exact PySem.W.eq_turned hu hF X0 J (T := "bool") rfl PySem.F.slot_bool_eq (hsub _ (by simp)) rfl (fun Q' z => call_meetsIn PySem.F.slot_bool_eq rfl PySem.F.entry_int_eq (PySem.F.args_int_eq_2 _ _) (PySem.W.bool_declines rfl) ⟨J.at_, z⟩) D.at_ D.fn (own _)
  | int i =>
    obtain ⟨t, e⟩ := (show ∃ t, v = Value.int i t from rx)
    cases e
    exact PySem.W.eq_turned hu hF X0 J (T := "int") (typeIs_int s i t) PySem.F.slot_int_eq (hsub _ (by simp)) rfl (fun Q' z => call_meetsIn PySem.F.slot_int_eq (typeIs_int s i t) PySem.F.entry_int_eq (PySem.F.args_int_eq_2 _ _) (PySem.W.int_declines rfl) ⟨J.at_, z⟩) D.at_ D.fn (own _)
  | str w =>
    obtain ⟨t, e⟩ := (show ∃ t, v = Value.str w t from rx)
    cases e
    exact PySem.W.eq_turned hu hF X0 J (T := "str") (typeIs_str s w t) PySem.F.slot_str_eq (hsub _ (by simp)) rfl (fun Q' z => call_meetsIn PySem.F.slot_str_eq (typeIs_str s w t) PySem.F.entry_str_eq (PySem.F.args_str_eq_2 _ _) (PySem.W.str_declines rfl) ⟨J.at_, z⟩) D.at_ D.fn (own _)
  | @tup b xs hq =>
    cases (show v = Value.ref b from rx)
    obtain ⟨its, _, ⟨o, eo, co, _⟩, _⟩ := I.tuple hq
    have hT : s.TypeIs (.ref b) "tuple" := ⟨o, eo, co⟩
    exact PySem.W.eq_turned hu hF X0 J (T := "tuple") hT PySem.F.slot_tuple_eq (hsub _ (by simp)) rfl (fun Q' z => call_meetsIn PySem.F.slot_tuple_eq hT PySem.F.entry_tuple_eq (PySem.F.args_tuple_eq_2 _ _) (PySem.W.tup_declines (hsub _ (by simp))) ⟨⟨I.kIn, J⟩, z⟩) D.at_ D.fn (own _)
  | @dct b kvs hd =>
    cases (show v = Value.ref b from rx)
    obtain ⟨_, _, vs, _, o, es, ep, eo, ex, _⟩ := (show ObjOk X.prog X.w H s.heap b (.dK kvs) from I.hok b _ hd)
    have hT : s.TypeIs (.ref b) "dict" := ⟨o, eo, ex.1⟩
    exact PySem.W.eq_turned hu hF X0 J (T := "dict") hT PySem.F.slot_dict_eq (hsub _ (by simp)) rfl (fun Q' z => call_meetsIn PySem.F.slot_dict_eq hT PySem.F.entry_dict_eq (PySem.F.args_dict_eq_2 _ _) (PySem.W.dict_declines (hsub _ (by simp))) ⟨⟨I.kIn, J⟩, z⟩) D.at_ D.fn (own _)
end
end Gd
set_option Elab.async false
set_option linter.all false
set_option maxRecDepth 100000
set_option maxHeartbeats 4000000
/-! str(x), x an instance with its own __str__ -/
namespace PySem.W
open PySem PySem.Calls PyProof.Rows Builtin
section
variable {prog : Program} {w : World} {A : Around} {E : Value → Shared → Prop} {s : Shared} {K : Frag} {x C L f : Addr} {h₀ : Heap} {m : Str → Option Value} {ox : Obj} {od : Option Obj}
theorem str_new_in {v : Value} : MeetsIn prog w (Builtin.«str.__new__» ⟨[.type "str", v], []⟩) (fun A R s => wpAny (model prog w) A.in1 (Builtin.Str.strOf v) (fun r s' => R (.ok (.ret r)) s') (fun e s' => R (.error e) s') s) :=
  .of_wp fun A R s h => by
    rw [str_new_tree v]
    refine wpAny_bind (wpAny_pure ?_)
    refine wpAny_bind (wpAny_of_eq isSubtype_str_str ?_)
    exact wpAny_bind (wpAny_mono h (fun r s' z => wpAny_pure ⟨_, rfl, z⟩) fun _ _ e => e)
theorem strOf_O {Q : Value → Shared → Prop} (hu : A.units < cLine) (X : K.In s.heap) (I : InstAt s.heap x ox C od) (hs : findIn K (.ref C) "__str__" = some (some (.ref f))) (hf : isFn K (.ref f) = true)
    (h : wpAny (model prog w) A (call (.ref f) [.ref x]) (StrBack Q) E s) : wpAny (model prog w) A (Builtin.Str.strOf (.ref x)) Q E s := by
  have sp : ∀ {Q' : Option Value → Shared → Prop}, (∀ z t s', Q (.str z t) s' → Q' (some (.str z t)) s') → wpAny (model prog w) A (callSpecial? (.ref x) "__str__") Q' E s := fun q => special_fn X I hs (beq_iff_eq.mp hf) (wpAny_mono h (fun r s' hr => by cases r <;> first | exact hr.elim | exact q _ _ _ hr) fun _ _ y => y)
  unfold Builtin.Str.strOf
  repeat (first | with_reducible refine wpAny_cRoomFor hu ?_ | (with_reducible refine sp fun z t s' q => ?_) | exact q | wp_step)
end
end PySem.W
namespace Gd
open PySem PySem.Spec PyProof.Rows L2
section
variable {X : Cx} {CX : CXT} {k : Nat} {C f : Addr} {fd : FuncData} {ps : List Str} {sp : Sp} {E : XK}
/-- str(x) -/
def rStrO (C : Addr) (sp : Sp) (E : XK) : List V → Hp → VK → Prop := fun xs H Q => ∃ a dx fs, xs = [.ref a] ∧ H a = some (.ins C dx fs) ∧ sp [.ref a] H (fun v H' => ∃ z : Str, v = .str z ∧ Q (.str z) H') E
theorem call_strO (D : Dm X.K C "__str__" f) (F : FnOk X.prog X.w X.K X.mg X.base CX k f fd ps sp) (hr : Room (k + 2) X.A) (hb : Binds X.K fd ps []) (hx : Passes CX X.nox E) : CallR X (.type "str") (rStrO C sp E) := by
  intro pins s σ H xs us Q I r h
  obtain ⟨a, dx, fs, rfl, ea, q⟩ := h
  have e1 := Vals.ref1 r
  subst e1
  obtain ⟨mA, J, _⟩ := ins_get I.hok ea
  obtain ⟨od, J, _⟩ := J.look
  refine callType_newIn PySem.F.called_str (by decide) (PySem.F.typeCall_str_1 _) (PySem.F.newCall_str_1 _) (fun obj => PySem.F.args_object_init_2 obj _) PySem.F.entry_str_new PySem.W.str_new_in ?_
  refine PySem.W.strOf_O hr.in1.in1.units0 I.kIn J D.at_ D.fn (wpAny_mono (run_at F hr.in1.in1 I.env0.in1.in1 hb hx I r q) (fun v s' z => ?_) fun _ _ e => e)
  obtain ⟨y, H', I', ry, z, ey, q2⟩ := z
  subst ey
  obtain ⟨t, rfl⟩ := ry
  exact ⟨typeIs_str _ _ _, .str z, H', I', ⟨_, rfl⟩, q2⟩
end
end Gd
set_option Elab.async false
set_option linter.all false
set_option maxRecDepth 100000
set_option maxHeartbeats 4000000
namespace Ks
open PySem PySem.Spec PyProof.Rows L2 Gd Kx LamX
/-- a round keeps the kinds that were found -/
theorem stp_sub {x : Str} {fl : List Str} {r : Rw} (h : x ∈ fl) : x ∈ stp fl r := by
  unfold stp
  split
  · exact List.mem_append_left _ h
  · exact h
theorem fold_sub {x : Str} : ∀ {rs : List Rw} {fl : List Str}, x ∈ fl → x ∈ rs.foldl stp fl
  | [], _, h => h
  | r :: t, fl, h => fold_sub (rs := t) (stp_sub h)
theorem fold_has {r : Rw} (e : r.2.2 = []) : ∀ {rs : List Rw} {fl : List Str}, r ∈ rs → r.2.1 ∈ rs.foldl stp fl
  | x :: t, fl, h => by
    rcases List.mem_cons.mp h with rfl | h
    · refine fold_sub (rs := t) ?_
      unfold stp
      split
      · exact List.mem_append_right _ (List.mem_singleton.mpr rfl)
      · rename_i hn
        by_cases hm : r.2.1 ∈ fl
        · exact hm
        · exact absurd ⟨hm, by rw [e]; rfl⟩ hn
    · exact fold_has (rs := t) (fl := stp fl x) e h
theorem Good.emp {m : Md} (g : Good m) : emp m.ks m.rs = none := by
  unfold Ks.emp
  refine find_no fun k hk => ?_
  obtain ⟨r, hr, rfl, e⟩ := g.tr k hk
  have k1 := g.k1
  unfold fullOf
  cases hl : m.ks.length with
  | zero => omega
  | succ n => exact fold_has e hr
/-- as spRgtT, the deal told behind it -/
def spRgtD (T : List (Addr × Str)) : Sp := fun vs H Q _ => ∃ p : Addr, vs = [.ref p] ∧ DealAt H p ∧ Tabs T H ∧ ∀ H', SbN p H H' → DealAt H' p → Tabs T H' → Q (.bl true) H'
def dMd (m : Md) : PyData := .list [dSs m.ks, dRs m.rs]
theorem GoodN.lay {m : Md} (g : GoodN m) : (dSs m.ks).canLay0 = true ∧ (dSs m.ks).depth ≤ 3 ∧ (dRs m.rs).canLay0 = true ∧ (dRs m.rs).depth ≤ 7 := by
  obtain ⟨a, b⟩ := lay_ss g.k.kn
  refine ⟨a, b, lay_all fun d hd => ?_, ?_⟩
  · obtain ⟨r, hr, rfl⟩ := List.mem_map.mp hd
    exact (lay_rw g.k.kn (g.r.ok r hr)).1
  · have := dep_all (n := 5) (ds := m.rs.map dRw) fun d hd => by
      obtain ⟨r, hr, rfl⟩ := List.mem_map.mp hd
      exact (lay_rw g.k.kn (g.r.ok r hr)).2
    show (PyData.tuple (m.rs.map dRw)).depth ≤ 7
    rw [PyData.depth]
    omega
theorem GoodN.sh {m : Md} (g : GoodN m) : SeqAt.shaped (dMd m) = true := by
  obtain ⟨a, b, c, d⟩ := g.lay
  have l : (dMd m).canLay0 = true := lay_all fun x hx => by
    simp only [List.mem_cons, List.not_mem_nil, or_false] at hx
    rcases hx with rfl | rfl
    · exact a
    · exact c
  have e := dep_all (n := 7) (ds := [dSs m.ks, dRs m.rs]) fun x hx => by
    simp only [List.mem_cons, List.not_mem_nil, or_false] at hx
    rcases hx with rfl | rfl
    · omega
    · exact d
  have e2 : (dMd m).depth ≤ 9 := by
    show (PyData.list [dSs m.ks, dRs m.rs]).depth ≤ 9
    rw [PyData.depth]
    omega
  unfold SeqAt.shaped
  rw [l, decide_eq_true (by omega)]
  rfl
theorem eqv_md (m : Md) : PyData.eqv (dMd m) (dMd m) = true := by
  show (PyData.eqv (dSs m.ks) (dSs m.ks) && (PyData.eqv (dRs m.rs) (dRs m.rs) && true)) = true
  rw [eqv_ss, eqv_rs, decide_eq_true rfl, decide_eq_true rfl]
  rfl
theorem dp_md {K : PySem.W.Frag} {H : Hp} {L k c : Addr} {m : Md} (e : H L = some (.lst [.ref k, .ref c])) (hk : StT H k m.ks) (hc : RowsT H c m.rs) : Dp K H (.ref L) (dMd m) := .lst (SqL.of e) (.cons (dp_st (SqT.of hk)) (.cons (dp_rs hc) .nil))
def gT1 {α : Type} : List α → List α → List α
  | [], [t] => [t]
  | _, _ => []
abbrev nRgt : List Str := ["_law_deal_here", "_law_model_here", "_law_line", "_law_mine", "_law_odd", "_law_turn", "_law_bent_here", "_law_due", "_law_told_here"]
theorem scRgt : FnScope nRgt ["_law_deal_here"] (defScope sRgt) := ⟨rfl, rfl, rfl, by decide +kernel, rfl, by decide +kernel, by decide +kernel⟩
/-- what is known of the class of schemas -/
structure Scs (P : Program) (w : World) (K : PySem.W.Frag) (mg : Str → Option Value) (base : Heap) (C CK CC CE IT : Addr) : Prop where
  cl : SCl K C
  ci : SCi K C
  gl : mg "Schema" = some (.ref C)
  ini : ∃ f fd, Mk K C f ∧ FnOk P w K mg base (L2N.CX P w) 4 f fd ["self", "kinds", "constructors"] (spIniT C CK CC CE) ∧ Binds K fd ["self", "kinds", "constructors"] []
  gk : ∃ p f fd, PropOf K C "kinds" p f ∧ FnOk P w K mg base CX0 1 f fd ["self"] (spGk C) ∧ Binds K fd ["self"] []
  gc : ∃ p f fd, PropOf K C "constructors" p f ∧ FnOk P w K mg base CX0 1 f fd ["self"] (spGc C) ∧ Binds K fd ["self"] []
  st : ∃ f fd, Dm K C "__str__" f ∧ FnOk P w K mg base CX0 1 f fd ["self"] (spStM C) ∧ Binds K fd ["self"] []
  rp : ∃ f fd, Dm K C "__repr__" f ∧ FnOk P w K mg base CX0 1 f fd ["self"] (spRp C) ∧ Binds K fd ["self"] []
  eq : ∃ f fd, Dm K C "__eq__" f ∧ FnOk P w K mg base CX0 1 f fd ["self", "other"] (spEq K C) ∧ Binds K fd ["self", "other"] []
  ne : PySem.W.findIn K (.ref C) "__ne__" = some (some (.builtin "object.__ne__"))
  mo : PySem.W.mroIn K C (.type "object") = some true
  rd : ∃ (mc : Value) (p f : Addr) (fd : FuncData), ClX.CRead K C mc ∧ SMet K C mc "read" p f ∧ FnOk P w K mg base (CX P w) 7 f fd ["text"] (spSot K C CE IT) ∧ Binds K fd ["text"] [] ∧ KBinds K fd ["text"] ["text"] gT1 gT1
  kt : PySem.W.kitOne K (.ref C) (.type "str") = some false
structure ERk (K : PySem.W.Frag) (mg : Str → Option Value) (IT CE : Addr) : Prop where
  t : ∃ c1 c2 c3 : Value, mg "TreeError" = some c1 ∧ mg "StateError" = some c2 ∧ mg "LimitError" = some c3 ∧ PySem.W.exmAny K (.ref IT) [c1, c2, c3] = some true ∧ PySem.W.exmAny K (.ref CE) [c1, c2, c3] = some true
theorem seven_ok : ∀ y : Str, (y = "" ∨ y = "kind a") → okS y ∧ y.length ≤ 6 ∧ txtM y = none ∧ ∀ p ∈ cutS y "\n", p.length ≤ 900 := by
  have a : ∀ w ∈ ([Str.ofString "", Str.ofString "kind a"] : List Str), w.length ≤ 6 ∧ ∀ p ∈ cutS w "\n", p.length ≤ 900 := by decide +kernel
  intro y hy
  have hm : y ∈ ([Str.ofString "", Str.ofString "kind a"] : List Str) := by simpa using hy
  refine ⟨?_, (a y hm).1, ?_, (a y hm).2⟩
  · rcases hy with rfl | rfl <;> exact okS_of _
  · rcases hy with rfl | rfl
    · exact txt_none.1
    · exact txt_none.2
section
variable {P : Program} {w : World} {K : PySem.W.Frag} {mg : Str → Option Value} {base : Heap} {C CK CC CE IT : Addr}
set_option maxHeartbeats 32000000 in
theorem ok_rgt {f fm fp ft fl fs fb fq fe cc Pt : Addr} {fd dm dp dt dl ds db dq de : FuncData} {TT : List (Addr × Str)} (F : Fun K "_law_right" "_law_right" sRgt f fd) (hcd : fd.code = .ref cc) (TB : TabB base mg cc Pt) (hTm : (Pt, qLam) ∈ TT) (hTu : ∀ p ∈ TT, p.1 = Pt → p.2 = qLam)
    (T : TS0 mg) (mrp : mg "repr" = none) (S : Scs P w K mg base C CK CC CE IT) (R : ERk K mg IT CE)
    (GM : FnOk P w K mg base CX0 4 fm dm ["_law_deal_here"] spMdl) (km : PySem.W.keepIn K (.ref fm) = true) (bM : Binds K dm ["_law_deal_here"] []) (gM : mg "_law_model" = some (.ref fm))
    (GP : FnOk P w K mg base CX0 1 fp dp ["_law_deal_here", "_law_many"] spPick) (kp : PySem.W.keepIn K (.ref fp) = true) (bP : Binds K dp ["_law_deal_here", "_law_many"] []) (gP : mg "_law_pick" = some (.ref fp))
    (GX : FnOk P w K mg base CX0 1 ft dt ["_law_model_here"] spTxt) (kx : PySem.W.keepIn K (.ref ft) = true) (bX : Binds K dt ["_law_model_here"] []) (gX : mg "_law_text" = some (.ref ft))
    (GB : FnOk P w K mg base CX0 2 fb db ["_law_deal_here", "_law_line"] spBnt) (kb : PySem.W.keepIn K (.ref fb) = true) (bB : Binds K db ["_law_deal_here", "_law_line"] []) (gB : mg "_law_bent" = some (.ref fb))
    (GQ : FnOk P w K mg base CX0 2 fq dq ["_law_line"] spLrd) (kq : PySem.W.keepIn K (.ref fq) = true) (bQ : Binds K dq ["_law_line"] []) (gQ : mg "_law_read" = some (.ref fq))
    (GE : FnOk P w K mg base CX0 1 fe de ["_law_model_here"] spEmp) (ke : PySem.W.keepIn K (.ref fe) = true) (bE : Binds K de ["_law_model_here"] []) (gE : mg "_law_empty" = some (.ref fe))
    (FT : Fun K "_law_told" "_law_told" sTl fl dl) (bTl : Binds K dl ["_law_act"] []) (gTl : mg "_law_told" = some (.ref fl))
    (FS : FnE P w K mg base 6 fs ds "_law_e" (spSrt C IT CE)) (kS : PySem.W.keepIn K (.ref fs) = true) (bS : Binds K ds ["_law_e"] []) (gS : mg "_law_sort" = some (.ref fs)) :
    Pr P w K mg base CX0 14 f fd ["_law_deal_here"] (spRgtD TT) := by
  obtain ⟨oc, od, kV, dc, pm, an, cvT, ct, osl, rfl, lkT, hcT⟩ := FT.ex
  obtain ⟨c1, c2, c3, m1, m2, m3, xI, xN⟩ := R.t
  refine okGC F hcd scRgt (fun vs H Q E h => ?_) (fun A ou s H vs Q E hG hr h => ?_)
  · obtain ⟨p, rfl, _⟩ := h
    rfl
  obtain ⟨p, rfl, hD, hT, q⟩ := h
  obtain ⟨Zc, Ic, gSc, ⟨fin, din, Min, Gin, Bin⟩, ⟨pK, fK, dK, PK, FK, bK⟩, ⟨pC, fC, dC, PC, FC, bC⟩, ⟨fst, dst, Dst, Fst, bst⟩, ⟨frp, drp, Drp, Frp, brp⟩, ⟨feq, deq, Deq, Feq, beq⟩, nn, mo, ⟨mcR, prd, frd, drd, rdR, smR, FRd, bRd, kRd⟩, kt⟩ := S
  have hG2 : (A.deeper (envOfC "_law_right" (defScope sRgt) s.heap.objs.size f (.ref cc))).guards = some [] := hG
  have hrr : ∀ n, n ≤ 13 → Room n (A.deeper (envOfC "_law_right" (defScope sRgt) s.heap.objs.size f (.ref cc))) := fun n h => hr.mono h
  have hr1 := hrr 1 (by decide)
  have hr2 := hrr 2 (by decide)
  have hr3 := hrr 3 (by decide)
  have hr4 := hrr 4 (by decide)
  have hr5 := hrr 5 (by decide)
  have hr7 := hrr 7 (by decide)
  have hr9 := hrr 9 (by decide)
  have hu := hr.units
  have told : ∀ q : Str, GivesTo (cxOf CX0 P w K mg base nRgt "_law_right" (defScope sRgt) f (.ref cc) A ou s H E).nox nTold "_law_told" (defScope sTl) fl cvT (defBody sTl) "_law_act" q (TTold3 K c1 c2 c3 (spSrt C IT CE)) := fun q => told3 (X := (cxOf CX0 P w K mg base nRgt "_law_right" (defScope sRgt) f (.ref cc) A ou s H E).nox) (x := "_law_told") (q := q) (g := fl) (cdg := cvT) scTl rfl rfl rfl m1 rfl m2 rfl m3 rfl gS FS kS bS hG2 hr7
  have RP : CallR (cxOf CX0 P w K mg base nRgt "_law_right" (defScope sRgt) f (.ref cc) A ou s H E).nox (.builtin "repr") _ := call_or (call_showV hG2 hu) (call_or (call_reprO Drp Frp hr2 brp pass0) (call_reprD0 hG2 hu))
  refine ⟨_, (pss_cons (ps_set (i := 1) scRgt.nd rfl (.inl rfl) (pe_call GM hr4 (by rfl) gM km bM .nil pass0 (pa_cons (pv 0) pa_nil)))
    (pss_cons (ps_set (i := 2) scRgt.nd rfl (.inl rfl) (pe_call GX hr1 (by rfl) gX kx bX .nil pass0 (pa_cons (pv 1) pa_nil)))
    (pss_cons (ps_set (i := 3) scRgt.nd rfl (.inl rfl) (pe_make Min (okN_weak Gin) hr5 (by rfl) gSc Bin .nil passX0 (pa_cons (pe_ix ix_tup (pv 1) pe_int (fun _ _ => rfl)) (pa_cons (pe_ix ix_tup (pv 1) pe_int (fun _ _ => rfl)) pa_nil))))
    (pss_cons (ps_if (PW.pt (pw_or (pt_cmpR op_ne (pe_callTy (call_strO Dst Fst hr3 bst pass0) (by rfl) T.str boot_str (pa_cons (pv 3) pa_nil)) (pv 2) (nomark _))
        (pw_or (pt_cmpR (op_neO Deq nn mo Feq hr2 beq pass0) (pe_smeth (pe_glob (v := .ref C) (by rfl) gSc rfl) rdR smR FRd hr7 bRd passX0 (pa_cons (pv 2) pa_nil)) (pv 3) (nomark _))
        (pw_or1 (pt_cmpR (op_neD hu) (pe_prop (pe_smethK0 (pe_glob (v := .ref C) (by rfl) gSc rfl) rdR smR FRd hr7 kRd passX0 (pk_cons (pv 2) pk_nil)) Zc.cls PC FC hr2 bC .nil pass0 rfl) (pe_ix ix_tup (pv 1) pe_int (fun _ _ => rfl)) (nomark _)))))) (pss_one (ps_ret pe_bl)) pss_nil)
    (pss_cons (ps_set (i := 4) scRgt.nd rfl (.inr rfl) (pe_ix ix_list (pe_lst (pa_cons pe_non (pa_cons pe_int (pa_cons pe_bl (pa_cons (pe_tup (pa_cons (pv 2) pa_nil)) (pa_cons (pe_lst (pa_cons (pv 2) pa_nil)) (pa_cons pe_dnewT (pa_cons pe_str (pa_cons pe_str (pa_cons (pv 3) pa_nil)))))))))) (pe_call GP hr1 (by rfl) gP kp bP .nil pass0 (pa_cons (pv 0) (pa_cons pe_int pa_nil))) (fun _ _ => rfl)))
    (pss_cons (ps_if (pt_cmpR (op_neD hu) (pe_lamcall (T := TT) (k := 7) (t := fun E => tSMeth C (spSot K C CE IT) E (tC (.ref C)) (tCons (tVar 4) tNil)) (by rfl) gTl FT.kp lkT hcT bTl scTl rfl (.inl rfl) (told _) TB rfl hTm hTu hr9 (lamS_by (sc := defScope sRgt) (by decide +kernel)) rfl (fun _ _ _ _ _ => rfl)
          (fun A' ou' s' H' E' f' c' hR' => pe_smeth (pe_glob (v := .ref C) (by rfl) gSc rfl) rdR smR FRd hR' bRd (passes_call (takes_of rfl rfl rfl rfl) (fun _ _ _ _ h => h)) (pa_cons (pv 4) pa_nil))) (pe_lst (pa_cons pe_str (pa_cons (pe_callB RP (by rfl) mrp boot_repr (pa_cons (pv 4) pa_nil)) pa_nil))) (nomark _)) (pss_one (ps_ret pe_bl)) pss_nil)
    (pss_cons (ps_for PassesOwn.never rfl (pi_range1 rfl T.rng (pa_cons pe_int pa_nil)) (pg_name (i := 5) scRgt.nd rfl (.inl rfl)) (pss_cons (ps_set (i := 6) scRgt.nd rfl (.inr rfl) (pe_call GB hr2 (by rfl) gB kb bB .nil pass0 (pa_cons (pv 0) (pa_cons (pv 2) pa_nil))))
    (pss_cons (ps_par (i := 7) (j := 8) (by rfl) scRgt.nd rfl rfl (by decide) rfl rfl (pa_cons (pe_call GQ hr2 (by rfl) gQ kq bQ .nil pass0 (pa_cons (pv 6) pa_nil)) (pa_cons (pe_lamcall (T := TT) (k := 7) (t := fun E => tSMeth C (spSot K C CE IT) E (tC (.ref C)) (tCons (tVar 6) tNil)) (by rfl) gTl FT.kp lkT hcT bTl scTl rfl (.inl rfl) (told _) TB rfl hTm hTu hr9 (lamS_by (sc := defScope sRgt) (by decide +kernel)) rfl (fun _ _ _ _ _ => rfl)
          (fun A' ou' s' H' E' f' c' hR' => pe_smeth (pe_glob (v := .ref C) (by rfl) gSc rfl) rdR smR FRd hR' bRd (passes_call (takes_of rfl rfl rfl rfl) (fun _ _ _ _ h => h)) (pa_cons (pv 6) pa_nil))) pa_nil)) (by rfl))
    (pss_cons (ps_if (PW.pt (pw_and (pt_cmpR (op_or2 (op_eqD hu) (op_eq0 hu)) (pv 7) (pe_lst pa_nil) (nomark _)) (pw_and1 (pt_cmpR (op_neD hu) (pv 8) (pe_lst (pa_cons pe_str (pa_cons (pe_callB RP (by rfl) mrp boot_repr (pa_cons (pv 6) pa_nil)) pa_nil))) (nomark _))))) (pss_one (ps_ret pe_bl)) pss_nil)
    (pss_cons (ps_if (PW.pt (pw_and (pt_cmpR (op_or2 (op_neD hu) (op_ne0 hu)) (pv 7) (pe_lst pa_nil) (nomark _)) (pw_and (pt_cmpR op_ne (pe_call GE hr1 (by rfl) gE ke bE .nil pass0 (pa_cons (pv 7) pa_nil)) pe_str (nomark _)) (pw_and1 (pt_cmpR (op_neD hu) (pv 8) (pe_lst (pa_cons pe_str (pa_cons (pe_callB RP (by rfl) mrp boot_repr (pa_cons (pe_call GE hr1 (by rfl) gE ke bE .nil pass0 (pa_cons (pv 7) pa_nil)) pa_nil)) pa_nil))) (nomark _)))))) (pss_one (ps_ret pe_bl)) pss_nil)
    (pss_one (ps_if (PW.pt (pw_and (pt_cmpR (op_or2 (op_neD hu) (op_ne0 hu)) (pv 7) (pe_lst pa_nil) (nomark _)) (pw_and1 (pt_cmpR op_eq (pe_call GE hr1 (by rfl) gE ke bE .nil pass0 (pa_cons (pv 7) pa_nil)) pe_str (nomark _)))))
      (pss_cons (ps_if (PW.pt (pw_or (pt_cmpR op_ne (pe_ix ix_list (pv 8) pe_int (fun _ _ => rfl)) pe_str (nomark _)) (pw_or1 (pt_cmpR op_ne (pe_callTy (call_strO Dst Fst hr3 bst pass0) (by rfl) T.str boot_str (pa_cons (pe_ix ix_list (pv 8) pe_int (fun _ _ => rfl)) pa_nil)) (pv 6) (nomark _))))) (pss_one (ps_ret pe_bl)) pss_nil)
      (pss_one (ps_if (pt_cmpR (op_neD hu) (pe_lst (pa_cons (pe_prop (pe_ix ix_list (pv 8) pe_int (fun _ _ => rfl)) Zc.cls PK FK hr2 bK .nil pass0 rfl) (pa_cons (pe_prop (pe_ix ix_list (pv 8) pe_int (fun _ _ => rfl)) Zc.cls PC FC hr2 bC .nil pass0 rfl) pa_nil))) (pv 7) (nomark _)) (pss_one (ps_ret pe_bl)) pss_nil))) pss_nil)))))))
    (pss_one (ps_ret pe_bl))))))))), ?_⟩
  have T9 : ∀ a : Nat, a ≤ 5000 → a ≤ 100000 := fun a h => by omega
  -- the model
  refine seq_join (fun σ G => ∃ (b : Addr) (m : Md), σ = [some (.ref p), some (.ref b), none, none, none, none, none, none, none] ∧ DealAt G p ∧ Sb p H G ∧ Good m ∧ MdAt G b m) ?_ fun rest => ?_
  rotate_left
  · exact ⟨.ref p, rfl, p, rfl, hD, fun b m H1 D1 b1 g hM => rest _ _ ⟨b, m, rfl, D1, b1, g, hM⟩⟩
  rintro σ G1 ⟨b, m, rfl, D1, b1, g, hM1⟩
  have T1 := tabs_sb hT hD b1
  have gn := g.gn
  have zl := md_le gn
  have zok := okS_md gn
  have ztx := txt_md gn
  have zem := g.emp
  have zp : ∀ q ∈ cutS (mdT m) "\n", q.length ≤ 900 := fun q hq => by
    have := cut_len (z := mdT m) (y := "\n") (p := q) (by decide +kernel) (by decide +kernel) hq
    omega
  -- its text
  refine seq_join (fun σ G => σ = [some (.ref p), some (.ref b), some (.str (mdT m)), none, none, none, none, none, none] ∧ Same G1 G) ?_ fun rest => ?_
  rotate_left
  · exact ⟨.ref b, rfl, b, m, rfl, hM1, gn, fun H2 s2 => rest _ _ ⟨rfl, s2⟩⟩
  rintro σ G2 ⟨rfl, s2⟩
  -- the schema
  refine seq_join (fun σ G => ∃ x1 : Addr, σ = [some (.ref p), some (.ref b), some (.str (mdT m)), some (.ref x1), none, none, none, none, none] ∧ Same G1 G ∧ ScAt C G x1 m) ?_ fun rest => ?_
  rotate_left
  · obtain ⟨kA, rA, eb, hk, hR⟩ := id hM1
    have eb2 := s2 _ _ eb
    refine ⟨.ref b, rfl, b, _, _, .ref kA, rfl, rfl, SqT.of eb2, rfl, .ref b, rfl, b, _, _, .ref rA, rfl, rfl, SqT.of eb2, rfl, fun x1 dx1 nx1 nd1 ne1 => ?_⟩
    have s0 := mk_baseT (C := C) nx1 nd1
    have hk2 := (s2.trans s0) _ _ hk
    have hR2 := hR.keep (s2.trans s0)
    have rb : RsB m.rs := ⟨fun r hr => by have := (nm_len (g.rn r hr)).2; omega, fun r hr => by have := g.f3 r hr; omega⟩
    refine ⟨x1, dx1, kA, rA, m.ks, m.rs, rfl, upd_same, hk2, hR2, fun z hz => by have := (nm_len (g.kn z hz)).2; omega, rb, fun _ _ _ n1 H2 bt1 nx ex1 fz1 => ⟨rfl, ?_⟩, fun h => absurd gn.k h, fun _ h => absurd gn.r h, fun _ _ z h => (by rw [zem] at h; cases h)⟩
    have s1 := mk_sameT nx1 nd1 bt1
    exact rest _ _ ⟨x1, rfl, s2.trans s1, dx1, kA, rA, n1, ex1, (s2.trans s1) _ _ hk, hR.keep (s2.trans s1), fz1⟩
  rintro σ G3 ⟨x1, rfl, s3, h13⟩
  have D3 := D1.keep s3
  have T3 := T1.ext s3
  have b03 := b1.trans (.of s3)
  have hM3 := hM1.keep s3
  clear s2 s3 D1 T1 b1 hM1 hT hD
  -- its text, the text read, read by name
  have nz : txtM (mdT m) ≠ none := by rw [ztx]; simp
  have ztm : ∀ m2, txtM (mdT m) = some m2 → m2 = m := fun m2 h => by
    rw [ztx] at h
    exact (Option.some.inj h).symm
  have nk : ∀ {P0 : Prop} m2, txtM (mdT m) = some m2 → ∀ ek, emp m2.ks m2.rs = some ek → P0 := fun m2 h ek e => by
    rw [ztm m2 h, zem] at e
    cases e
  refine seq_join (fun σ G => σ = [some (.ref p), some (.ref b), some (.str (mdT m)), some (.ref x1), none, none, none, none, none] ∧ Same G3 G) ?_ fun rest => ?_
  rotate_left
  · obtain ⟨dx, k1, cc1, n1, ⟨dp1, e1, edp1⟩, r1⟩ := id h13
    refine ⟨.ref x1, rfl, x1, dx, _, rfl, e1, x1, m, rfl, h13, gn, fun H7 s7 => ⟨_, rfl, .str (mdT m), rfl, rfl, _, rfl, ?_⟩⟩
    rw [show (!decide (V.str (mdT m) = V.str (mdT m))) = false by simp]
    refine iteF ⟨rfl, .str (mdT m), rfl, _, rfl, .inr ⟨mdT m, rfl, by omega, zp, fun h => absurd h nz, fun m2 h ek e => nk m2 h ek e, fun m2 hm2 _ a2 H8 s8 h2 => ?_⟩⟩
    rw [ztm m2 hm2] at h2
    have h18 := h13.keep (s7.trans s8)
    obtain ⟨dx2, _, _, _, ⟨_, e2, _⟩, _⟩ := id h2
    obtain ⟨dx3, _, _, _, ⟨_, e3, _⟩, _⟩ := id h18
    refine ⟨.ref x1, rfl, a2, dx2, _, x1, dx3, _, rfl, rfl, e2, e3, a2, .ref x1, m, rfl, h2, g, .inl ⟨x1, m, rfl, h18, g, _, rfl, _, rfl, ?_⟩⟩
    rw [decide_eq_true rfl, decide_eq_true rfl]
    refine iteF ⟨rfl, .str (mdT m), rfl, _, rfl, .inr ⟨mdT m, rfl, by omega, zp, fun h => absurd h nz, fun m2 h ek e => nk m2 h ek e, fun m4 hm4 _ a4 H9 s9 h4 => ?_⟩⟩
    rw [ztm m4 hm4] at h4
    obtain ⟨dx4, k4, c4, n4, ⟨dp4, e4, edp4⟩, hk4, hc4, fz4⟩ := id h4
    obtain ⟨kA, rA, eb, hk, hR⟩ := hM3.keep (s7.trans (s8.trans s9))
    refine ⟨a4, dx4, _, rfl, e4, a4, k4, c4, n4, rfl, ⟨dx4, _, ⟨dp4, e4, edp4⟩, fz4⟩, .ref b, rfl, b, _, _, .ref rA, rfl, rfl, SqT.of eb, rfl, ?_⟩
    refine ⟨_, _, dp_rs hc4, dp_rs hR, g.shR, g.shR, _, rfl, ?_⟩
    rw [eqv_rs, decide_eq_true rfl]
    exact iteF (rest _ _ ⟨rfl, s7.trans (s8.trans s9)⟩)
  rintro σ G4 ⟨rfl, s4⟩
  have D4 := D3.keep s4
  have T4 := T3.ext s4
  have b04 := b03.trans (.of s4)
  have h14 := h13.keep s4
  clear s4 D3 T3 b03 h13 hM3
  -- an odd thing
  refine seq_join (fun σ G => ∃ (v : V) (w : Str), σ = [some (.ref p), some (.ref b), some (.str (mdT m)), some (.ref x1), some v, none, none, none, none] ∧ DealAt G p ∧ Sb p G4 G ∧ Shw C m G v w ∧ ∀ y, v = .str y → y = "" ∨ y = "kind a") ?_ fun rest => ?_
  rotate_left
  · refine ⟨.str (mdT m), rfl, (by show 1 ≤ sizeLine; decide), fun A1 nA1 => ⟨.str (mdT m), rfl, (by show 1 ≤ sizeLine; decide), fun A2 nA2 => fun U nU => ⟨.ref x1, rfl, (by show 9 ≤ sizeLine; decide), fun O nO => ?_⟩⟩⟩
    have sA := same_new (o := .tup [.str (mdT m)]) nA1
    have sA2 := same_new (o := .lst [.str (mdT m)]) nA2
    have sU := same_new (o := .dT []) nU
    have sO := same_new (o := .lst [V.non, .int 0, .bl true, .ref A1, .ref A2, .ref U, .str "", .str "kind a", .ref x1]) nO
    have s5 := sA.trans (sA2.trans (sU.trans sO))
    have D9 := D4.keep s5
    have notp : ∀ {G : Hp} {a : Addr}, DealAt G p → G a = none → a ≠ p := fun D n e => by
      obtain ⟨_, _, _, ep, _⟩ := D
      rw [e, ep] at n
      cases n
    have Op : O ≠ p := notp (((D4.keep sA).keep sA2).keep sU) nO
    have A2p : A2 ≠ p := notp (D4.keep sA) nA2
    refine ⟨.ref p, rfl, p, 9, rfl, D9, by decide, by decide, fun i6 H9 li ui D10 b9 => ?_⟩
    have n9 := Nl.deal D9 b9
    have eU : H9 U = some (.dT []) := n9 _ _ (fun _ z => by cases z) (sO _ _ upd_same)
    have eA : H9 A1 = some (.tup [.str (mdT m)]) := n9.tk _ _ (sO _ _ (sU _ _ (sA2 _ _ upd_same)))
    have eA2 : H9 A2 = some (.lst [.str (mdT m)]) := b9 _ _ A2p (sO _ _ (sU _ _ upd_same))
    have h19 := (h14.keep s5).nl n9
    obtain ⟨v, w, ev, hv, hw⟩ : ∃ v w, ([V.non, .int 0, .bl true, .ref A1, .ref A2, .ref U, .str "", .str "kind a", .ref x1] : List V)[i6.toNat]? = some v ∧ Shw C m H9 v w ∧ ∀ y, v = .str y → y = "" ∨ y = "kind a" := by
      have hi : i6.toNat < 9 := by omega
      match i6.toNat, hi with
      | 0, _ => exact ⟨_, _, rfl, .non, fun y e => by cases e⟩
      | 1, _ => exact ⟨_, _, rfl, .int0, fun y e => by cases e⟩
      | 2, _ => exact ⟨_, _, rfl, .bl, fun y e => by cases e⟩
      | 3, _ => exact ⟨_, _, rfl, .tup eA zok (by omega), fun y e => by cases e⟩
      | 4, _ => exact ⟨_, _, rfl, .lst eA2 zok (by omega), fun y e => by cases e⟩
      | 5, _ => exact ⟨_, _, rfl, .d0 eU, fun y e => by cases e⟩
      | 6, _ => exact ⟨_, _, rfl, .txt (okS_of "") (by decide +kernel), fun y e => by cases e; exact .inl rfl⟩
      | 7, _ => exact ⟨_, _, rfl, .txt (okS_of "kind a") (by decide +kernel), fun y e => by cases e; exact .inr rfl⟩
      | 8, _ => exact ⟨_, _, rfl, .sc h19, fun y e => by cases e⟩
    exact ⟨O, _, i6, v, rfl, rfl, SqL.of (b9 O _ Op upd_same), at_of (j := i6.toNat) (by omega) ev, rest _ _ ⟨v, w, rfl, D10, (Sb.of s5).trans b9, hv, hw⟩⟩
  rintro σ G9 ⟨v, w, rfl, D9, b9, hv9, hw⟩
  have T9' := tabs_sb T4 D4 b9
  have b09 := SbN.sb (b04.trans b9)
  clear D4 T4 h14 b04 b9
  have ow := hv9.ok
  -- the odd thing read
  refine seq_join (fun σ G => σ = [some (.ref p), some (.ref b), some (.str (mdT m)), some (.ref x1), some v, none, none, none, none] ∧ Tabs TT G ∧ ExtN G9 G) ?_ fun rest => ?_
  rotate_left
  · refine ⟨T9', fun H3 x3 T3 => ⟨rfl, v, rfl, v, rfl, ?_⟩⟩
    have hv3 := hv9.keep x3
    by_cases hs : ∃ y, v = .str y
    · obtain ⟨y, rfl⟩ := hs
      obtain ⟨_, l2, tn, p9⟩ := seven_ok y (hw y rfl)
      refine .inr ⟨y, rfl, by omega, p9, fun _ => fun d H4 s4 e4 => ⟨true, xI, fun _ => ⟨d, rfl, .inl ⟨.str y, w, m, e4, g, hv3.same s4, rfl, fun L H5 s5 eL => ?_⟩⟩, fun h => (by cases h)⟩, fun m' h => (by rw [tn] at h; cases h), fun m' h => (by rw [tn] at h; cases h)⟩
      refine ⟨.str y, rfl, ((hv3.same s4).same s5).show g ⟨(by show 2 ≤ sizeLine; decide), fun I nI => ?_⟩⟩
      have sI := same_new (o := .lst [V.str "InvalidText", .str w]) nI
      refine ⟨dW "InvalidText" w, dW "InvalidText" w, dp_W (sI _ _ eL), dp_W upd_same, sh_W (by decide +kernel) ow, sh_W (by decide +kernel) ow, _, rfl, ?_⟩
      rw [eqv_W]
      exact iteF (rest _ _ ⟨rfl, T3.ext (s4.trans (s5.trans sI)), ext_same x3 (s4.trans (s5.trans sI))⟩)
    · refine .inl ⟨hv3.noS Zc Ic kt fun y e => hs ⟨y, e⟩, fun d H4 s4 e4 => ⟨true, xI, fun _ => ⟨d, rfl, .inl ⟨v, w, m, e4, g, hv3.same s4, rfl, fun L H5 s5 eL => ?_⟩⟩, fun h => (by cases h)⟩⟩
      refine ⟨v, rfl, ((hv3.same s4).same s5).show g ⟨(by show 2 ≤ sizeLine; decide), fun I nI => ?_⟩⟩
      have sI := same_new (o := .lst [V.str "InvalidText", .str w]) nI
      refine ⟨dW "InvalidText" w, dW "InvalidText" w, dp_W (sI _ _ eL), dp_W upd_same, sh_W (by decide +kernel) ow, sh_W (by decide +kernel) ow, _, rfl, ?_⟩
      rw [eqv_W]
      exact iteF (rest _ _ ⟨rfl, T3.ext (s4.trans (s5.trans sI)), ext_same x3 (s4.trans (s5.trans sI))⟩)
  rintro σ G11 ⟨rfl, T11, x11⟩
  have D11 := deal_ext D9 x11
  have b11 := b09.trans (.ext x11)
  clear T9' D9 b09 x11 hv9
  -- eight bent texts
  refine seq_join (fun σ G => ∃ (o5 o6 o7 o8 : Option V), σ = [some (.ref p), some (.ref b), some (.str (mdT m)), some (.ref x1), some v, o5, o6, o7, o8] ∧ DealAt G p ∧ Tabs TT G ∧ SbN p H G) ?_ fun rest => ?_
  rotate_left
  · refine ⟨_, rfl, by decide, by decide, for_range (n := 8) (fun i σ G => ∃ (o5 o6 o7 o8 : Option V), σ = [some (.ref p), some (.ref b), some (.str (mdT m)), some (.ref x1), some v, o5, o6, o7, o8] ∧ DealAt G p ∧ Tabs TT G ∧ SbN p H G)
      ⟨none, none, none, none, rfl, D11, T11, b11⟩ ?_ ?_⟩
    rotate_left
    · rintro σ G ⟨o5, o6, o7, o8, rfl, D, T', bb⟩
      exact rest _ _ ⟨o5, o6, o7, o8, rfl, D, T', bb⟩
    clear T11 D11 b11
    rintro i σ G hi ⟨o5, o6, o7, o8, rfl, D, TG, bb⟩
    show tSeq _ _ _ _ _
    refine seq_join (fun σ G' => ∃ (o5 : Option V) (y : Str), σ = [some (.ref p), some (.ref b), some (.str (mdT m)), some (.ref x1), some v, o5, some (.str y), o7, o8] ∧ BentOk y ∧ DealAt G' p ∧ Sb p G G') ?_ fun rest => ?_
    rotate_left
    · exact ⟨.ref p, rfl, .str (mdT m), rfl, p, m, rfl, D, gn, fun y H1 hy D1 b1 => rest _ _ ⟨_, y, rfl, hy, D1, b1⟩⟩
    rintro σ G1 ⟨o5, y, rfl, hy, D1, b1⟩
    have T1 := tabs_sb TG D b1
    have bb1 := bb.trans (.sb b1)
    clear D TG bb b1
    obtain ⟨yn, y9⟩ := hy.parts
    have hyl := hy.len
    have yo : PyData.strOk (PyData.str y).shown = true := (Shw.txt (C := C) (m := m) (H := G1) hy.ok (by omega)).ok
    refine seq_join (fun σ G' => ∃ A L : Addr, σ = [some (.ref p), some (.ref b), some (.str (mdT m)), some (.ref x1), some v, o5, some (.str y), some (.ref A), some (.ref L)] ∧ Tabs TT G' ∧ ExtN G1 G' ∧
      ((G' A = some (.lst []) ∧ G' L = some (.lst [.str "InvalidText", .str (PyData.str y).shown])) ∨
       ∃ (m' : Md) (k c : Addr), txtM y = some m' ∧ G' A = some (.lst [.ref k, .ref c]) ∧ StT G' k m'.ks ∧ RowsT G' c m'.rs ∧
        ((∃ ek, emp m'.ks m'.rs = some ek ∧ G' L = some (.lst [.str "EmptyKind", .str (PyData.str ek).shown])) ∨
         (emp m'.ks m'.rs = none ∧ ∃ a, ScAt C G' a m' ∧ G' L = some (.lst [.str "given", .ref a]))))) ?_ fun rest => ?_
    rotate_left
    · refine ⟨.str y, rfl, y, rfl, ⟨by omega, yn, y9⟩, fun hn A H2 s2 eA => ?_, fun m' hm A k c H2 s2 eA hk hc => ?_⟩
      · refine ⟨T1.ext s2, fun H3 x3 T3 => ⟨rfl, .str y, rfl, _, rfl, .inr ⟨y, rfl, by omega, y9, fun _ d H4 s4 e4 => ⟨true, xI, fun _ => ⟨d, rfl, .inl ⟨.str y, _, m, e4, g, .txt hy.ok (by omega), rfl, fun L H5 s5 eL => ⟨_, _, rfl, ?_⟩⟩⟩, fun h => (by cases h)⟩, fun m' h => (by rw [hn] at h; cases h), fun m' h => (by rw [hn] at h; cases h)⟩⟩⟩
        exact rest _ _ ⟨A, L, rfl, T3.ext (s4.trans s5), ext_same ((ExtN.of s2).trans x3) (s4.trans s5), .inl ⟨(s4.trans s5) _ _ (x3 _ _ eA fun _ z => by cases z), eL⟩⟩
      · obtain ⟨_, gm⟩ := txt_back hm
        refine ⟨T1.ext s2, fun H3 x3 T3 => ⟨rfl, .str y, rfl, _, rfl, .inr ⟨y, rfl, by omega, y9, fun h => (by rw [hm] at h; cases h), fun m2 h2 ek e2 d H4 s4 e4 => ?_, fun m2 h2 e2 a H4 s4 ha => ?_⟩⟩⟩
        · rw [hm] at h2
          cases h2
          have ekm : nmS ek = true := gm.k.kn ek (List.mem_of_find?_eq_some e2)
          refine ⟨true, xN, fun _ => ⟨d, rfl, .inr ⟨ek, e4, okS_nm ekm, by have := (nm_len ekm).2; omega, rfl, fun L H5 s5 eL => ⟨_, _, rfl, ?_⟩⟩⟩, fun h => (by cases h)⟩
          have xx := ext_same ((ExtN.of s2).trans x3) (s4.trans s5)
          have n5 := Nt.trans (Nt.ext x3) (.of (s4.trans s5))
          exact rest _ _ ⟨A, L, rfl, T3.ext (s4.trans s5), xx, .inr ⟨m', k, c, hm, (s4.trans s5) _ _ (x3 _ _ eA fun _ z => by cases z), hk.tk n5.tk, hc.nt n5, .inl ⟨ek, e2, eL⟩⟩⟩
        · rw [hm] at h2
          cases h2
          refine ⟨.ref a, rfl, (by show 2 ≤ sizeLine; decide), fun L nL => ⟨_, _, rfl, ?_⟩⟩
          have sL := same_new (o := .lst [V.str "given", .ref a]) nL
          have s45 := s4.trans sL
          have n5 := Nt.trans (Nt.ext x3) (.of s45)
          exact rest _ _ ⟨A, L, rfl, T3.ext s45, ext_same ((ExtN.of s2).trans x3) s45, .inr ⟨m', k, c, hm, s45 _ _ (x3 _ _ eA fun _ z => by cases z), hk.tk n5.tk, hc.nt n5, .inr ⟨e2, a, ha.keep sL, upd_same⟩⟩⟩
    rintro σ G2 ⟨A, L, rfl, T2, x2, hc⟩
    have fin : ∀ G', Same G2 G' → DealAt G' p ∧ Tabs TT G' ∧ SbN p H G' := fun G' sA => ⟨(deal_ext D1 x2).keep sA, T2.ext sA, bb1.trans (.ext (ext_same x2 sA))⟩
    have z0 : 0 ≤ sizeLine := Nat.zero_le _
    have e0 : PyData.eqv (dLs []) (dLs []) = true := by rw [eqv_ls]; rfl
    have s0 : SeqAt.shaped (dLs []) = true := by decide +kernel
    rcases hc with ⟨eA, eL⟩ | ⟨m', k, c, hm, eA, hk, hc, hc2⟩
    · refine ⟨.ref A, rfl, z0, fun E1 nE1 => ?_⟩
      have s1 := same_new (o := .lst []) nE1
      refine .inl ⟨dLs [], dLs [], .lst (SqL.of (s1 _ _ eA)) .nil, .lst (SqL.of upd_same) .nil, s0, s0, _, rfl, ?_⟩
      rw [e0]
      refine iteT ⟨.ref L, rfl, .str y, rfl, (Shw.txt (C := C) (m := m) hy.ok (by omega)).show g ⟨(by show 2 ≤ sizeLine; decide), fun I nI => ?_⟩⟩
      have sI := same_new (o := .lst [V.str "InvalidText", .str (PyData.str y).shown]) nI
      refine ⟨dW "InvalidText" (PyData.str y).shown, dW "InvalidText" (PyData.str y).shown, dp_W ((s1.trans sI) _ _ eL), dp_W upd_same, sh_W (by decide +kernel) yo, sh_W (by decide +kernel) yo, _, rfl, ?_⟩
      rw [eqv_W]
      refine iteF ⟨.ref A, rfl, z0, fun E2 nE2 => ?_⟩
      have s2 := (s1.trans sI).trans (same_new (o := .lst []) nE2)
      refine .inl ⟨dLs [], dLs [], .lst (SqL.of (s2 _ _ eA)) .nil, .lst (SqL.of upd_same) .nil, s0, s0, _, rfl, ?_⟩
      rw [e0]
      refine iteF (iteF ⟨.ref A, rfl, z0, fun E3 nE3 => ?_⟩)
      have s3 := s2.trans (same_new (o := .lst []) nE3)
      refine .inl ⟨dLs [], dLs [], .lst (SqL.of (s3 _ _ eA)) .nil, .lst (SqL.of upd_same) .nil, s0, s0, _, rfl, ?_⟩
      rw [e0]
      obtain ⟨f1, f2, f3⟩ := fin _ s3
      exact iteF (iteF ⟨_, _, _, _, rfl, f1, f2, f3⟩)
    · obtain ⟨ey, gm⟩ := txt_back hm
      refine ⟨.ref A, rfl, z0, fun E1 nE1 => ?_⟩
      have s1 := same_new (o := .lst []) nE1
      refine .inr ⟨A, E1, .ref k, [.ref c], rfl, rfl, s1 _ _ eA, upd_same, _, rfl, iteF (iteF ⟨.ref A, rfl, z0, fun E2 nE2 => ?_⟩)⟩
      have s2 := s1.trans (same_new (o := .lst []) nE2)
      refine .inr ⟨A, E2, .ref k, [.ref c], rfl, rfl, s2 _ _ eA, upd_same, _, rfl, iteT ⟨.ref A, rfl, A, k, c, m'.ks, m'.rs, rfl, s2 _ _ eA, s2 _ _ hk, hc.keep s2, gm.k, gm.r.ok, gm.r.r6, fun H5 s5 => ⟨rfl, _, rfl, ?_⟩⟩⟩
      have s25 := s2.trans s5
      rcases hc2 with ⟨ek, e2, eL⟩ | ⟨e2, a, ha, eL⟩
      · have ekm : nmS ek = true := gm.k.kn ek (List.mem_of_find?_eq_some e2)
        have es : empS m'.ks m'.rs = ek := by rw [empS, e2]; rfl
        have ne : ek ≠ "" := fun e => by
          have := (nm_len ekm).1
          rw [e] at this
          exact absurd this (by decide +kernel)
        have lk : ek.length ≤ 8 := (nm_len ekm).2
        have eo : PyData.strOk (PyData.str ek).shown = true := (Shw.txt (C := C) (m := m) (H := G1) (okS_nm ekm) (by omega)).ok
        rw [es, show (!decide (V.str ek = V.str "")) = true by simp [ne]]
        refine iteT ⟨.ref L, rfl, .ref A, rfl, A, k, c, m'.ks, m'.rs, rfl, s25 _ _ eA, s25 _ _ hk, hc.keep s25, gm.k, gm.r.ok, gm.r.r6, fun H6 s6 => ?_⟩
        rw [es]
        refine (Shw.txt (C := C) (m := m) (okS_nm ekm) (by omega)).show g ⟨(by show 2 ≤ sizeLine; decide), fun I nI => ?_⟩
        have sI := same_new (o := .lst [V.str "EmptyKind", .str (PyData.str ek).shown]) nI
        have s26 := s25.trans (s6.trans sI)
        refine ⟨dW "EmptyKind" (PyData.str ek).shown, dW "EmptyKind" (PyData.str ek).shown, dp_W (s26 _ _ eL), dp_W upd_same, sh_W (by decide +kernel) eo, sh_W (by decide +kernel) eo, _, rfl, ?_⟩
        rw [eqv_W]
        refine iteF ⟨.ref A, rfl, z0, fun E3 nE3 => ?_⟩
        have s3 := s26.trans (same_new (o := .lst []) nE3)
        refine .inr ⟨A, E3, .ref k, [.ref c], rfl, rfl, s3 _ _ eA, upd_same, _, rfl, iteT ⟨.ref A, rfl, A, k, c, m'.ks, m'.rs, rfl, s3 _ _ eA, s3 _ _ hk, hc.keep s3, gm.k, gm.r.ok, gm.r.r6, fun H7 s7 => ⟨rfl, _, rfl, ?_⟩⟩⟩
        rw [es, show decide (V.str ek = V.str "") = false by simp [ne]]
        obtain ⟨f1, f2, f3⟩ := fin _ (s3.trans s7)
        exact iteF ⟨_, _, _, _, rfl, f1, f2, f3⟩
      · have es : empS m'.ks m'.rs = "" := by rw [empS, e2]; rfl
        rw [es, show (!decide (V.str "" = V.str "")) = false by simp]
        refine iteF (iteF ⟨.ref A, rfl, z0, fun E3 nE3 => ?_⟩)
        have s3 := s25.trans (same_new (o := .lst []) nE3)
        refine .inr ⟨A, E3, .ref k, [.ref c], rfl, rfl, s3 _ _ eA, upd_same, _, rfl, iteT ⟨.ref A, rfl, A, k, c, m'.ks, m'.rs, rfl, s3 _ _ eA, s3 _ _ hk, hc.keep s3, gm.k, gm.r.ok, gm.r.r6, fun H7 s7 => ⟨rfl, _, rfl, ?_⟩⟩⟩
        rw [es, show decide (V.str "" = V.str "") = true by simp]
        have s37 := s3.trans s7
        have ha7 := ha.keep s37
        obtain ⟨dx, kk, cc1, nn1, ⟨dp1, ea, edp1⟩, hk1, hc1, fz1⟩ := id ha7
        refine iteT ⟨.ref L, rfl, L, _, _, .str "given", rfl, rfl, SqL.of (s37 _ _ eL), rfl, rfl, _, rfl, ?_⟩
        rw [show (!decide (V.str "given" = V.str "given")) = false by simp]
        refine iteF ⟨.ref L, rfl, L, _, _, .ref a, rfl, rfl, SqL.of (s37 _ _ eL), rfl, a, dx, _, rfl, ea, a, m', rfl, ha7, gm, fun H8 s8 => ⟨_, rfl, .str y, rfl, rfl, _, rfl, ?_⟩⟩
        rw [show (!decide (V.str (mdT m') = V.str y)) = false by rw [ey]; simp]
        have s38 := s37.trans s8
        have eL8 := s38 _ _ eL
        have ea8 := s8 _ _ ea
        have raw8 : Raw C H8 a kk cc1 nn1 := ⟨dx, _, ⟨dp1, ea8, s8 _ _ edp1⟩, fz1.keep s8⟩
        refine iteF ⟨.ref L, rfl, L, _, _, .ref a, rfl, rfl, SqL.of eL8, rfl, a, dx, _, rfl, ea8, a, kk, cc1, nn1, rfl, raw8, .ref L, rfl, L, _, _, .ref a, rfl, rfl, SqL.of eL8, rfl, a, dx, _, rfl, ea8, a, kk, cc1, nn1, rfl, raw8, (by show 2 ≤ sizeLine; decide), fun M nM => ?_⟩
        have sM := same_new (o := .lst [V.ref kk, .ref cc1]) nM
        have s39 := s38.trans sM
        refine ⟨.ref A, rfl, dMd m', dMd m', dp_md (m := m') upd_same ((s8.trans sM) _ _ hk1) (hc1.keep (s8.trans sM)), dp_md (s39 _ _ eA) (s39 _ _ hk) (hc.keep s39), gm.sh, gm.sh, _, rfl, ?_⟩
        rw [eqv_md]
        obtain ⟨f1, f2, f3⟩ := fin _ s39
        exact iteF ⟨_, _, _, _, rfl, f1, f2, f3⟩
  rintro σ G ⟨o5, o6, o7, o8, rfl, D, T', bb⟩
  exact q G bb D T'
end
end Ks
set_option Elab.async false
set_option linter.all false
set_option maxRecDepth 100000
set_option maxHeartbeats 4000000
namespace Ks
open PySem PySem.Spec PyProof.Rows L2 Gd Kx LamX
abbrev sLw : Stmt := Kx.topS 41
theorem scLw : FnScope ["_law_cells", "_law_k"] ["_law_cells"] (defScope sLw) := ⟨rfl, rfl, rfl, by decide +kernel, rfl, by decide +kernel, by decide +kernel⟩
theorem gT1_rel {vs : List V} {us : List Value} {zs : List V} {ws : List Value} (h : Vals vs us) (k : Vals zs ws) : Vals (gT1 vs zs) (gT1 us ws) := by
  cases h with
  | nil =>
    cases k with
    | nil => exact .nil
    | cons a k =>
      cases k with
      | nil => exact .cons a .nil
      | cons _ _ => exact .nil
  | cons _ _ => exact .nil
theorem kb_t1 {K : PySem.W.Frag} {x q : Str} {st : Stmt} {f : Addr} {fd : FuncData} (F : Fun K x q st f fd)
    (h : ∀ (kV doc pm : Value) (an : Option Addr) (cdv ct r : Value), bindArgs (PySem.W.fnOf x q (defArgs st) (defBody st) (defScope st) .none kV doc pm an cdv ct) ⟨[], [("text", r)]⟩ = pure [(("text" : Str), r)]) :
    KBinds K fd ["text"] ["text"] gT1 gT1 := by
  obtain ⟨oc, od, kV, doc, pm, an, cdv, ct, osl, rfl, lk, hcd⟩ := F.ex
  refine ⟨fun s us ws _ hl => ?_, fun r z => gT1_rel r z⟩
  match us, ws, hl with
  | [], [r], _ => exact .of_eq (h _ _ _ _ _ _ r)
  | [], [], hl => simp [gT1] at hl
  | [], _ :: _ :: _, hl => simp [gT1] at hl
  | _ :: _, _, hl => simp [gT1] at hl
section
variable {P : Program} {w : World} {K : PySem.W.Frag} {mg : Str → Option Value} {base : Heap}
def spLaw (K : PySem.W.Frag) (T : List (Addr × Str)) : Sp := fun vs H Q _ => ∃ (a : Addr) (ns : List Int), vs = [.ref a] ∧ SqL K H a (ns.map V.int) ∧ ns.length ≤ 63 ∧ Tabs T H ∧ ∀ H', Q (.bl true) H'
theorem ok_law {f fn fe fr : Addr} {fd fdn fde fdr : FuncData} {T : List (Addr × Str)} (F : Fun K "law" "law" sLw f fd) (ml : mg "len" = none) (mr : mg "range" = none) (ma : mg "all" = none) (mx : mg "max" = none) (mn : mg "min" = none)
    (GN : FnOk P w K mg base CX0 1 fn fdn ["_law_cells", "_law_k"] (spNum K)) (kn : PySem.W.keepIn K (.ref fn) = true) (bN : Binds K fdn ["_law_cells", "_law_k"] []) (gN : mg "_law_number" = some (.ref fn))
    (GE : FnOk P w K mg base CX0 1 fe fde ["_law_number_here"] spDeal) (ke : PySem.W.keepIn K (.ref fe) = true) (bE : Binds K fde ["_law_number_here"] []) (gE : mg "_law_deal" = some (.ref fe))
    (GR : Pr P w K mg base CX0 14 fr fdr ["_law_deal_here"] (spRgtD T)) (kr : PySem.W.keepIn K (.ref fr) = true) (bR : Binds K fdr ["_law_deal_here"] []) (gR : mg "_law_right" = some (.ref fr)) :
    Pr P w K mg base CX0 15 f fd ["_law_cells"] (spLaw K T) := by
  refine okG F scLw (fun vs H Q E h => ?_) (fun cv A ou s H vs Q E hG hr h => ?_)
  · obtain ⟨a, ns, rfl, _⟩ := h
    rfl
  obtain ⟨a, ns, rfl, hS, hl, hT, k⟩ := h
  have hr1 : Room 1 (A.deeper (envOfC "law" (defScope sLw) s.heap.objs.size f cv)) := hr.mono (by decide)
  refine ⟨_, pss_one (ps_ret (pe_callB (cr_all rfl) (by rfl) ma boot_all (pa_cons (pe_lc (own := [("_law_k", 1)]) (g := gName 1) (tt := tYes) rfl scLw.nd
      (pi_range1 rfl mr (pa_cons (pe_callB (call_max2 rfl) (by rfl) mx boot_max (pa_cons pe_int (pa_cons (pe_callB (call_min2 rfl) (by rfl) mn boot_min (pa_cons (pe_callB call_len_seq (by rfl) ml PySem.boot_len (pa_cons (pv 0) pa_nil)) (pa_cons pe_int pa_nil))) pa_nil))) pa_nil))
      (blkOk_by (own := [("_law_k", 1)]) (N := ["_law_cells", "_law_k"]) (sc := defScope sLw) (by decide +kernel))
      (fun _ _ _ _ _ => pg_name (i := 1) scLw.nd rfl (Or.inl rfl)) (fun _ _ _ _ _ => pts_nil)
      (fun _ _ _ _ _ => pe_callG GR hG hr (by rfl) gR kr bR .nil pass0 (pa_cons (pe_call GE hr1 (by rfl) gE ke bE .nil pass0 (pa_cons (pe_call GN hr1 (by rfl) gN kn bN .nil pass0 (pa_cons (pv 0) (pa_cons (pv 1) pa_nil))) pa_nil)) pa_nil))) pa_nil))), ?_⟩
  refine ⟨.ref a, rfl, a, ns.map V.int, rfl, .inl hS, _, _, rfl, _, _, rfl, _, rfl, ?_, ?_, fun D nD => ?_⟩
  · split <;> split <;> omega
  · rw [List.length_map]
    split <;> split <;> omega
  refine lc_rangeY (fun i H4 => ExtN H H4 ∧ Tabs T H4 ∧ H4 D = some (.lst ((List.replicate i true).map V.bl)) ∧ i ≤ 63) (fun _ => rfl) ⟨.of (same_new nD), hT.ext (same_new nD), upd_same, by omega⟩ ?_ ?_
  · rintro i H4 hi ⟨s4, T4, e4, _⟩
    have hi5 : i < 63 := by
      rw [List.length_map] at hi
      split at hi <;> (first | (split at hi <;> omega) | omega)
    refine ⟨.ref a, rfl, .int (0 + (i : Int)), rfl, a, ns, i, ?_, seq_ext hS s4, hl, fun z H5 s5 => ?_⟩
    · rw [Int.zero_add]
      rfl
    refine ⟨z, rfl, fun p H6 s6 np D6 => ?_⟩
    have e6 := s6 _ _ (s5 _ _ e4)
    have nDp : D ≠ p := fun e => by rw [← e, s5 _ _ e4] at np; cases np
    refine ⟨p, rfl, D6, (T4.ext s5).ext s6, fun H7 b7 _ T7 => ?_⟩
    have e7 := b7 D _ nDp (fun _ z => by cases z) e6
    refine ⟨_, e7, ?_, ?_, tabs_upd T7 e7, ?_, by omega⟩
    · rw [List.length_map, List.length_replicate]
      exact small1000 (by omega)
    · intro b o e t
      have e5 := s5 b o (s4 b o e t)
      have nb : b ≠ p := fun q => by rw [← q, e5] at np; cases np
      rw [upd_ne (ne_of_none e nD)]
      exact b7 b o nb t (s6 b o e5)
    · rw [upd_same, List.replicate_succ', List.map_append]
      rfl
  · rintro H4 ⟨s4, T4, e4, _⟩
    refine ⟨D, _, rfl, SqL.of e4, ?_⟩
    have : (List.replicate (((if (if (5 : Int) < ((ns.map V.int).length : Int) then (5 : Int) else ((ns.map V.int).length : Int)) > 2 then (if (5 : Int) < ((ns.map V.int).length : Int) then (5 : Int) else ((ns.map V.int).length : Int)) else 2) : Int).toNat) true).all id = true := by
      rw [List.all_eq_true]
      intro x hx
      rw [(List.mem_replicate.mp hx).2]
      rfl
    rw [this]
    exact k _
end
end Ks
set_option Elab.async false
set_option linter.all false
set_option maxRecDepth 100000
set_option maxHeartbeats 4000000
/-! A head by one run: each def where a function of the written part says (a global, a method, a property's getter). -/
namespace Gd
open PySem PySem.Spec PyProof.Rows L2
structure FnX where
  ad : PySem.W.Frag → Addr
  name : Str
  qual : Str
  st : Stmt
def FnX.val (d : FnX) : He.FnV := some (d.name, d.qual, defArgs d.st, .stmts (defBody d.st), defScope d.st, mainGlobals, [], .none, builtinsNs)
def fnObsA (K : PySem.W.Frag) (a : Addr) : He.FnV := match K.lookup a with
  | some ⟨_, _, .func fd, _⟩ => some (fd.name, fd.qualname, fd.params, fd.body, fd.scope, fd.globals, fd.closure, fd.defaults, fd.builtins)
  | _ => none
def codeA (K : PySem.W.Frag) (a : Addr) (q : Str) : Bool := match K.lookup a with
  | some ⟨_, _, .func fd, _⟩ => PySem.W.codeIn K fd.code q
  | _ => false
theorem fnA_ok {K : PySem.W.Frag} {a : Addr} {d : FnX} (e : fnObsA K a = d.val) (c : codeA K a d.qual = true) :
    ∃ oc od osl kV doc pm an cdv ct, K.lookup a = some ⟨oc, od, .func (PySem.W.fnOf d.name d.qual (defArgs d.st) (defBody d.st) (defScope d.st) .none kV doc pm an cdv ct), osl⟩ ∧ PySem.W.codeIn K cdv d.qual = true := by
  unfold codeA at c
  unfold fnObsA at e
  cases q : K.lookup a with
  | none =>
    rw [q] at c
    cases c
  | some o =>
    obtain ⟨oc, od, dt, osl⟩ := o
    rw [q] at c e
    cases dt with
    | func fd =>
      obtain ⟨m1, m2, m3, m4, m5, m6, m7, m8, m9, m10, m11, m12, m13, m14, m15⟩ := fd
      have e2 : (some (m1, m2, m3, m4, m5, m6, m7, m8, m15) : He.FnV) = some (d.name, d.qual, defArgs d.st, .stmts (defBody d.st), defScope d.st, mainGlobals, [], .none, builtinsNs) := e
      simp only [Option.some.injEq, Prod.mk.injEq] at e2
      obtain ⟨g1, g2, g3, g4, g5, g6, g7, g8, g9⟩ := e2
      subst g1 g2 g3 g4 g5 g6 g7 g8 g9
      exact ⟨oc, od, osl, m9, m10, m11, m12, m13, m14, rfl, c⟩
    | _ => cases c
def obsY (tab : PySem.W.Frag → Bool) (fn : List FnX) (K : PySem.W.Frag) : AlX := (tab K && fn.all fun d => PySem.W.keepIn K (.ref (d.ad K)) && codeA K (d.ad K) d.qual, fn.map fun d => fnObsA K (d.ad K))
def SaysY (tab : PySem.W.Frag → Bool) (fn : List FnX) (K : PySem.W.Frag) : Prop := obsY tab fn K = (true, fn.map FnX.val)
def obsYG (n : Nat) (tab : PySem.W.Frag → Bool) (fn : List FnX) (g : Addr → Option Obj) : AlX := obsY tab fn (He.frG g (He.asG g n))
def hookY (n : Nat) (tab : PySem.W.Frag → Bool) (fn : List FnX) : PySem.W.Hook where
  α := AlX
  obs := fun s => obsYG n tab fn s.heap.get?
  val := fun _ => (true, fn.map FnX.val)
  says := fun _ h => ∃ K : PySem.W.Frag, K.In h ∧ SaysY tab fn K
  of := fun _ _ e => ⟨_, He.frG_in, e⟩
  keeps := fun _ _ _ ⟨K, hK, c⟩ k => ⟨K, PySem.W.Frag.In.keeps hK k, c⟩
theorem obsYG_eq {n : Nat} {tab : PySem.W.Frag → Bool} {fn : List FnX} {g : Addr → Option Obj} {s : Shared} (h : ∀ a, g a = s.heap.get? a) : obsYG n tab fn g = (hookY n tab fn).obs s := by
  obtain rfl : g = s.heap.get? := funext h
  rfl
section
variable {tab : PySem.W.Frag → Bool} {fn : List FnX} {K : PySem.W.Frag}
theorem SaysY.facts (c : SaysY tab fn K) : tab K = true := (He.ba (show (tab K && fn.all fun d => PySem.W.keepIn K (.ref (d.ad K)) && codeA K (d.ad K) d.qual) = true from congrArg Prod.fst c)).1
theorem SaysY.fun_ (c : SaysY tab fn K) (i : Nat) {d : FnX} (h : fn[i]? = some d) : ∃ fd, Fun K d.name d.qual d.st (d.ad K) fd := by
  have c2 := (He.ba (show (tab K && fn.all fun d => PySem.W.keepIn K (.ref (d.ad K)) && codeA K (d.ad K) d.qual) = true from congrArg Prod.fst c)).2
  obtain ⟨k1, k2⟩ := He.ba (List.all_eq_true.mp c2 d (List.mem_of_getElem? h))
  have e1 : fn.map (fun d => fnObsA K (d.ad K)) = fn.map FnX.val := congrArg Prod.snd c
  have e2 : (fn.map fun d => fnObsA K (d.ad K))[i]? = (fn.map FnX.val)[i]? := by rw [e1]
  rw [List.getElem?_map, List.getElem?_map, h] at e2
  obtain ⟨oc, od, osl, kV, doc, pm, an, cdv, ct, lk, hc⟩ := fnA_ok (Option.some.inj e2) k2
  exact ⟨_, ⟨⟨oc, od, kV, doc, pm, an, cdv, ct, osl, rfl, lk, hc⟩, k1⟩⟩
end
/-- a global's function, a class's method, a property's getter -/
def gAd (x : Str) : PySem.W.Frag → Addr := fun K => He.ga K x
def mAd (C m : Str) : PySem.W.Frag → Addr := fun K => He.ma K (He.ga K C) m
def pAd (C m : Str) : PySem.W.Frag → Addr := fun K => match PySem.W.recIn K (He.ma K (He.ga K C) m) "property" with
  | some (.ref g :: _) => g
  | _ => 0
/-- a property's facts -/
def propB (K : PySem.W.Frag) (C m : Str) : Bool := He.eqO (PySem.W.findIn K (.ref (He.ga K C)) m) (some (some (.ref (He.ma K (He.ga K C) m)))) && (He.eqO (PySem.W.specialIn K (.ref (He.ma K (He.ga K C) m)) "__get__") (some (some (.builtin "property.__get__"))) &&
  (decide (PySem.W.takesIn K (.ref (He.ma K (He.ga K C) m)) = some true) && (match PySem.W.recIn K (He.ma K (He.ga K C) m) "property" with
    | some (.ref _ :: _) => true
    | _ => false)))
theorem prop_ok {K : PySem.W.Frag} {C m : Str} (q : propB K C m = true) : PropOf K (He.ga K C) m (He.ma K (He.ga K C) m) (pAd C m K) := by
  obtain ⟨q1, q⟩ := He.ba q
  obtain ⟨q2, q⟩ := He.ba q
  obtain ⟨q3, q4⟩ := He.ba q
  refine ⟨He.eqO_ok q1, He.eqO_ok q2, of_decide_eq_true q3, ?_⟩
  unfold pAd
  split at q4
  · rename_i g r e
    rw [e]
    exact ⟨r, rfl⟩
  · cases q4
end Gd
set_option Elab.async false
set_option linter.all false
set_option maxRecDepth 100000
set_option maxHeartbeats 4000000
namespace Ks
open PySem PySem.Spec PyProof.Rows L2 Gd Kx
/-! ### what the top of a law has written of its classes, as Bools -/
def noS : List Str := ["_kinds", "_constructors", "_names", "_places"]
def bi7 : List String := ["NoneType", "bool", "int", "str", "list", "tuple", "dict"]
def clsX (K : PySem.W.Frag) (C : Addr) : Bool := He.eqO (PySem.W.findIn K (.ref C) "__class__") (some (some (.builtin "object.__class__"))) && (He.eqO (PySem.W.specialIn K (.builtin "object.__class__") "__get__") (some (some (.builtin "getset_descriptor.__get__"))) &&
  (decide (PySem.W.takesIn K (.builtin "object.__class__") = some true) && (decide (PySem.W.mroIn K C (.type "object") = some true) && (He.eqO (PySem.W.findIn K (.ref C) "__bool__") (some none) && (He.eqO (PySem.W.findIn K (.ref C) "__ne__") (some (some (.builtin "object.__ne__"))) &&
  (bi7.all fun t => PySem.W.notFirst K C (.type t) && (decide (PySem.W.kitOne K (.type t) (.ref C) = some false) && decide (PySem.W.subIn K (.ref C) (.type t) = some false))))))))
def clsT (C : Str) (no props meths : List Str) (K : PySem.W.Frag) : Bool := (He.Fa.cls C).ok K && ((He.Fa.mkr C).ok K && ((no.all fun x => (He.Fa.noat C x).ok K) && ((props.all fun x => propB K C x) && ((meths.all fun x => (He.Fa.meth C x).ok K) && clsX K (He.ga K C)))))
def gF (x : Str) (i : Nat) : FnX := ⟨gAd x, x, x, Kx.topS i⟩
def sF (m : Str) (i : Nat) : FnX := ⟨mAd "Schema" m, m, "Schema." ++ m, cS i⟩
def sP (m : Str) (i : Nat) : FnX := ⟨pAd "Schema" m, m, "Schema." ++ m, cS i⟩
section
variable {P : Program} {w : World} {K : PySem.W.Frag} {mg : Str → Option Value} {base : Heap} {h : Heap}
structure ClsF (K : PySem.W.Frag) (C : Str) (no props meths : List Str) : Prop where
  cl : Cls K (He.ga K C)
  mkr : Mk K (He.ga K C) (mAd C "__init__" K)
  na : ∀ y ∈ no, NoAttr K (He.ga K C) y
  pr : ∀ y ∈ props, PropOf K (He.ga K C) y (He.ma K (He.ga K C) y) (pAd C y K)
  me : ∀ y ∈ meths, Meth K (He.ga K C) y (mAd C y K)
  ci : SCi K (He.ga K C)
  nb : PySem.W.findIn K (.ref (He.ga K C)) "__bool__" = some none
  ne : PySem.W.findIn K (.ref (He.ga K C)) "__ne__" = some (some (.builtin "object.__ne__"))
  ot : ∀ t ∈ bi7, PySem.W.notFirst K (He.ga K C) (.type t) = true ∧ PySem.W.kitOne K (.type t) (.ref (He.ga K C)) = some false ∧ PySem.W.subIn K (.ref (He.ga K C)) (.type t) = some false
theorem ClsF.dm {C : Str} {no props meths : List Str} (F : ClsF K C no props meths) {y : Str} (e : y ∈ meths) : Dm K (He.ga K C) y (mAd C y K) := ⟨(F.me y e).at_, (F.me y e).fn⟩
theorem clsF_of {C : Str} {no props meths : List Str} (q : clsT C no props meths K = true) : ClsF K C no props meths := by
  obtain ⟨q1, q⟩ := He.ba q
  obtain ⟨q2, q⟩ := He.ba q
  obtain ⟨q3, q⟩ := He.ba q
  obtain ⟨q4, q⟩ := He.ba q
  obtain ⟨q5, q⟩ := He.ba q
  obtain ⟨r1, q⟩ := He.ba q
  obtain ⟨r2, q⟩ := He.ba q
  obtain ⟨r3, q⟩ := He.ba q
  obtain ⟨r4, q⟩ := He.ba q
  obtain ⟨r5, q⟩ := He.ba q
  obtain ⟨r6, r7⟩ := He.ba q
  refine ⟨He.cls_ok q1, He.mkr_ok q2, fun y hy => He.noat_ok (List.all_eq_true.mp q3 y hy), fun y hy => prop_ok (List.all_eq_true.mp q4 y hy), fun y hy => He.meth_ok (List.all_eq_true.mp q5 y hy), ⟨He.eqO_ok r1, He.eqO_ok r2, of_decide_eq_true r3, of_decide_eq_true r4⟩, He.eqO_ok r5, He.eqO_ok r6, fun t ht => ?_⟩
  obtain ⟨z1, z⟩ := He.ba (List.all_eq_true.mp r7 t ht)
  obtain ⟨z2, z3⟩ := He.ba z
  exact ⟨z1, of_decide_eq_true z2, of_decide_eq_true z3⟩
end
end Ks
set_option Elab.async false
set_option linter.all false
set_option maxRecDepth 100000
set_option maxHeartbeats 4000000
/-! A head by one run, as HY's, and of some defs the tables of their code, still empty. -/
namespace Gd
open PySem PySem.Spec PyProof.Rows L2
def obsZG (n : Nat) (tab : PySem.W.Frag → Bool) (fn : List FnX) (tf : List He.Defn) (g : Addr → Option Obj) : AlX :=
  ((obsY tab fn (He.frT g (He.asG g n))).1 && He.tabsB g tf (He.frT g (He.asG g n)), (obsY tab fn (He.frT g (He.asG g n))).2)
structure SaysZ (tab : PySem.W.Frag → Bool) (fn : List FnX) (tf : List He.Defn) (h : Heap) (K : PySem.W.Frag) : Prop where
  y : SaysY tab fn K
  hd : ∀ p ∈ tf, PySem.W.codeHdIn K (He.cT K p).1 (He.cT K p).2 = true
  out : ∀ p ∈ tf, K.lookup (He.cT K p).2 = none
  emp : ∀ p ∈ tf, h.get? (He.cT K p).2 = some { cls := .none, data := .fields #[] }
theorem saysZ_of {n : Nat} {tab : PySem.W.Frag → Bool} {fn : List FnX} {tf : List He.Defn} {h : Heap} (e : obsZG n tab fn tf h.get? = (true, fn.map FnX.val)) : SaysZ tab fn tf h (He.frT h.get? (He.asG h.get? n)) := by
  have e1 : ((obsY tab fn (He.frT h.get? (He.asG h.get? n))).1 && He.tabsB h.get? tf (He.frT h.get? (He.asG h.get? n))) = true := congrArg Prod.fst e
  have e2 : (obsY tab fn (He.frT h.get? (He.asG h.get? n))).2 = fn.map FnX.val := congrArg Prod.snd e
  obtain ⟨q1, q2⟩ := He.ba e1
  have all : ∀ p ∈ tf, PySem.W.codeHdIn (He.frT h.get? (He.asG h.get? n)) (He.cT (He.frT h.get? (He.asG h.get? n)) p).1 (He.cT (He.frT h.get? (He.asG h.get? n)) p).2 = true ∧ ∃ o, h.get? (He.cT (He.frT h.get? (He.asG h.get? n)) p).2 = some o ∧ He.emptyTab o = true := by
    intro p hp
    obtain ⟨z1, z2⟩ := He.ba (List.all_eq_true.mp q2 p hp)
    refine ⟨z1, ?_⟩
    split at z2
    · rename_i o eo
      exact ⟨o, eo, z2⟩
    · cases z2
  refine ⟨Prod.ext q1 e2, fun p hp => (all p hp).1, fun p hp => ?_, fun p hp => ?_⟩
  · obtain ⟨_, o, eo, em⟩ := all p hp
    exact He.frT_none eo em
  · obtain ⟨_, o, eo, em⟩ := all p hp
    rw [eo, He.emptyTab_eq em]
def hookZ (n : Nat) (tab : PySem.W.Frag → Bool) (fn : List FnX) (tf : List He.Defn) : PySem.W.Hook where
  α := AlX
  obs := fun s => obsZG n tab fn tf s.heap.get?
  val := fun _ => (true, fn.map FnX.val)
  says := fun _ h => ∃ K : PySem.W.Frag, K.In h ∧ SaysZ tab fn tf h K
  of := fun _ _ e => ⟨_, He.frT_in, saysZ_of e⟩
  keeps := fun _ _ _ ⟨K, hK, c⟩ k => ⟨K, PySem.W.Frag.In.keeps hK k, c.y, c.hd, c.out, fun p hp => k _ _ (c.emp p hp)⟩
theorem obsZG_eq {n : Nat} {tab : PySem.W.Frag → Bool} {fn : List FnX} {tf : List He.Defn} {g : Addr → Option Obj} {s : Shared} (h : ∀ a, g a = s.heap.get? a) : obsZG n tab fn tf g = (hookZ n tab fn tf).obs s := by
  obtain rfl : g = s.heap.get? := funext h
  rfl
end Gd
set_option Elab.async false
set_option linter.all false
set_option maxRecDepth 100000
set_option maxHeartbeats 4000000
namespace Gd
open PySem PySem.Spec PyProof.Rows L2
/-! a head with empty tables of code and the interpreter's own statics; errors without a field -/
def obsCZ (n : Nat) (tab : PySem.W.Frag → Bool) (fn : List FnX) (tf : List He.Defn) (g : Addr → Option Obj) : AlX :=
  ((obsY tab fn (He.frT g (He.asG g n ++ [PySem.cStatics]))).1 && He.tabsB g tf (He.frT g (He.asG g n ++ [PySem.cStatics])), (obsY tab fn (He.frT g (He.asG g n ++ [PySem.cStatics]))).2)
theorem saysCZ_of {n : Nat} {tab : PySem.W.Frag → Bool} {fn : List FnX} {tf : List He.Defn} {h : Heap} (e : obsCZ n tab fn tf h.get? = (true, fn.map FnX.val)) : SaysZ tab fn tf h (He.frT h.get? (He.asG h.get? n ++ [PySem.cStatics])) := by
  unfold obsCZ at e
  generalize He.asG h.get? n ++ [PySem.cStatics] = as at e
  have e1 : ((obsY tab fn (He.frT h.get? as)).1 && He.tabsB h.get? tf (He.frT h.get? as)) = true := congrArg Prod.fst e
  have e2 : (obsY tab fn (He.frT h.get? as)).2 = fn.map FnX.val := congrArg Prod.snd e
  obtain ⟨q1, q2⟩ := He.ba e1
  have all : ∀ p ∈ tf, PySem.W.codeHdIn (He.frT h.get? as) (He.cT (He.frT h.get? as) p).1 (He.cT (He.frT h.get? as) p).2 = true ∧ ∃ o, h.get? (He.cT (He.frT h.get? as) p).2 = some o ∧ He.emptyTab o = true := by
    intro p hp
    obtain ⟨z1, z2⟩ := He.ba (List.all_eq_true.mp q2 p hp)
    refine ⟨z1, ?_⟩
    split at z2
    · rename_i o eo
      exact ⟨o, eo, z2⟩
    · cases z2
  refine ⟨Prod.ext q1 e2, fun p hp => (all p hp).1, fun p hp => ?_, fun p hp => ?_⟩
  · obtain ⟨_, o, eo, em⟩ := all p hp
    exact He.frT_none eo em
  · obtain ⟨_, o, eo, em⟩ := all p hp
    rw [eo, He.emptyTab_eq em]
def hookCZ (n : Nat) (tab : PySem.W.Frag → Bool) (fn : List FnX) (tf : List He.Defn) : PySem.W.Hook where
  α := AlX
  obs := fun s => obsCZ n tab fn tf s.heap.get?
  val := fun _ => (true, fn.map FnX.val)
  says := fun _ h => ∃ K : PySem.W.Frag, K.In h ∧ SaysZ tab fn tf h K
  of := fun _ _ e => ⟨_, He.frT_in, saysCZ_of e⟩
  keeps := fun _ _ _ ⟨K, hK, c⟩ k => ⟨K, PySem.W.Frag.In.keeps hK k, c.y, c.hd, c.out, fun p hp => k _ _ (c.emp p hp)⟩
theorem obsCZ_eq {n : Nat} {tab : PySem.W.Frag → Bool} {fn : List FnX} {tf : List He.Defn} {g : Addr → Option Obj} {s : Shared} (h : ∀ a, g a = s.heap.get? a) : obsCZ n tab fn tf g = (hookCZ n tab fn tf).obs s := by
  obtain rfl : g = s.heap.get? := funext h
  rfl
def zroB (K : PySem.W.Frag) (nm : Str) (b : Nat) : Bool := (He.Fa.glo nm).ok K && (xclB K (He.ga K nm) b && (PySem.W.excIn K (He.ga K nm) (xtl b) (xnid b) && decide (PySem.W.typeIn K (.ref (He.ga K nm)) = some (.type "type"))))
end Gd
namespace Ks
open PySem PySem.Spec PyProof.Rows L2 Gd Kx
def xF (C : Str) (i : Nat) : FnX := ⟨mAd C "__init__", "__init__", C ++ ".__init__", inClass (Kx.topS i) 0⟩
end Ks
set_option Elab.async false
set_option linter.all false
set_option maxRecDepth 100000
set_option maxHeartbeats 4000000
/-! raise C(), C an own class without a field; x < y of data -/
namespace Gd
open PySem PySem.Spec PyProof.Rows L2
structure Zro (K : PySem.W.Frag) (mg : Str → Option Value) (nm : Str) (C : Addr) : Prop where
  gl : mg nm = some (.ref C)
  ex : ∃ (B newId initId : String) (bmB : List Value), ExcBaseFacts B newId initId bmB ∧ PySem.W.excIn K C bmB newId = true
  kp : PySem.W.keepIn K (.ref C) = true
  sb : PySem.W.subIn K (.ref C) (.type "BaseException") = some true
  ty : PySem.W.typeIn K (.ref C) = some (.type "type")
section
variable {X : Cx}
theorem pmk_own0 {C : Addr} {bmB : List Value} {B newId initId : String} {x : Str} {p pos : Pos} (F : ExcBaseFacts B newId initId bmB) (q : PySem.W.excIn X.K C bmB newId = true) (gC : X.mg x = some (.ref C))
    (kC : PySem.W.keepIn X.K (.ref C) = true) (r : Raises X (.ref C)) (hg : Gl X x) (hdb : (x == ("__debug__" : Str)) = false := by decide) :
    PMk X (.Call (.Name x p) [] [] pos) (fun _ H Q => Q (.ref C) none H) := by
  intro pins s σ H Q I h
  refine wpAny_Call_Name_kw (ld_glob I hg gC ?_ hdb)
  refine PySem.W.callWith_K0 I.kIn kC ?_
  show wpAny _ _ (call (.ref C) []) _ _ _
  obtain ⟨bm, N, nm, qn, bs, hdct, sn, sub, ab, col, dd, k0, k1, k2, k3, k5, mN, hC, hN, hni, T⟩ := exc_obj I.kIn q
  refine wpAny_call_exc_subT F T hC hN hni (fun h' e hm => ?_) (Nat.zero_le _)
  exact mk_of I hm r h (I.hok.gone hm.new)
theorem pmk_zro {C : Addr} {x : Str} {p pos : Pos} (O : Zro X.K X.mg x C) (hg : Gl X x) (hdb : (x == ("__debug__" : Str)) = false := by decide) : PMk X (.Call (.Name x p) [] [] pos) (fun _ H Q => Q (.ref C) none H) := by
  obtain ⟨B, newId, initId, bmB, F, q⟩ := O.ex
  exact pmk_own0 F q O.gl O.kp (raises_own O.sb O.ty) hg hdb
/-- x < y of data that are alike -/
def rLtD (K : PySem.W.Frag) : R2 := fun x y H Q => ∃ d e, Dp K H x d ∧ Dp K H y e ∧ PySem.W.alike d e = true ∧ d ≠ .none ∧ d.depth ≤ 64 ∧ Q (.bl (PySem.W.dataLt d e)) H
theorem op_ltD (hu : X.A.units + 64 < cLine) : OpR X (compareOp .Lt) (rLtD X.K) := by
  intro pins s σ H x y v u Q I rx ry h
  obtain ⟨d, e, hd, he, al, nn, dd, q⟩ := h
  obtain ⟨as, r1⟩ := Dp.reads I d x v hd rx
  obtain ⟨bs, r2⟩ := Dp.reads I e y u he ry
  have hm : X.A.units + min d.depth e.depth < cLine := by omega
  exact PySem.W.rcLt_alike d e X.A s v u as bs r1 r2 al nn hm _ _ _ _ ⟨.bl _, H, I, rfl, q⟩
end
/-- such a class's facts as Bools -/
def zbm : Nat → List Value
  | 0 => [.type "ValueError", .type "Exception", .type "BaseException", .type "object"]
  | 1 => [.type "LookupError", .type "Exception", .type "BaseException", .type "object"]
  | _ => [.type "ArithmeticError", .type "Exception", .type "BaseException", .type "object"]
end Gd
set_option Elab.async false
set_option linter.all false
set_option maxRecDepth 100000
set_option maxHeartbeats 4000000
namespace Gd
open PySem PySem.Spec PyProof.Rows L2
theorem zro_of {K : PySem.W.Frag} {h : Heap} {mg : Str → Option Value} {nm : Str} {b : Nat} (X : K.In h) (G : h.Ns mainGlobals mg) (q : zroB K nm b = true) : Zro K mg nm (He.ga K nm) ∧ XC K (He.ga K nm) := by
  obtain ⟨q1, q⟩ := He.ba q
  obtain ⟨q2, q⟩ := He.ba q
  obtain ⟨q3, q4⟩ := He.ba q
  have T := xcl_of q2
  refine ⟨⟨He.glo_ok X G q1, ?_, T.kp, T.sB, of_decide_eq_true q4⟩, T⟩
  match b, q3 with
  | 0, q3 => exact ⟨_, _, _, _, PySem.F.excBase_ValueError, q3⟩
  | 1, q3 => exact ⟨_, _, _, _, PySem.F.excBase_LookupError, q3⟩
  | n + 2, q3 => exact ⟨_, _, _, _, PySem.F.excBase_ArithmeticError, q3⟩
end Gd
namespace Ks
open PySem PySem.Spec PyProof.Rows L2 Gd Kx
section
variable {K : PySem.W.Frag}
/-- the code of a def -/
theorem code_of {x q : Str} {st : Stmt} {fd : FuncData} (F : Fun K x q st (He.ga K x) fd) : fd.code = .ref (He.codeOf K (x, none)) := by
  obtain ⟨oc, od, kV, doc, pm, an, cdv, ct, osl, rfl, lk, hcd⟩ := F.ex
  obtain ⟨c, rfl⟩ := He.codeIn_ref hcd
  have := He.codeOf_eq (K := K) (p := (x, none)) (c := c) lk rfl
  rw [this]
end
end Ks
set_option Elab.async false
set_option linter.all false
set_option maxRecDepth 100000
set_option maxHeartbeats 4000000
namespace Ks
open PySem PySem.Spec PyProof.Rows L2 Gd
theorem cread0 {K : PySem.W.Frag} {C : Addr} (h : PySem.W.readsIn K C (.type "type") = true) : ClX.CRead K C (.type "type") := by
  refine ⟨h, ?_⟩
  unfold PySem.W.readsIn at h
  obtain ⟨h, _⟩ := He.ba h
  obtain ⟨h, _⟩ := He.ba h
  obtain ⟨h, h3⟩ := He.ba h
  obtain ⟨_, h2⟩ := He.ba h
  unfold PySem.W.specialIn
  rw [beq_iff_eq.mp h2, Option.bind_some]
  exact beq_iff_eq.mp h3
end Ks
set_option Elab.async false
set_option linter.all false
set_option maxRecDepth 100000
set_option maxHeartbeats 4000000
namespace Ks
open PySem PySem.Spec PyProof.Rows L2 Gd Kx
/-! ### what the top of a law about schemas has written, as Bools -/
structure TbU where
  glos : List Str
  frees : List Str
  numb : List (Str × Int)
  pS : List Str
  mS : List Str
  more : PySem.W.Frag → Bool
def TbU.tab (x : TbU) (K : PySem.W.Frag) : Bool := (x.glos.all fun y => (He.Fa.glo y).ok K) && ((x.frees.all fun y => (He.Fa.free y).ok K) && ((x.numb.all fun y => (He.Fa.int y.1 y.2).ok K) && ((He.Fa.str "LETTERS" lets).ok K && ((He.Fa.str "NAME_SIGNS" signs).ok K &&
  (clsT "Schema" noS x.pS x.mS K && x.more K)))))
/-- a staticmethod of the class of schemas -/
def stAd (C m : Str) : PySem.W.Frag → Addr := fun K => He5.wf K (He.ga K C) "staticmethod" m
def stF (m : Str) (i : Nat) : FnX := ⟨stAd "Schema" m, m, "Schema." ++ m, cS i⟩
def smB (C m : Str) (K : PySem.W.Frag) : Bool := PySem.W.readsIn K (He.ga K C) (.type "type") && (He5.wrapB K (He.ga K C) "staticmethod" "staticmethod.__get__" m && PySem.W.keepIn K (.ref (He5.wf K (He.ga K C) "staticmethod" m)))
section
variable {P : Program} {w : World} {K : PySem.W.Frag} {mg : Str → Option Value} {base : Heap} {h : Heap} {x : TbU} {fn : List FnX}
theorem ub1 (c : SaysY x.tab fn K) {y : Str} (e : y ∈ x.glos) : (He.Fa.glo y).ok K = true := List.all_eq_true.mp (He.ba c.facts).1 y e
theorem ub2 (c : SaysY x.tab fn K) {y : Str} (e : y ∈ x.frees) : (He.Fa.free y).ok K = true := List.all_eq_true.mp (He.ba (He.ba c.facts).2).1 y e
theorem ub3 (c : SaysY x.tab fn K) {y : Str} {i : Int} (e : (y, i) ∈ x.numb) : (He.Fa.int y i).ok K = true := List.all_eq_true.mp (He.ba (He.ba (He.ba c.facts).2).2).1 (y, i) e
theorem ub4 (c : SaysY x.tab fn K) : (He.Fa.str "LETTERS" lets).ok K = true ∧ (He.Fa.str "NAME_SIGNS" signs).ok K = true ∧ clsT "Schema" noS x.pS x.mS K = true ∧ x.more K = true := by
  obtain ⟨_, q⟩ := He.ba c.facts
  obtain ⟨_, q⟩ := He.ba q
  obtain ⟨_, q⟩ := He.ba q
  obtain ⟨q1, q⟩ := He.ba q
  obtain ⟨q2, q⟩ := He.ba q
  obtain ⟨q3, q4⟩ := He.ba q
  exact ⟨q1, q2, q3, q4⟩
theorem glo_u (X : K.In h) (G : h.Ns mainGlobals mg) (c : SaysY x.tab fn K) {y : Str} (e : y ∈ x.glos) : mg y = some (.ref (He.ga K y)) := He.glo_ok X G (ub1 c e)
theorem free_u (X : K.In h) (G : h.Ns mainGlobals mg) (c : SaysY x.tab fn K) {y : Str} (e : y ∈ x.frees) : mg y = none := He.free_ok X G (ub2 c e)
abbrev SFU (K : PySem.W.Frag) (x : TbU) : Prop := ClsF K "Schema" noS x.pS x.mS
theorem sf_u (c : SaysY x.tab fn K) : SFU K x := clsF_of (ub4 c).2.2.1
theorem scl_u (c : SaysY x.tab fn K) : SCl K (He.ga K "Schema") := by
  have F := sf_u c
  exact ⟨F.cl, F.na _ (by decide +kernel), F.na _ (by decide +kernel), F.na _ (by decide +kernel), F.na _ (by decide +kernel)⟩
theorem ts_u (X : K.In h) (G : h.Ns mainGlobals mg) (c : SaysY x.tab fn K) (e : ∀ y ∈ (["isinstance", "str", "tuple", "len", "all", "enumerate", "range"] : List Str), y ∈ x.frees) (i : ∀ y ∈ ([("MOST_KINDS", 4), ("MOST_CONSTRUCTORS", 6), ("MOST_FIELDS", 3)] : List (Str × Int)), y ∈ x.numb) : TS0 mg where
  isi := free_u X G c (e _ (by decide +kernel))
  str := free_u X G c (e _ (by decide +kernel))
  tup := free_u X G c (e _ (by decide +kernel))
  len := free_u X G c (e _ (by decide +kernel))
  all := free_u X G c (e _ (by decide +kernel))
  enu := free_u X G c (e _ (by decide +kernel))
  rng := free_u X G c (e _ (by decide +kernel))
  mki := He.int_ok X G (ub3 c (i _ (by decide +kernel)))
  mco := He.int_ok X G (ub3 c (i _ (by decide +kernel)))
  mfi := He.int_ok X G (ub3 c (i _ (by decide +kernel)))
theorem fun_gu (c : SaysY x.tab fn K) (i : Nat) (y : Str) (j : Nat) (h : fn[i]? = some (gF y j)) : ∃ fd, Fun K y y (Kx.topS j) (He.ga K y) fd := c.fun_ i h
theorem fun_su (c : SaysY x.tab fn K) (i : Nat) (m q : Str) (j : Nat) (h : fn[i]? = some (sF m j)) (e : ("Schema." : Str) ++ m = q) : ∃ fd, Fun K m q (cS j) (mAd "Schema" m K) fd := by
  subst e
  exact c.fun_ i h
theorem fun_spu (c : SaysY x.tab fn K) (i : Nat) (m q : Str) (j : Nat) (h : fn[i]? = some (sP m j)) (e : ("Schema." : Str) ++ m = q) : ∃ fd, Fun K m q (cS j) (pAd "Schema" m K) fd := by
  subst e
  exact c.fun_ i h
theorem fun_stu (c : SaysY x.tab fn K) (i : Nat) (m q : Str) (j : Nat) (h : fn[i]? = some (stF m j)) (e : ("Schema." : Str) ++ m = q) : ∃ fd, Fun K m q (cS j) (stAd "Schema" m K) fd := by
  subst e
  exact c.fun_ i h
theorem fun_xu (c : SaysY x.tab fn K) (i : Nat) (C : Str) (j : Nat) (h : fn[i]? = some (xF C j)) : ∃ fd, Fun K "__init__" (C ++ ".__init__") (inClass (Kx.topS j) 0) (He.ma K (He.ga K C) "__init__") fd := c.fun_ i h
end
theorem smB_ok {K : PySem.W.Frag} {C m : Str} (h : smB C m K = true) : ClX.CRead K (He.ga K C) (.type "type") ∧ SMet K (He.ga K C) (.type "type") m (He.ma K (He.ga K C) m) (stAd C m K) := by
  obtain ⟨h1, h⟩ := He.ba h
  obtain ⟨h2, h3⟩ := He.ba h
  obtain ⟨a, b⟩ := He5.wrapB_ok h2
  exact ⟨cread0 h1, a, b, h3⟩
end Ks
set_option Elab.async false
set_option linter.all false
set_option maxRecDepth 100000
set_option maxHeartbeats 4000000
namespace Ks
open PySem PySem.Spec PyProof.Rows L2 Gd Kx
def ttt (K : PySem.W.Frag) : List Value := [.ref (He.ga K "TreeError"), .ref (He.ga K "StateError"), .ref (He.ga K "LimitError")]
def tkc (K : PySem.W.Frag) : List Value := [.ref (He.ga K "InvalidKinds"), .ref (He.ga K "InvalidConstructors")]
def errB (K : PySem.W.Frag) : Bool := decide (PySem.W.kitOne K (.ref (He.ga K "InvalidText")) (.ref (He.ga K "InvalidText")) = some true) && (decide (PySem.W.kitOne K (.ref (He.ga K "EmptyKind")) (.ref (He.ga K "InvalidText")) = some false) && (decide (PySem.W.kitOne K (.ref (He.ga K "EmptyKind")) (.ref (He.ga K "EmptyKind")) = some true) &&
  (decide (PySem.W.exmAny K (.ref (He.ga K "InvalidText")) (ttt K) = some true) && (decide (PySem.W.exmAny K (.ref (He.ga K "EmptyKind")) (ttt K) = some true) && (decide (PySem.W.exmAny K (.ref (He.ga K "InvalidKinds")) (tkc K) = some true) && (decide (PySem.W.exmAny K (.ref (He.ga K "InvalidConstructors")) (tkc K) = some true) && (decide (PySem.W.exmAny K (.ref (He.ga K "EmptyKind")) (tkc K) = some false) &&
  decide (PySem.W.kitOne K (.ref (He.ga K "Schema")) (.type "str") = some false))))))))
theorem scXI : FnScope ["self", "value"] ["self", "value"] (defScope (inClass (Kx.topS 6) 0)) := ⟨rfl, rfl, rfl, by decide +kernel, rfl, by decide +kernel, by decide +kernel⟩
theorem scXK : FnScope ["self", "index"] ["self", "index"] (defScope (inClass (Kx.topS 7) 0)) := ⟨rfl, rfl, rfl, by decide +kernel, rfl, by decide +kernel, by decide +kernel⟩
theorem scXC : FnScope ["self", "index"] ["self", "index"] (defScope (inClass (Kx.topS 8) 0)) := ⟨rfl, rfl, rfl, by decide +kernel, rfl, by decide +kernel, by decide +kernel⟩
theorem scXE : FnScope ["self", "kind"] ["self", "kind"] (defScope (inClass (Kx.topS 9) 0)) := ⟨rfl, rfl, rfl, by decide +kernel, rfl, by decide +kernel, by decide +kernel⟩
def tx : TbU where
  glos := ["Schema", "TreeError", "StateError", "LimitError", "is_name", "_is_one_of", "_check_kinds", "_is_constructor", "_check_constructors", "_check_trees", "_parts", "schema_of_text", "_law_number", "_law_deal", "_law_pick", "_law_word", "_law_words", "_law_model", "_law_text", "_law_told", "_law_sort", "_law_is_name", "_law_read", "_law_empty", "_law_bent", "_law_right", "law"]
  frees := ["isinstance", "str", "tuple", "len", "all", "enumerate", "range", "int", "abs", "repr", "max", "min", "set", "list"]
  numb := [("MOST_KINDS", 4), ("MOST_CONSTRUCTORS", 6), ("MOST_FIELDS", 3), ("LONGEST_NAME", 8)]
  pS := ["kinds", "constructors"]
  mS := ["__str__", "__repr__", "__eq__"]
  more := fun K => smB "Schema" "read" K && (xdB K ⟨"InvalidText", 0, "value"⟩ && (xdB K ⟨"InvalidKinds", 0, "index"⟩ && (xdB K ⟨"InvalidConstructors", 0, "index"⟩ && (xdB K ⟨"EmptyKind", 1, "kind"⟩ && errB K))))
def fn : List FnX := [gF "is_name" 17, gF "_is_one_of" 18, gF "_check_kinds" 19, gF "_is_constructor" 20, gF "_check_constructors" 21, gF "_check_trees" 22, gF "_parts" 23, gF "schema_of_text" 24, gF "_law_number" 27, gF "_law_deal" 28, gF "_law_pick" 29, gF "_law_word" 30, gF "_law_words" 31, gF "_law_model" 32, gF "_law_text" 33, gF "_law_told" 34, gF "_law_sort" 35, gF "_law_is_name" 36, gF "_law_read" 37, gF "_law_empty" 38, gF "_law_bent" 39, gF "_law_right" 40, gF "law" 41, sF "__init__" 0, stF "read" 1, sP "kinds" 2, sP "constructors" 3, sF "__str__" 9, sF "__repr__" 10, sF "__eq__" 13, xF "InvalidText" 6, xF "InvalidKinds" 7, xF "InvalidConstructors" 8, xF "EmptyKind" 9]
def tf : List He.Defn := [("_law_right", none)]
abbrev R : PySem.W.OpenRow := PySem.W.OpenLaw.row PySem.Challenge.rw_fivetrees_k04_whole_schema_texts
abbrev hk : PySem.W.Hook := hookCZ 5 tx.tab fn tf
def ob (s : PySem.W.SharedT) : AlX := obsCZ 5 tx.tab fn tf (HandSHeadRun.getT s)
theorem ob_eq (s : PySem.W.SharedT) : ob s = hk.obs s.abs := obsCZ_eq (HandSHeadRun.getT_eq s)
end Ks
set_option Elab.async false
set_option linter.all false
set_option maxRecDepth 100000
set_option maxHeartbeats 4000000
namespace Ks
open PySem PySem.Spec PyProof.Rows L2 Gd Kx LamX
section
variable {P : Program} {w : World} {K : PySem.W.Frag} {mg : Str → Option Value} {base : Heap} {h : Heap}
theorem law_binds {f : Addr} {fd : FuncData} (F : Fun K "law" "law" sLw f fd) (s : Shared) (v : Value) : BindsTo s fd ⟨[v], []⟩ [("_law_cells", v)] := by
  obtain ⟨oc, od, kV, doc, pm, an, cdv, ct, osl, rfl, lk, hcd⟩ := F.ex
  exact .of_eq rfl
theorem facts {l : PySem.W.OpenLaw} {fa : Addr} (X : K.In h) (G : h.Ns mainGlobals mg) (hfa : mg ("law" : Str) = some (.ref fa)) (z : SaysZ tx.tab fn tf h K) : LawT l w K 15 63 "_law_cells" mg fa h := by
  have c := z.y
  have e := hfa.symm.trans (glo_u X G c (y := "law") (by decide +kernel))
  cases e
  obtain ⟨d_is_name, F_is_name⟩ := fun_gu c 0 "is_name" 17 (by rfl)
  obtain ⟨d_is_one_of, F_is_one_of⟩ := fun_gu c 1 "_is_one_of" 18 (by rfl)
  obtain ⟨d_check_kinds, F_check_kinds⟩ := fun_gu c 2 "_check_kinds" 19 (by rfl)
  obtain ⟨d_is_constructor, F_is_constructor⟩ := fun_gu c 3 "_is_constructor" 20 (by rfl)
  obtain ⟨d_check_constructors, F_check_constructors⟩ := fun_gu c 4 "_check_constructors" 21 (by rfl)
  obtain ⟨d_check_trees, F_check_trees⟩ := fun_gu c 5 "_check_trees" 22 (by rfl)
  obtain ⟨d_parts, F_parts⟩ := fun_gu c 6 "_parts" 23 (by rfl)
  obtain ⟨d_schema_of_text, F_schema_of_text⟩ := fun_gu c 7 "schema_of_text" 24 (by rfl)
  obtain ⟨d_law_number, F_law_number⟩ := fun_gu c 8 "_law_number" 27 (by rfl)
  obtain ⟨d_law_deal, F_law_deal⟩ := fun_gu c 9 "_law_deal" 28 (by rfl)
  obtain ⟨d_law_pick, F_law_pick⟩ := fun_gu c 10 "_law_pick" 29 (by rfl)
  obtain ⟨d_law_word, F_law_word⟩ := fun_gu c 11 "_law_word" 30 (by rfl)
  obtain ⟨d_law_words, F_law_words⟩ := fun_gu c 12 "_law_words" 31 (by rfl)
  obtain ⟨d_law_model, F_law_model⟩ := fun_gu c 13 "_law_model" 32 (by rfl)
  obtain ⟨d_law_text, F_law_text⟩ := fun_gu c 14 "_law_text" 33 (by rfl)
  obtain ⟨d_law_told, F_law_told⟩ := fun_gu c 15 "_law_told" 34 (by rfl)
  obtain ⟨d_law_sort, F_law_sort⟩ := fun_gu c 16 "_law_sort" 35 (by rfl)
  obtain ⟨d_law_is_name, F_law_is_name⟩ := fun_gu c 17 "_law_is_name" 36 (by rfl)
  obtain ⟨d_law_read, F_law_read⟩ := fun_gu c 18 "_law_read" 37 (by rfl)
  obtain ⟨d_law_empty, F_law_empty⟩ := fun_gu c 19 "_law_empty" 38 (by rfl)
  obtain ⟨d_law_bent, F_law_bent⟩ := fun_gu c 20 "_law_bent" 39 (by rfl)
  obtain ⟨d_law_right, F_law_right⟩ := fun_gu c 21 "_law_right" 40 (by rfl)
  obtain ⟨d_law, F_law⟩ := fun_gu c 22 "law" 41 (by rfl)
  obtain ⟨ds_init, S_init⟩ := fun_su c 23 "__init__" "Schema.__init__" 0 (by rfl) (by decide +kernel)
  obtain ⟨ds_read, S_read⟩ := fun_stu c 24 "read" "Schema.read" 1 (by rfl) (by decide +kernel)
  obtain ⟨ds_kinds, S_kinds⟩ := fun_spu c 25 "kinds" "Schema.kinds" 2 (by rfl) (by decide +kernel)
  obtain ⟨ds_constructors, S_constructors⟩ := fun_spu c 26 "constructors" "Schema.constructors" 3 (by rfl) (by decide +kernel)
  obtain ⟨ds_str, S_str⟩ := fun_su c 27 "__str__" "Schema.__str__" 9 (by rfl) (by decide +kernel)
  obtain ⟨ds_repr, S_repr⟩ := fun_su c 28 "__repr__" "Schema.__repr__" 10 (by rfl) (by decide +kernel)
  obtain ⟨ds_eq, S_eq⟩ := fun_su c 29 "__eq__" "Schema.__eq__" 13 (by rfl) (by decide +kernel)
  obtain ⟨dx_InvalidText, X_InvalidText⟩ := fun_xu c 30 "InvalidText" 6 (by rfl)
  obtain ⟨dx_InvalidKinds, X_InvalidKinds⟩ := fun_xu c 31 "InvalidKinds" 7 (by rfl)
  obtain ⟨dx_InvalidConstructors, X_InvalidConstructors⟩ := fun_xu c 32 "InvalidConstructors" 8 (by rfl)
  obtain ⟨dx_EmptyKind, X_EmptyKind⟩ := fun_xu c 33 "EmptyKind" 9 (by rfl)
  have b_is_name : Binds K d_is_name ["value"] [] := F_is_name.binds fun _ _ _ _ _ _ us hl => match us, hl with | [_], _ => rfl
  have g_is_name := glo_u X G c (y := "is_name") (by decide +kernel)
  have b_is_one_of : Binds K d_is_one_of ["value", "names"] [] := F_is_one_of.binds fun _ _ _ _ _ _ us hl => match us, hl with | [_, _], _ => rfl
  have g_is_one_of := glo_u X G c (y := "_is_one_of") (by decide +kernel)
  have b_check_kinds : Binds K d_check_kinds ["kinds"] [] := F_check_kinds.binds fun _ _ _ _ _ _ us hl => match us, hl with | [_], _ => rfl
  have g_check_kinds := glo_u X G c (y := "_check_kinds") (by decide +kernel)
  have b_is_constructor : Binds K d_is_constructor ["value", "kinds"] [] := F_is_constructor.binds fun _ _ _ _ _ _ us hl => match us, hl with | [_, _], _ => rfl
  have g_is_constructor := glo_u X G c (y := "_is_constructor") (by decide +kernel)
  have b_check_constructors : Binds K d_check_constructors ["constructors", "kinds"] [] := F_check_constructors.binds fun _ _ _ _ _ _ us hl => match us, hl with | [_, _], _ => rfl
  have g_check_constructors := glo_u X G c (y := "_check_constructors") (by decide +kernel)
  have b_check_trees : Binds K d_check_trees ["kinds", "constructors"] [] := F_check_trees.binds fun _ _ _ _ _ _ us hl => match us, hl with | [_, _], _ => rfl
  have g_check_trees := glo_u X G c (y := "_check_trees") (by decide +kernel)
  have b_parts : Binds K d_parts ["text"] [] := F_parts.binds fun _ _ _ _ _ _ us hl => match us, hl with | [_], _ => rfl
  have g_parts := glo_u X G c (y := "_parts") (by decide +kernel)
  have b_schema_of_text : Binds K d_schema_of_text ["text"] [] := F_schema_of_text.binds fun _ _ _ _ _ _ us hl => match us, hl with | [_], _ => rfl
  have g_schema_of_text := glo_u X G c (y := "schema_of_text") (by decide +kernel)
  have b_law_number : Binds K d_law_number ["_law_cells", "_law_k"] [] := F_law_number.binds fun _ _ _ _ _ _ us hl => match us, hl with | [_, _], _ => rfl
  have g_law_number := glo_u X G c (y := "_law_number") (by decide +kernel)
  have b_law_deal : Binds K d_law_deal ["_law_number_here"] [] := F_law_deal.binds fun _ _ _ _ _ _ us hl => match us, hl with | [_], _ => rfl
  have g_law_deal := glo_u X G c (y := "_law_deal") (by decide +kernel)
  have b_law_pick : Binds K d_law_pick ["_law_deal_here", "_law_many"] [] := F_law_pick.binds fun _ _ _ _ _ _ us hl => match us, hl with | [_, _], _ => rfl
  have g_law_pick := glo_u X G c (y := "_law_pick") (by decide +kernel)
  have b_law_word : Binds K d_law_word ["_law_deal_here", "_law_taken"] [] := F_law_word.binds fun _ _ _ _ _ _ us hl => match us, hl with | [_, _], _ => rfl
  have g_law_word := glo_u X G c (y := "_law_word") (by decide +kernel)
  have b_law_words : Binds K d_law_words ["_law_deal_here", "_law_many"] [] := F_law_words.binds fun _ _ _ _ _ _ us hl => match us, hl with | [_, _], _ => rfl
  have g_law_words := glo_u X G c (y := "_law_words") (by decide +kernel)
  have b_law_model : Binds K d_law_model ["_law_deal_here"] [] := F_law_model.binds fun _ _ _ _ _ _ us hl => match us, hl with | [_], _ => rfl
  have g_law_model := glo_u X G c (y := "_law_model") (by decide +kernel)
  have b_law_text : Binds K d_law_text ["_law_model_here"] [] := F_law_text.binds fun _ _ _ _ _ _ us hl => match us, hl with | [_], _ => rfl
  have g_law_text := glo_u X G c (y := "_law_text") (by decide +kernel)
  have b_law_told : Binds K d_law_told ["_law_act"] [] := F_law_told.binds fun _ _ _ _ _ _ us hl => match us, hl with | [_], _ => rfl
  have g_law_told := glo_u X G c (y := "_law_told") (by decide +kernel)
  have b_law_sort : Binds K d_law_sort ["_law_e"] [] := F_law_sort.binds fun _ _ _ _ _ _ us hl => match us, hl with | [_], _ => rfl
  have g_law_sort := glo_u X G c (y := "_law_sort") (by decide +kernel)
  have b_law_is_name : Binds K d_law_is_name ["_law_thing"] [] := F_law_is_name.binds fun _ _ _ _ _ _ us hl => match us, hl with | [_], _ => rfl
  have g_law_is_name := glo_u X G c (y := "_law_is_name") (by decide +kernel)
  have b_law_read : Binds K d_law_read ["_law_line"] [] := F_law_read.binds fun _ _ _ _ _ _ us hl => match us, hl with | [_], _ => rfl
  have g_law_read := glo_u X G c (y := "_law_read") (by decide +kernel)
  have b_law_empty : Binds K d_law_empty ["_law_model_here"] [] := F_law_empty.binds fun _ _ _ _ _ _ us hl => match us, hl with | [_], _ => rfl
  have g_law_empty := glo_u X G c (y := "_law_empty") (by decide +kernel)
  have b_law_bent : Binds K d_law_bent ["_law_deal_here", "_law_line"] [] := F_law_bent.binds fun _ _ _ _ _ _ us hl => match us, hl with | [_, _], _ => rfl
  have g_law_bent := glo_u X G c (y := "_law_bent") (by decide +kernel)
  have b_law_right : Binds K d_law_right ["_law_deal_here"] [] := F_law_right.binds fun _ _ _ _ _ _ us hl => match us, hl with | [_], _ => rfl
  have g_law_right := glo_u X G c (y := "_law_right") (by decide +kernel)
  have bs_init : Binds K ds_init ["self", "kinds", "constructors"] [] := S_init.binds fun _ _ _ _ _ _ us hl => match us, hl with | [_, _, _], _ => rfl
  have bs_read : Binds K ds_read ["text"] [] := S_read.binds fun _ _ _ _ _ _ us hl => match us, hl with | [_], _ => rfl
  have bs_kinds : Binds K ds_kinds ["self"] [] := S_kinds.binds fun _ _ _ _ _ _ us hl => match us, hl with | [_], _ => rfl
  have bs_constructors : Binds K ds_constructors ["self"] [] := S_constructors.binds fun _ _ _ _ _ _ us hl => match us, hl with | [_], _ => rfl
  have bs_str : Binds K ds_str ["self"] [] := S_str.binds fun _ _ _ _ _ _ us hl => match us, hl with | [_], _ => rfl
  have bs_repr : Binds K ds_repr ["self"] [] := S_repr.binds fun _ _ _ _ _ _ us hl => match us, hl with | [_], _ => rfl
  have bs_eq : Binds K ds_eq ["self", "other"] [] := S_eq.binds fun _ _ _ _ _ _ us hl => match us, hl with | [_, _], _ => rfl
  have gC := glo_u X G c (y := "Schema") (by decide +kernel)
  have T : TS0 mg := ts_u X G c (by decide +kernel) (by decide +kernel)
  have n_int : mg "int" = none := free_u X G c (by decide +kernel)
  have n_abs : mg "abs" = none := free_u X G c (by decide +kernel)
  have n_repr : mg "repr" = none := free_u X G c (by decide +kernel)
  have n_max : mg "max" = none := free_u X G c (by decide +kernel)
  have n_min : mg "min" = none := free_u X G c (by decide +kernel)
  have n_set : mg "set" = none := free_u X G c (by decide +kernel)
  have n_list : mg "list" = none := free_u X G c (by decide +kernel)
  have TI : TI0 mg := ⟨T.isi, T.str, T.len, T.all, He.str_ok X G (ub4 c).1, He.str_ok X G (ub4 c).2.1, He.int_ok X G (ub3 c (by decide +kernel))⟩
  have TW : TW0 mg := ⟨T.len, T.str, T.rng⟩
  have Z := scl_u c
  have FS := sf_u c
  obtain ⟨qsm, qm⟩ := He.ba (ub4 c).2.2.2
  obtain ⟨qI, qm⟩ := He.ba qm
  obtain ⟨qK, qm⟩ := He.ba qm
  obtain ⟨qC, qm⟩ := He.ba qm
  obtain ⟨qE, qm⟩ := He.ba qm
  obtain ⟨e1, qm⟩ := He.ba qm
  obtain ⟨e2, qm⟩ := He.ba qm
  obtain ⟨e3, qm⟩ := He.ba qm
  obtain ⟨e4, qm⟩ := He.ba qm
  obtain ⟨e5, qm⟩ := He.ba qm
  obtain ⟨e6, qm⟩ := He.ba qm
  obtain ⟨e7, qm⟩ := He.ba qm
  obtain ⟨e8, e9⟩ := He.ba qm
  have gT := glo_u X G c (y := "TreeError") (by decide +kernel)
  have gS := glo_u X G c (y := "StateError") (by decide +kernel)
  have gL := glo_u X G c (y := "LimitError") (by decide +kernel)
  refine ⟨d_law, [He.cT K ("_law_right", none)], spLaw K [((He.cT K ("_law_right", none)).2, qLam)], fun p hp => ?_, fun p hp => ?_, fun p hp => ?_, fun s v => law_binds F_law s v, fun H a ns hl hT hS => ?_, fun base KB GB hTB => ?_⟩
  · rw [List.mem_singleton.mp hp]
    exact z.emp _ (List.mem_singleton.mpr rfl)
  · rw [List.mem_singleton.mp hp]
    exact z.out _ (List.mem_singleton.mpr rfl)
  · rw [List.mem_singleton.mp hp]
    exact PySem.W.codeHd_of_K X (z.hd _ (List.mem_singleton.mpr rfl))
  · refine ⟨a, ns, rfl, hS, hl, fun x hx => ?_, fun _ => rfl⟩
    rw [List.mem_singleton.mp hx]
    exact TabS.nil (hT _ (List.mem_singleton.mpr rfl))
  have TB : TabB base mg (He.codeOf K ("_law_right", none)) (He.cT K ("_law_right", none)).2 := hTB _ (List.mem_singleton.mpr rfl)
  have GI : FnOk l.prog w K mg base CX0 1 _ d_is_name ["value"] (spIs K) := ok_is F_is_name TI
  have GO : FnOk l.prog w K mg base CX0 1 _ d_is_one_of ["value", "names"] (spOne K) := ok_one F_is_one_of T
  have GN : FnOk l.prog w K mg base CX0 1 _ d_law_number ["_law_cells", "_law_k"] (spNum K) := ok_num F_law_number T.len n_int
  have GE : FnOk l.prog w K mg base CX0 1 _ d_law_deal ["_law_number_here"] spDeal := ok_deal F_law_deal n_abs n_int
  have GP : FnOk l.prog w K mg base CX0 1 _ d_law_pick ["_law_deal_here", "_law_many"] spPick := ok_pick F_law_pick n_int
  have GW : FnOk l.prog w K mg base CX0 2 _ d_law_word ["_law_deal_here", "_law_taken"] spWord := ok_word F_law_word TW GP F_law_pick.kp b_law_pick g_law_pick
  have GWs : FnOk l.prog w K mg base CX0 3 _ d_law_words ["_law_deal_here", "_law_many"] spWds := ok_wds F_law_words T.rng GW F_law_word.kp b_law_word g_law_word
  have GM : FnOk l.prog w K mg base CX0 4 _ d_law_model ["_law_deal_here"] spMdl := ok_mdl F_law_model T.rng T.tup T.len GP F_law_pick.kp b_law_pick g_law_pick GWs F_law_words.kp b_law_words g_law_words
  have OI : One l.prog w K mg base "InvalidText" "value" (He.ga K "InvalidText") := xd_one X G qI X_InvalidText scXI rfl rfl rfl (fun _ => rfl) (fun _ _ _ _ _ _ us hl => match us, hl with | [_, _], _ => rfl) (fun _ _ _ _ _ _ _ _ => rfl)
  have OIH : OneH l.prog w K mg base "InvalidText" "value" (He.ga K "InvalidText") := xd_oneH X G qI X_InvalidText scXI rfl rfl rfl (fun _ => rfl) (fun _ _ _ _ _ _ us hl => match us, hl with | [_, _], _ => rfl)
  have OK : One l.prog w K mg base "InvalidKinds" "index" (He.ga K "InvalidKinds") := xd_one X G qK X_InvalidKinds scXK rfl rfl rfl (fun _ => rfl) (fun _ _ _ _ _ _ us hl => match us, hl with | [_, _], _ => rfl) (fun _ _ _ _ _ _ _ _ => rfl)
  have OC : One l.prog w K mg base "InvalidConstructors" "index" (He.ga K "InvalidConstructors") := xd_one X G qC X_InvalidConstructors scXC rfl rfl rfl (fun _ => rfl) (fun _ _ _ _ _ _ us hl => match us, hl with | [_, _], _ => rfl) (fun _ _ _ _ _ _ _ _ => rfl)
  have OE : One l.prog w K mg base "EmptyKind" "kind" (He.ga K "EmptyKind") := xd_one X G qE X_EmptyKind scXE rfl rfl rfl (fun _ => rfl) (fun _ _ _ _ _ _ us hl => match us, hl with | [_, _], _ => rfl) (fun _ _ _ _ _ _ _ _ => rfl)
  have GK : FnOk l.prog w K mg base (L2N.CX l.prog w) 3 _ d_check_kinds ["kinds"] (spKdT (He.ga K "InvalidKinds")) := ok_kdT F_check_kinds T GI F_is_name.kp b_is_name g_is_name OK (xd_ty qK)
  have GJ : FnOk l.prog w K mg base CX0 2 _ d_is_constructor ["value", "kinds"] spIsT := ok_isT F_is_constructor T GI F_is_name.kp b_is_name g_is_name GO F_is_one_of.kp b_is_one_of g_is_one_of
  have GC : FnOk l.prog w K mg base (L2N.CX l.prog w) 3 _ d_check_constructors ["constructors", "kinds"] (spCdT (He.ga K "InvalidConstructors")) := ok_cdT F_check_constructors T GJ F_is_constructor.kp b_is_constructor g_is_constructor OC (xd_ty qC)
  have GT : FnOk l.prog w K mg base (L2N.CX l.prog w) 3 _ d_check_trees ["kinds", "constructors"] (spCtX (He.ga K "EmptyKind")) := ok_ctX F_check_trees T OE (xd_ty qE)
  have Gini : FnOk l.prog w K mg base (L2N.CX l.prog w) 4 _ ds_init ["self", "kinds", "constructors"] (spIniT (He.ga K "Schema") (He.ga K "InvalidKinds") (He.ga K "InvalidConstructors") (He.ga K "EmptyKind")) := ok_iniT S_init T Z GK F_check_kinds.kp b_check_kinds g_check_kinds GC F_check_constructors.kp b_check_constructors g_check_constructors GT F_check_trees.kp b_check_trees g_check_trees
  have Gpts : FnOk l.prog w K mg base (CX l.prog w) 3 _ d_parts ["text"] (spPts (He.ga K "InvalidText")) := ok_pts F_parts T OI (xd_ty qI)
  have Gsot : FnOk l.prog w K mg base (CX l.prog w) 6 _ d_schema_of_text ["text"] (spSot K (He.ga K "Schema") (He.ga K "EmptyKind") (He.ga K "InvalidText")) := ok_sot F_schema_of_text T gC OI OIH (xd_ty qI) (He.glo_ok X G (xd_glo qK)) (He.glo_ok X G (xd_glo qC)) (of_decide_eq_true e6) (of_decide_eq_true e7) (of_decide_eq_true e8) Gpts F_parts.kp b_parts g_parts FS.mkr Gini bs_init
  have smr := smB_ok (m := "read") (K := K) (C := "Schema") qsm
  have Grd : FnOk l.prog w K mg base (CX l.prog w) 7 _ ds_read ["text"] (spSot K (He.ga K "Schema") (He.ga K "EmptyKind") (He.ga K "InvalidText")) := ok_srd S_read Gsot F_schema_of_text.kp b_schema_of_text g_schema_of_text
  have Scs' : Scs l.prog w K mg base (He.ga K "Schema") (He.ga K "InvalidKinds") (He.ga K "InvalidConstructors") (He.ga K "EmptyKind") (He.ga K "InvalidText") := ⟨Z, FS.ci, gC, ⟨_, _, FS.mkr, Gini, bs_init⟩, ⟨_, _, _, FS.pr "kinds" (by decide +kernel), ok_gk S_kinds Z, bs_kinds⟩, ⟨_, _, _, FS.pr "constructors" (by decide +kernel), ok_gc S_constructors Z, bs_constructors⟩,
    ⟨_, _, FS.dm (y := "__str__") (by decide +kernel), ok_stM S_str Z, bs_str⟩, ⟨_, _, FS.dm (y := "__repr__") (by decide +kernel), ok_rp S_repr T Z, bs_repr⟩, ⟨_, _, FS.dm (y := "__eq__") (by decide +kernel), ok_eq S_eq T gC Z FS.ci, bs_eq⟩, FS.ne, FS.ci.mo, ⟨_, _, _, _, smr.1, smr.2, Grd, bs_read, kb_t1 S_read fun _ _ _ _ _ _ _ => rfl⟩, of_decide_eq_true e9⟩
  have GrpP : FnP l.prog w K mg base 1 _ ds_repr ["self"] (spRp (He.ga K "Schema")) := ok_rpP S_repr T Z
  have GSr : FnE l.prog w K mg base 6 _ d_law_sort "_law_e" (spSrt (He.ga K "Schema") (He.ga K "InvalidText") (He.ga K "EmptyKind")) := ok_srt F_law_sort T.isi n_repr (He.glo_ok X G (xd_glo qI)) (He.glo_ok X G (xd_glo qE)) (xd_xc qI) (xd_xc qE) (xd_no qI) (xd_no qE) (of_decide_eq_true e1) (of_decide_eq_true e2) (of_decide_eq_true e3) (FS.dm (y := "__repr__") (by decide +kernel)) GrpP bs_repr
  have GLn : FnOk l.prog w K mg base CX0 1 _ d_law_is_name ["_law_thing"] spLnm := ok_lnm F_law_is_name T
  have GX : FnOk l.prog w K mg base CX0 1 _ d_law_text ["_law_model_here"] spTxt := ok_txt F_law_text T n_list
  have GQ : FnOk l.prog w K mg base CX0 2 _ d_law_read ["_law_line"] spLrd := ok_lrd F_law_read T n_set n_list GLn F_law_is_name.kp b_law_is_name g_law_is_name
  have GEm : FnOk l.prog w K mg base CX0 1 _ d_law_empty ["_law_model_here"] spEmp := ok_emp F_law_empty T
  have GB : FnOk l.prog w K mg base CX0 2 _ d_law_bent ["_law_deal_here", "_law_line"] spBnt := ok_bnt F_law_bent T GP F_law_pick.kp b_law_pick g_law_pick
  have ER' : ERk K mg (He.ga K "InvalidText") (He.ga K "EmptyKind") := ⟨_, _, _, gT, gS, gL, of_decide_eq_true e4, of_decide_eq_true e5⟩
  have GR := ok_rgt F_law_right (code_of F_law_right) TB (List.mem_singleton.mpr rfl) (fun p hp _ => by rw [List.mem_singleton.mp hp]) T n_repr Scs' ER' GM F_law_model.kp b_law_model g_law_model GP F_law_pick.kp b_law_pick g_law_pick GX F_law_text.kp b_law_text g_law_text GB F_law_bent.kp b_law_bent g_law_bent GQ F_law_read.kp b_law_read g_law_read GEm F_law_empty.kp b_law_empty g_law_empty F_law_told b_law_told g_law_told GSr F_law_sort.kp b_law_sort g_law_sort
  exact ok_law F_law T.len T.rng T.all n_max n_min GN F_law_number.kp b_law_number g_law_number GE F_law_deal.kp b_law_deal g_law_deal GR F_law_right.kp b_law_right g_law_right
end
end Ks
set_option Elab.async false
set_option linter.all false
set_option maxRecDepth 100000
set_option maxHeartbeats 4000000
/-! the same look at a state whose objects stand in a list: over a tree made of them -/
namespace Gd
open PySem PySem.Spec PyProof.Rows HandSHeadRun
def obsL (H : PySem.W.Hook) (ob : PySem.W.SharedT → H.α) (s : Shared) : H.α := match putAll s.heap.objs.toList .nil 0 with
  | some (t, n) => frNat n fun n => ob ⟨t, n, s.heap.life, s.gens, s.drawn, s.toks, s.os⟩
  | none => H.obs s
theorem obsL_eq {H : PySem.W.Hook} {ob : PySem.W.SharedT → H.α} (e : ∀ s, ob s = H.obs s.abs) (s : Shared) : obsL H ob s = H.obs s := by
  unfold obsL
  cases q : putAll s.heap.objs.toList .nil 0 with
  | none => rfl
  | some r =>
    obtain ⟨t, n⟩ := r
    show frNat n (fun n => ob ⟨t, n, s.heap.life, s.gens, s.drawn, s.toks, s.os⟩) = _
    rw [frNat_eq, e]
    have eh := putAll_heap q
    show H.obs (⟨PySem.W.absHeap t n s.heap.life, s.gens, s.drawn, s.toks, s.os⟩ : Shared) = _
    rw [eh]
def hookL (H : PySem.W.Hook) (ob : PySem.W.SharedT → H.α) (e : ∀ s, ob s = H.obs s.abs) : PySem.W.Hook where
  α := H.α
  obs := obsL H ob
  val := H.val
  says := H.says
  of := fun w s h => H.of w s ((obsL_eq e s).symm.trans h)
  keeps := H.keeps
end Gd
set_option Elab.async false
set_option linter.all false
set_option maxRecDepth 100000
set_option maxHeartbeats 4000000
open PySem PySem.W PySem.Calls PyProof.Rows
abbrev Ks.hkL : PySem.W.Hook := Gd.hookL Ks.hk Ks.ob Ks.ob_eq
set_option maxHeartbeats 0 in
theorem PySem.Challenge.cw_fivetrees_k04_whole_schema_texts_holds : PySem.Challenge.rw_fivetrees_k04_whole_schema_texts.Holds := by
  w_on; o_law
  o_head Ks.hkL
  case hw => w_witness2
  case hc =>
    refine Gd.walk_goT (l := PySem.Challenge.rw_fivetrees_k04_whole_schema_texts) (n := 63) (k := 15) (x := "_law_cells") rfl (by decide) (by kernel_rfl) ⟨rfl, by decide, by decide⟩ ?F
    intro w mg fa h Y G hmg0
    obtain ⟨K, KX, c⟩ := Y
    exact ⟨K, KX, Ks.facts (l := PySem.Challenge.rw_fivetrees_k04_whole_schema_texts) KX G hmg0 c⟩
