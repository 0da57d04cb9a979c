import PyProof.Rows.All
import Wide.All
import OpenK.AllK
import Wide.FinOn
import HandS.ForMost
import HandS.IsInst
import HandS.Head0
import HandS.Head1
import HandS.Head2
import HandS.HeadHook1
import HandS.Property
import HandS.HeadHook4
import HandS.ExcInit
import KE.KExcInit
import KE.KExcIs
import HandS.ExcValue
import KE.GoesEnum
import HandS.Iter
import HandS.OwnEq
import HandS.Conv
import HandS.Strs
import HandS.MakeKw
import HandS.DictComp
import PyProof.StrLawsRepr
import HandS.TryMany
import HandS.HotCalls
import PyProof.CallFns
import HandS.Lambda
import HandS.EndTab
import HandS.WordsExc
import HandS.TupAny
import HandS.HeadEnd
import PySem.Challenge.RW_fivetrees_k05_kinds_without_trees
set_option Elab.async false
set_option linter.all false
set_option maxRecDepth 100000
set_option maxHeartbeats 4000000
/-! Promises of defs that are called while no repr is under way; repr of lists and tuples; a law's end over them. -/
namespace Gd
open PySem PySem.Spec PyProof.Rows L2

/-- as FnOk, for calls at which no repr is under way -/
structure Pr (P : Program) (w : World) (K : PySem.W.Frag) (mg : Str → Option Value) (base : Heap) (CX : CXT) (k : Nat) (f : Addr) (fd : FuncData) (ps : List Str) (sp : Sp) : Prop where
  size : ∀ us H Q E, sp us H Q E → us.length = ps.length
  go : ∀ (A : Around) (ou : List Env) (s : Shared) (H : Hp) (gs : Args) (us : List Value) (vs : List V) (Q : VK) (E : XK), A.guards = some [] → Room k A →
    Env0 P w K mg base A ou s H → BindsTo s fd gs (ps.zip us) → Vals vs us → sp vs H Q E → codeAny (model P w) A (.call (.ref f) gs) (CR CX ou P w H s Q E) s
theorem Pr.of {P : Program} {w : World} {K : PySem.W.Frag} {mg : Str → Option Value} {base : Heap} {CX : CXT} {k : Nat} {f : Addr} {fd : FuncData} {ps : List Str} {sp : Sp} (F : FnOk P w K mg base CX k f fd ps sp) : Pr P w K mg base CX k f fd ps sp :=
  ⟨F.len, fun A ou s H gs us vs Q E _ => F.run A ou s H gs us vs Q E⟩

theorem pr_of {CX : CXT} {P : Program} {w : World} {K : PySem.W.Frag} {mg : Str → Option Value} {base : Heap} {k : Nat} {f : Addr} {nm qn : Str} {pa : Arguments} {bd : List Stmt} {sc : Scope} {dV kV dc pm cv ct oc : Value} {an od : Option Addr}
    {osl : Array (Option Value)} {N ps : List Str} {sp : Sp} (lk : K.lookup f = some ⟨oc, od, .func (PySem.W.fnOf nm qn pa bd sc dV kV dc pm an cv ct), osl⟩) (hc : PySem.W.codeIn K cv qn = true) (S : FnScope N ps sc)
    (hl : ∀ us H Q E, sp us H Q E → us.length = ps.length)
    (hb : ∀ (A : Around) (ou : List Env) (s : Shared) (H : Hp) (vs : List V) (Q : VK) (E : XK), A.guards = some [] → Room k (A.deeper (envOfC qn sc s.heap.objs.size f cv)) → sp vs H Q E →
      ∃ t, PSs (cxOf CX P w K mg base N qn sc f cv A ou s H E) bd t ∧ t { nx := fun _ H' => Q .non H', rt := Q } (start N vs) H) :
    Pr P w K mg base CX (k + 1) f (PySem.W.fnOf nm qn pa bd sc dV kV dc pm an cv ct) ps sp := by
  constructor
  · exact hl
  intro A ou s H gs us vs Q E hG hR e0 hB hV hS
  have n1 := hl vs H Q E hS
  have inK : K.In s.heap := e0.mod.kin.keeps (fun b o e => (e0.bs b o e).left)
  have noL : s.heap.NoLimit := e0.mod.nolimit.keeps (fun b o e => (e0.bs b o e).left)
  have kinds : ∀ y ∈ ps.zip us, sc.names.lookup y.1 = some .local ∨ (sc.names.lookup y.1 = some .cell ∧ ((cellsFrom (s.heap.objs.size + 1) sc.names []).lookup y.1).isSome = true) := by
    rintro ⟨n, v⟩ hy
    cases S.par n (List.of_mem_zip hy).1 with
    | inl q => exact .inl q
    | inr q => exact .inr ⟨q, PySem.W.cellsFrom_some _ _ _ (.inl q)⟩
  refine codeAny_call_function hR.depth (inK _ _ lk) rfl S.co S.gen rfl (PySem.W.codeRec_of inK hc) (hB _ _ _ _ ?_)
  refine wpAny_newFunctionEnv_cells S.kind kinds fun ev he s2 y => ?_
  subst he
  refine ⟨noL.keeps y.toInCall.keep, codeAny_func ?_⟩
  obtain ⟨t, ht, hq⟩ := hb A ou s H vs Q E hG (hR.deeper _) hS
  have J0 : Inv (cxOf CX P w K mg base N qn sc f cv A ou s H E) [] (start N vs) H s2 := inv_start S hR.hd e0 n1 hV y
  refine wpAny_mono (ht.run [] s2 (start N vs) H _ J0 hq) (fun fl s3 h3 => ?_) fun _ _ z => z
  have fin : ∀ {τ : L2.St} {H' : Hp} {v : V} {u : Value}, Inv (cxOf CX P w K mg base N qn sc f cv A ou s H E) [] τ H' s3 → RelV v u → Q v H' → CE ou P w H s Q u s3 := by
    intro τ H' v u J rv q
    exact ⟨v, H', J.os, J.bare, J.base, J.hok, rv, q⟩
  match fl, h3 with
  | .ret u, ⟨v, τ, H', J, rv, q⟩ => exact fin J rv q
  | .next, ⟨τ, H', J, q⟩ => exact fin (v := V.non) (u := Value.none) J rfl q
  | .brk, ⟨_, _, _, q⟩ => exact False.elim q
  | .cont, ⟨_, _, _, q⟩ => exact False.elim q

section
variable {P : Program} {w : World} {K : PySem.W.Frag} {mg : Str → Option Value} {base : Heap}
/-- a def of the text, by its body -/
theorem okG {x qn : Str} {st : Stmt} {f : Addr} {fd : FuncData} {N ps : List Str} {k : Nat} {sp : Sp} (F : Fun K x qn st f fd) (S : FnScope N ps (defScope st)) (hl : ∀ us H Q E, sp us H Q E → us.length = ps.length)
    (hb : ∀ (cv : Value) (A : Around) (ou : List Env) (s : Shared) (H : Hp) (vs : List V) (Q : VK) (E : XK), A.guards = some [] → Room k (A.deeper (envOfC qn (defScope st) s.heap.objs.size f cv)) → sp vs H Q E →
      ∃ t, PSs (cxOf CX0 P w K mg base N qn (defScope st) f cv A ou s H E).nox (defBody st) t ∧ t { nx := fun _ H' => Q .non H', rt := Q } (start N vs) H) : Pr P w K mg base CX0 (k + 1) f fd ps sp := by
  obtain ⟨oc, od, kV, dc, pm, an, cv, ct, osl, rfl, lk, hc⟩ := F.ex
  refine pr_of lk hc S hl fun A ou s H vs Q E hG hR hS => ?_
  obtain ⟨t, h, q⟩ := hb cv A ou s H vs Q E hG hR hS
  exact ⟨t, h.nox, q⟩
end

section
variable {X : Cx} {CX : CXT} {k : Nat} {f C : Addr} {fd : FuncData} {ps ks : List Str} {sp : Sp} {dvs : List V} {ds : List Value} {E : XK} {x m : Str} {p pos apos : Pos} {e o : Expr} {es : List Expr} {kws : List Keyword} {ta : TE} {t tk : TA}
  {g : List Value → List Value → List Value} {gV : List V → List V → List V}
theorem run_pr {pins : List (Addr × Obj)} {σ : L2.St} {H : Hp} {s : Shared} {Q : VK} {us : List Value} {kw : List (Str × Value)} {ws : List Value} {zs : List V} (F : Pr X.prog X.w X.K X.mg X.base CX k f fd ps sp) (hG : X.A.guards = some []) (hR : Room k X.A) (hx : Passes CX X E)
    (I : Inv X pins σ H s) (hB : BindsTo s fd ⟨us, kw⟩ (ps.zip ws)) (hV : Vals zs ws) (h : sp zs H Q E) : wpAny (model X.prog X.w) X.A (call (.ref f) us kw) (EP X pins σ Q) X.xe s := by
  refine wpAny_call (codeAny_mono (F.go X.A X.stack s H ⟨us, kw⟩ ws zs Q E hG hR I.env0 hB hV h) fun r s' hq => ?_)
  match r, hq with
  | .error e, hq => exact hx pins σ H s e s' I hq
  | .ok (.ret u), hq => exact I.after hq
  | .ok .next, hq => exact False.elim hq
  | .ok .brk, hq => exact False.elim hq
  | .ok .cont, hq => exact False.elim hq
/-- f(e, ..) -/
theorem pe_callG (F : Pr X.prog X.w X.K X.mg X.base CX k f fd ps sp) (hG : X.A.guards = some []) (hR : Room k X.A) (hg : Gl X x) (hm : X.mg x = some (.ref f)) (hk : PySem.W.keepIn X.K (.ref f) = true) (hb : Binds X.K fd ps ds) (hd : Vals dvs ds) (hx : Passes CX X E)
    (ha : PA X (e :: es) t) (hdb : (x == ("__debug__" : Str)) = false := by decide) (he : starEach (e :: es) X.env = (false, eval e X.env) :: starEach es X.env := by rfl) (hpl : (backTo pos (starEach es X.env)).any (·.1) = false := by rfl) :
    PE X (.Call (.Name x p) (e :: es) [] pos) (tCall sp dvs E t) := by
  constructor
  intro pins s σ H Q I h
  refine wpAny_Call_Name_kw (ld_glob I hg hm ?_ hdb)
  refine PySem.W.callWith_K (h₀ := X.base) I.ok.mod.kin hk (thn (ha.run pos pins s σ H _ I h) fun us s2 z2 => ?_) he hpl
  obtain ⟨vs, H2, I2, r2, q2⟩ := z2
  refine ⟨I2.kIn, run_pr F hG hR hx I2 (hb s2 us I2.kIn ?_) (r2.append hd) q2⟩
  rw [← (r2.append hd).length]
  exact F.size _ _ _ _ q2
/-- f(k = v, ..): keywords alone -/
theorem pe_callGK0 (F : Pr X.prog X.w X.K X.mg X.base CX k f fd ps sp) (hG : X.A.guards = some []) (hR : Room k X.A) (hg : Gl X x) (hm : X.mg x = some (.ref f)) (hk : PySem.W.keepIn X.K (.ref f) = true) (hb : KBinds X.K fd ps ks g gV) (hx : Passes CX X E)
    (hkw : PK X kws tk) (hall : (backToKw pos (keywordEach kws X.env)).all (·.1.isSome) = true := by rfl) (hks : (backToKw pos (keywordEach kws X.env)).filterMap (·.1) = ks := by rfl)
    (hdb : (x == ("__debug__" : Str)) = false := by decide)
    (hpl : ((backTo pos (starEach [] X.env)).any (·.1) || (backToKw pos (keywordEach kws X.env)).any (·.1.isNone)) = false := by rfl) :
    PE X (.Call (.Name x p) [] kws pos) (tCallK sp gV E tNil tk) := by
  constructor
  intro pins s σ H Q I h
  refine wpAny_Call_Name_kw (ld_glob I hg hm ?_ hdb)
  refine PySem.W.callWith_KW0 (first := []) (h₀ := X.base) I.ok.mod.kin hk hall (thn (hkw.run pos pins s σ H _ I h) fun us s2 z2 => ?_) hpl
  obtain ⟨zs, H2, I2, r2, q2⟩ := z2
  refine ⟨I2.kIn, ?_⟩
  rw [hks]
  have rr : Vals (gV [] zs) (g [] us) := hb.rel .nil r2
  refine run_pr F hG hR hx I2 (hb.to s2 [] us I2.kIn ?_) rr q2
  rw [← rr.length]
  exact F.size _ _ _ _ q2
end

/-! ### repr of a list or a tuple of plain things -/
def rShow (K : PySem.W.Frag) : List V → Hp → VK → Prop := fun xs H Q => ∃ (a : Addr) (d : PyData), xs = [.ref a] ∧ Dp K H (.ref a) d ∧ d.showable = true ∧ d.hasDict = false ∧ d.depth ≤ 60 ∧ d.shown.length ≤ sizeLine ∧ Q (.str d.shown) H
theorem call_show {X : Cx} (hG : X.A.guards = some []) (hu : X.A.units + 64 < cLine) : CallR X (.builtin "repr") (rShow X.K) := by
  intro pins s σ H xs us Q I r h
  obtain ⟨a, d, rfl, hd, hs, hn, hz, hl, q⟩ := h
  have e1 := Vals.ref1 r
  subst e1
  obtain ⟨as, r1⟩ := Dp.reads I d (.ref a) (.ref a) hd rfl
  exact repr_of_reads' r1 hs (PyData.noDict_hsm hn) hG (by omega) (fun _ _ e => e) (fun h' u tk hk => ⟨.str d.shown, H, I.kept hk, ⟨_, rfl⟩, q⟩) hl

/-! ### a law's end -/
theorem law_go {P : Program} {w : World} {K : PySem.W.Frag} {mg mb : Str → Option Value} {CX : CXT} {k : Nat} {fa a : Addr} {fd : FuncData} {x : Str} {sp : Sp} {s1 : Shared} {vs : List Value} {ns : List Int}
    (KX : K.In s1.heap) (hm : s1.heap.Ns mainGlobals mg) (hb : s1.heap.Ns builtinsNs mb) (hbb : ∀ x : Str, x ≠ "__name__" → mb x = bootBuiltins x) (hlim : s1.heap.NoLimit) (hg : s1.gens = #[])
    (ha : s1.heap.get? a = some { cls := .type "list", data := .seq vs.toArray }) (hi : IntsAre vs ns) (hl : ns.length ≤ sizeLine) (hR : Room k callerA)
    (F : ∀ base : Heap, K.In base → base.Ns mainGlobals mg → Pr P w K mg base CX k fa fd [x] sp) (hbind : ∀ (s : Shared) (u : Value), BindsTo s fd ⟨[u], []⟩ [(x, u)])
    (hsp : ∀ H : Hp, Only H → SqL K H a (ns.map V.int) → sp [.ref a] H (fun v _ => v = .bl true) fun _ _ _ => False)
    (hCX : ∀ H e s', CX [] H s1 (fun _ _ _ => False) e s' → False) :
    codeAny (model P w) callerA (.call (.ref fa) ⟨[.ref a], []⟩) (fun r s' => r = .ok (.ret (.bool true)) ∧ OldK s1.heap s'.heap ∧ s'.os = s1.os ∧ AllBare s'.gens) s1 := by
  have rv := vals_ints hi
  have main : ∀ H : Hp, Only H → SqL K H a (ns.map V.int) → HOk P w H s1.heap → (∀ b, H b ≠ none → b = a) → (H a ≠ none → K.lookup a = none) →
      codeAny (model P w) callerA (.call (.ref fa) ⟨[.ref a], []⟩) (fun r s' => r = .ok (.ret (.bool true)) ∧ OldK s1.heap s'.heap ∧ s'.os = s1.os ∧ AllBare s'.gens) s1 := by
    intro H hO hS hok oa ok
    have only : ∀ {b : Addr}, H b ≠ none → b = a := fun {b} h => oa b h
    have none_of : ∀ {b : Addr}, b ≠ a → H b = none := by
      intro b hb
      rcases hO b with z | ⟨ob, xs, z⟩
      · exact z
      · exact absurd (only (by rw [z]; simp)) hb
    have stay : ∀ {b : Addr} {o : Obj}, s1.heap.get? b = some o → H b = none → (hidT s1.heap H).get? b = some o := fun e n => hidT_get e n
    have ns_of : ∀ {b : Addr} {m : Str → Option Value}, s1.heap.Ns b m → (hidT s1.heap H).Ns b m := by
      rintro b m ⟨o, es, ep, e, d, r⟩
      refine ⟨o, es, ep, stay e (none_of ?_), d, r⟩
      rintro rfl
      rw [ha] at e
      cases e
      exact absurd (show Data.seq vs.toArray 0 = Data.dict es ep from d) (by intro z; cases z)
    have inK : K.In (hidT s1.heap H) := by
      intro b o e
      refine stay (KX b o e) ?_
      rcases hO b with z | ⟨ob, xs, z⟩
      · exact z
      · have nz : H b ≠ none := by rw [z]; simp
        have e' := only nz
        subst e'
        rw [ok nz] at e
        cases e
    obtain ⟨mc, l1, l2⟩ := hlim
    have hM : Mod K mg (hidT s1.heap H) := ⟨inK, ns_of hm, ⟨mb, ns_of hb, hbb⟩, ⟨mc, ns_of l1, l2⟩⟩
    have e0 : Env0 P w K mg (hidT s1.heap H) callerA [] s1 H :=
      ⟨rfl, hM, fun b o e => of_hidT e, Nat.le_of_eq (hidT_size _ _), trivial, fun b z => by simp [frs] at z, hok, .of_eq hg⟩
    refine codeAny_mono ((F _ inK (ns_of hm)).go callerA [] s1 H ⟨[.ref a], []⟩ [.ref a] [.ref a] _ _ rfl hR e0 (hbind s1 (.ref a)) (.cons rfl .nil) (hsp H hO hS)) fun r s2 h => ?_
    match r, h with
    | .error e, h => exact (hCX H e s2 h).elim
    | .ok .next, h => exact False.elim h
    | .ok .brk, h => exact False.elim h
    | .ok .cont, h => exact False.elim h
    | .ok (.ret u), ⟨v, H', os, bare, un, hok', r', q⟩ =>
      have q' : v = .bl true := q
      subst q'
      have r2 : u = Value.bool true := r'
      subst r2
      refine ⟨rfl, OldK.of_keep fun b o e => ?_, os, bare⟩
      rcases hO b with z | ⟨ob, xs, z⟩
      · exact un.keep b o e z (by simp [frs]) (by simp)
      · have z2 := un.frzs b ob _ z
        have g1 := (hok b _ z).1
        have g2 := (hok' b _ z2).1
        rw [e] at g1
        cases g1
        exact g2
  cases hk : K.lookup a with
  | some o =>
    have e := KX a o hk
    rw [ha] at e
    cases e
    exact main (fun _ => none) (fun _ => .inl rfl) (.inr ⟨_, vs.toArray, _, hk, rfl, rfl, rfl, by rw [List.size_toArray, hi.length]; exact hl, by simpa using rv⟩) (fun b u z => by cases (show (none : Option HO) = some u from z)) (fun b z => absurd rfl z) fun z => absurd rfl z
  | none =>
    have at_ : (fun b => if b = a then some (HO.frz { cls := .type "list", data := .seq vs.toArray } (.lst (ns.map V.int))) else none) a = some (HO.frz { cls := .type "list", data := .seq vs.toArray } (.lst (ns.map V.int))) := if_pos rfl
    refine main (fun b => if b = a then some (HO.frz { cls := .type "list", data := .seq vs.toArray } (.lst (ns.map V.int))) else none) (fun b => ?_) (.inl (.inr ⟨_, at_⟩)) (fun b u z => ?_) (fun b z => ?_) fun _ => hk
    · by_cases hb : b = a
      · exact .inr ⟨_, _, if_pos hb⟩
      · exact .inl (if_neg hb)
    · by_cases hb : b = a
      · subst hb
        cases at_.symm.trans z
        exact ⟨ha, by rw [List.length_map]; exact hl, vs, _, rv, ha⟩
      · cases (if_neg hb).symm.trans z
    · by_cases hb : b = a
      · exact hb
      · exact absurd (if_neg hb) z

theorem walk_go {l : PySem.W.OpenLaw} {n k : Nat} {q : Program} {loose : List Str} {XP : (Str → Option Value) → Heap → Prop} {YP : World → Heap → Prop} {d : DefRec} {K : Params → PySem.W.Frag} {x : Str} {sp : PySem.W.Frag → Sp}
    (hn : l.most = some n) (hn2 : n ≤ sizeLine) (hdf : d.params.defaults = []) (hR : Room k callerA)
    (hY : ∀ (w : World) (h : Heap), YP w h → (K w.params).In h)
    (F : ∀ (w : World) (mg : Str → Option Value) (fa : Addr) (h : Heap), (K w.params).In h → h.Ns mainGlobals mg → mg d.name = some (.ref fa) →
      ∃ fd : FuncData, (∀ (s : Shared) (u : Value), BindsTo s fd ⟨[u], []⟩ [(x, u)]) ∧ ∀ base : Heap, (K w.params).In base → base.Ns mainGlobals mg → Pr l.prog w (K w.params) mg base CX0 k fa fd [x] (sp (K w.params)))
    (hsp : ∀ (K : PySem.W.Frag) (H : Hp) (a : Addr) (ns : List Int), ns.length ≤ n → SqL K H a (ns.map V.int) → sp K [.ref a] H (fun v _ => v = .bl true) fun _ _ _ => False) :
    PySem.W.WalkO q loose XP YP l.row.toRowW d [] (fun f vs => PySem.call f vs) := by
  refine Att.attach_call hn hdf fun w s0 s1 mg mb fa o pm cd doc a vs ns G Y ho hd hcd hmg hobj hints hlen hg => ?_
  obtain ⟨fd, hb, hF⟩ := F w mg fa _ (hY w _ Y) G.T.g hmg
  exact law_go (hY w _ Y) G.T.g G.T.b G.T.builtins G.T.nolimit hg hobj hints (Nat.le_trans hlen hn2) hR hF hb (fun H _ hS => hsp _ H a ns hlen hS) fun _ _ _ z => z
end Gd
set_option Elab.async false
set_option linter.all false
set_option maxRecDepth 100000
set_option maxHeartbeats 4000000
/-! A head by one run, with facts of one's own: a Bool over the written part, and the defs. -/
namespace Gd
open PySem PySem.Spec PyProof.Rows L2
abbrev AlX : Type := Bool × List He.FnV
def obsX (tab : PySem.W.Frag → Bool) (fn : List He.FnD) (K : PySem.W.Frag) : AlX := (tab K && fn.all fun d => PySem.W.keepIn K (.ref (He.fAd K d.at_)) && (He.Fa.code d.at_ d.qual).ok K, fn.map fun d => He.fnObs K d.at_)
def SaysX (tab : PySem.W.Frag → Bool) (fn : List He.FnD) (K : PySem.W.Frag) : Prop := obsX tab fn K = (true, fn.map He.FnD.val)
def obsXG (n : Nat) (tab : PySem.W.Frag → Bool) (fn : List He.FnD) (g : Addr → Option Obj) : AlX := obsX tab fn (He.frG g (He.asG g n))
def hookX (n : Nat) (tab : PySem.W.Frag → Bool) (fn : List He.FnD) : PySem.W.Hook where
  α := AlX
  obs := fun s => obsXG n tab fn s.heap.get?
  val := fun _ => (true, fn.map He.FnD.val)
  says := fun _ h => ∃ K : PySem.W.Frag, K.In h ∧ SaysX tab fn K
  of := fun _ _ e => ⟨_, He.frG_in, e⟩
  keeps := fun _ _ _ ⟨K, hK, c⟩ k => ⟨K, PySem.W.Frag.In.keeps hK k, c⟩
theorem obsXG_eq {n : Nat} {tab : PySem.W.Frag → Bool} {fn : List He.FnD} {g : Addr → Option Obj} {s : Shared} (h : ∀ a, g a = s.heap.get? a) : obsXG n tab fn g = (hookX n tab fn).obs s := by
  obtain rfl : g = s.heap.get? := funext h
  rfl
section
variable {tab : PySem.W.Frag → Bool} {fn : List He.FnD} {K : PySem.W.Frag}
theorem SaysX.facts (c : SaysX tab fn K) : tab K = true := (He.ba (show (tab K && fn.all fun d => PySem.W.keepIn K (.ref (He.fAd K d.at_)) && (He.Fa.code d.at_ d.qual).ok K) = true from congrArg Prod.fst c)).1
/-- a def of the text where the run left it -/
theorem SaysX.fun_ (c : SaysX tab fn K) (i : Nat) {d : He.FnD} {st : Stmt} (h : fn[i]? = some d) (e : d = ⟨d.at_, d.name, d.qual, defArgs st, defBody st, defScope st⟩) : ∃ fd, Fun K d.name d.qual st (He.fAd K d.at_) fd := by
  have c2 := (He.ba (show (tab K && fn.all fun d => PySem.W.keepIn K (.ref (He.fAd K d.at_)) && (He.Fa.code d.at_ d.qual).ok K) = true from congrArg Prod.fst c)).2
  obtain ⟨k1, k2⟩ := He.ba (List.all_eq_true.mp c2 d (List.mem_of_getElem? h))
  have e1 : fn.map (fun d => He.fnObs K d.at_) = fn.map He.FnD.val := congrArg Prod.snd c
  have e2 : (fn.map fun d => He.fnObs K d.at_)[i]? = (fn.map He.FnD.val)[i]? := by rw [e1]
  rw [List.getElem?_map, List.getElem?_map, h] at e2
  obtain ⟨oc, od, osl, kV, doc, pm, an, cdv, ct, lk, hc⟩ := He.fn_ok (Option.some.inj e2) k2
  rw [e] at lk
  exact ⟨_, ⟨⟨oc, od, kV, doc, pm, an, cdv, ct, osl, rfl, lk, hc⟩, k1⟩⟩
end
theorem walk_goE {l : PySem.W.OpenLaw} {n k : Nat} {q : Program} {loose : List Str} {XP : (Str → Option Value) → Heap → Prop} {YP : World → Heap → Prop} {d : DefRec} {x : Str}
    (hn : l.most = some n) (hn2 : n ≤ sizeLine) (hdf : d.params.defaults = []) (hR : Room k callerA)
    (F : ∀ (w : World) (mg : Str → Option Value) (fa : Addr) (h : Heap), YP w h → h.Ns mainGlobals mg → mg d.name = some (.ref fa) →
      ∃ (K : PySem.W.Frag) (fd : FuncData) (sp : Sp), K.In h ∧ (∀ (s : Shared) (u : Value), BindsTo s fd ⟨[u], []⟩ [(x, u)]) ∧ (∀ (H : Hp) (a : Addr) (ns : List Int), ns.length ≤ n → SqL K H a (ns.map V.int) → sp [.ref a] H (fun v _ => v = .bl true) fun _ _ _ => False) ∧
        ∀ base : Heap, K.In base → base.Ns mainGlobals mg → Pr l.prog w K mg base CX0 k fa fd [x] sp) :
    PySem.W.WalkO q loose XP YP l.row.toRowW d [] (fun f vs => PySem.call f vs) := by
  refine Att.attach_call hn hdf fun w s0 s1 mg mb fa o pm cd doc a vs ns G Y ho hd hcd hmg hobj hints hlen hg => ?_
  obtain ⟨K, fd, sp, KX, hb, hsp, hF⟩ := F w mg fa _ Y G.T.g hmg
  exact law_go KX G.T.g G.T.b G.T.builtins G.T.nolimit hg hobj hints (Nat.le_trans hlen hn2) hR hF hb (fun H _ hS => hsp H a ns hlen hS) fun _ _ _ z => z
end Gd
set_option Elab.async false
set_option linter.all false
set_option maxRecDepth 100000
set_option maxHeartbeats 4000000
/-! A head by one run: each def where a function of the written part says (a global, a method, a property's getter). -/
namespace Gd
open PySem PySem.Spec PyProof.Rows L2
structure FnX where
  ad : PySem.W.Frag → Addr
  name : Str
  qual : Str
  st : Stmt
def FnX.val (d : FnX) : He.FnV := some (d.name, d.qual, defArgs d.st, .stmts (defBody d.st), defScope d.st, mainGlobals, [], .none, builtinsNs)
def fnObsA (K : PySem.W.Frag) (a : Addr) : He.FnV := match K.lookup a with
  | some ⟨_, _, .func fd, _⟩ => some (fd.name, fd.qualname, fd.params, fd.body, fd.scope, fd.globals, fd.closure, fd.defaults, fd.builtins)
  | _ => none
def codeA (K : PySem.W.Frag) (a : Addr) (q : Str) : Bool := match K.lookup a with
  | some ⟨_, _, .func fd, _⟩ => PySem.W.codeIn K fd.code q
  | _ => false
theorem fnA_ok {K : PySem.W.Frag} {a : Addr} {d : FnX} (e : fnObsA K a = d.val) (c : codeA K a d.qual = true) :
    ∃ oc od osl kV doc pm an cdv ct, K.lookup a = some ⟨oc, od, .func (PySem.W.fnOf d.name d.qual (defArgs d.st) (defBody d.st) (defScope d.st) .none kV doc pm an cdv ct), osl⟩ ∧ PySem.W.codeIn K cdv d.qual = true := by
  unfold codeA at c
  unfold fnObsA at e
  cases q : K.lookup a with
  | none =>
    rw [q] at c
    cases c
  | some o =>
    obtain ⟨oc, od, dt, osl⟩ := o
    rw [q] at c e
    cases dt with
    | func fd =>
      obtain ⟨m1, m2, m3, m4, m5, m6, m7, m8, m9, m10, m11, m12, m13, m14, m15⟩ := fd
      have e2 : (some (m1, m2, m3, m4, m5, m6, m7, m8, m15) : He.FnV) = some (d.name, d.qual, defArgs d.st, .stmts (defBody d.st), defScope d.st, mainGlobals, [], .none, builtinsNs) := e
      simp only [Option.some.injEq, Prod.mk.injEq] at e2
      obtain ⟨g1, g2, g3, g4, g5, g6, g7, g8, g9⟩ := e2
      subst g1 g2 g3 g4 g5 g6 g7 g8 g9
      exact ⟨oc, od, osl, m9, m10, m11, m12, m13, m14, rfl, c⟩
    | _ => cases c
def obsY (tab : PySem.W.Frag → Bool) (fn : List FnX) (K : PySem.W.Frag) : AlX := (tab K && fn.all fun d => PySem.W.keepIn K (.ref (d.ad K)) && codeA K (d.ad K) d.qual, fn.map fun d => fnObsA K (d.ad K))
def SaysY (tab : PySem.W.Frag → Bool) (fn : List FnX) (K : PySem.W.Frag) : Prop := obsY tab fn K = (true, fn.map FnX.val)
def obsYG (n : Nat) (tab : PySem.W.Frag → Bool) (fn : List FnX) (g : Addr → Option Obj) : AlX := obsY tab fn (He.frG g (He.asG g n))
def hookY (n : Nat) (tab : PySem.W.Frag → Bool) (fn : List FnX) : PySem.W.Hook where
  α := AlX
  obs := fun s => obsYG n tab fn s.heap.get?
  val := fun _ => (true, fn.map FnX.val)
  says := fun _ h => ∃ K : PySem.W.Frag, K.In h ∧ SaysY tab fn K
  of := fun _ _ e => ⟨_, He.frG_in, e⟩
  keeps := fun _ _ _ ⟨K, hK, c⟩ k => ⟨K, PySem.W.Frag.In.keeps hK k, c⟩
theorem obsYG_eq {n : Nat} {tab : PySem.W.Frag → Bool} {fn : List FnX} {g : Addr → Option Obj} {s : Shared} (h : ∀ a, g a = s.heap.get? a) : obsYG n tab fn g = (hookY n tab fn).obs s := by
  obtain rfl : g = s.heap.get? := funext h
  rfl
section
variable {tab : PySem.W.Frag → Bool} {fn : List FnX} {K : PySem.W.Frag}
theorem SaysY.facts (c : SaysY tab fn K) : tab K = true := (He.ba (show (tab K && fn.all fun d => PySem.W.keepIn K (.ref (d.ad K)) && codeA K (d.ad K) d.qual) = true from congrArg Prod.fst c)).1
theorem SaysY.fun_ (c : SaysY tab fn K) (i : Nat) {d : FnX} (h : fn[i]? = some d) : ∃ fd, Fun K d.name d.qual d.st (d.ad K) fd := by
  have c2 := (He.ba (show (tab K && fn.all fun d => PySem.W.keepIn K (.ref (d.ad K)) && codeA K (d.ad K) d.qual) = true from congrArg Prod.fst c)).2
  obtain ⟨k1, k2⟩ := He.ba (List.all_eq_true.mp c2 d (List.mem_of_getElem? h))
  have e1 : fn.map (fun d => fnObsA K (d.ad K)) = fn.map FnX.val := congrArg Prod.snd c
  have e2 : (fn.map fun d => fnObsA K (d.ad K))[i]? = (fn.map FnX.val)[i]? := by rw [e1]
  rw [List.getElem?_map, List.getElem?_map, h] at e2
  obtain ⟨oc, od, osl, kV, doc, pm, an, cdv, ct, lk, hc⟩ := fnA_ok (Option.some.inj e2) k2
  exact ⟨_, ⟨⟨oc, od, kV, doc, pm, an, cdv, ct, osl, rfl, lk, hc⟩, k1⟩⟩
end
/-- a global's function, a class's method, a property's getter -/
def gAd (x : Str) : PySem.W.Frag → Addr := fun K => He.ga K x
def mAd (C m : Str) : PySem.W.Frag → Addr := fun K => He.ma K (He.ga K C) m
def pAd (C m : Str) : PySem.W.Frag → Addr := fun K => match PySem.W.recIn K (He.ma K (He.ga K C) m) "property" with
  | some (.ref g :: _) => g
  | _ => 0
/-- a property's facts -/
def propB (K : PySem.W.Frag) (C m : Str) : Bool := He.eqO (PySem.W.findIn K (.ref (He.ga K C)) m) (some (some (.ref (He.ma K (He.ga K C) m)))) && (He.eqO (PySem.W.specialIn K (.ref (He.ma K (He.ga K C) m)) "__get__") (some (some (.builtin "property.__get__"))) &&
  (decide (PySem.W.takesIn K (.ref (He.ma K (He.ga K C) m)) = some true) && (match PySem.W.recIn K (He.ma K (He.ga K C) m) "property" with
    | some (.ref _ :: _) => true
    | _ => false)))
theorem prop_ok {K : PySem.W.Frag} {C m : Str} (q : propB K C m = true) : PropOf K (He.ga K C) m (He.ma K (He.ga K C) m) (pAd C m K) := by
  obtain ⟨q1, q⟩ := He.ba q
  obtain ⟨q2, q⟩ := He.ba q
  obtain ⟨q3, q4⟩ := He.ba q
  refine ⟨He.eqO_ok q1, He.eqO_ok q2, of_decide_eq_true q3, ?_⟩
  unfold pAd
  split at q4
  · rename_i g r e
    rw [e]
    exact ⟨r, rfl⟩
  · cases q4
end Gd
set_option Elab.async false
set_option linter.all false
set_option maxRecDepth 100000
set_option maxHeartbeats 4000000
/-! A head by one run, as HY's, and of some defs the tables of their code, still empty. -/
namespace Gd
open PySem PySem.Spec PyProof.Rows L2
def obsZG (n : Nat) (tab : PySem.W.Frag → Bool) (fn : List FnX) (tf : List He.Defn) (g : Addr → Option Obj) : AlX :=
  ((obsY tab fn (He.frT g (He.asG g n))).1 && He.tabsB g tf (He.frT g (He.asG g n)), (obsY tab fn (He.frT g (He.asG g n))).2)
structure SaysZ (tab : PySem.W.Frag → Bool) (fn : List FnX) (tf : List He.Defn) (h : Heap) (K : PySem.W.Frag) : Prop where
  y : SaysY tab fn K
  hd : ∀ p ∈ tf, PySem.W.codeHdIn K (He.cT K p).1 (He.cT K p).2 = true
  out : ∀ p ∈ tf, K.lookup (He.cT K p).2 = none
  emp : ∀ p ∈ tf, h.get? (He.cT K p).2 = some { cls := .none, data := .fields #[] }
theorem saysZ_of {n : Nat} {tab : PySem.W.Frag → Bool} {fn : List FnX} {tf : List He.Defn} {h : Heap} (e : obsZG n tab fn tf h.get? = (true, fn.map FnX.val)) : SaysZ tab fn tf h (He.frT h.get? (He.asG h.get? n)) := by
  have e1 : ((obsY tab fn (He.frT h.get? (He.asG h.get? n))).1 && He.tabsB h.get? tf (He.frT h.get? (He.asG h.get? n))) = true := congrArg Prod.fst e
  have e2 : (obsY tab fn (He.frT h.get? (He.asG h.get? n))).2 = fn.map FnX.val := congrArg Prod.snd e
  obtain ⟨q1, q2⟩ := He.ba e1
  have all : ∀ p ∈ tf, PySem.W.codeHdIn (He.frT h.get? (He.asG h.get? n)) (He.cT (He.frT h.get? (He.asG h.get? n)) p).1 (He.cT (He.frT h.get? (He.asG h.get? n)) p).2 = true ∧ ∃ o, h.get? (He.cT (He.frT h.get? (He.asG h.get? n)) p).2 = some o ∧ He.emptyTab o = true := by
    intro p hp
    obtain ⟨z1, z2⟩ := He.ba (List.all_eq_true.mp q2 p hp)
    refine ⟨z1, ?_⟩
    split at z2
    · rename_i o eo
      exact ⟨o, eo, z2⟩
    · cases z2
  refine ⟨Prod.ext q1 e2, fun p hp => (all p hp).1, fun p hp => ?_, fun p hp => ?_⟩
  · obtain ⟨_, o, eo, em⟩ := all p hp
    exact He.frT_none eo em
  · obtain ⟨_, o, eo, em⟩ := all p hp
    rw [eo, He.emptyTab_eq em]
def hookZ (n : Nat) (tab : PySem.W.Frag → Bool) (fn : List FnX) (tf : List He.Defn) : PySem.W.Hook where
  α := AlX
  obs := fun s => obsZG n tab fn tf s.heap.get?
  val := fun _ => (true, fn.map FnX.val)
  says := fun _ h => ∃ K : PySem.W.Frag, K.In h ∧ SaysZ tab fn tf h K
  of := fun _ _ e => ⟨_, He.frT_in, saysZ_of e⟩
  keeps := fun _ _ _ ⟨K, hK, c⟩ k => ⟨K, PySem.W.Frag.In.keeps hK k, c.y, c.hd, c.out, fun p hp => k _ _ (c.emp p hp)⟩
theorem obsZG_eq {n : Nat} {tab : PySem.W.Frag → Bool} {fn : List FnX} {tf : List He.Defn} {g : Addr → Option Obj} {s : Shared} (h : ∀ a, g a = s.heap.get? a) : obsZG n tab fn tf g = (hookZ n tab fn tf).obs s := by
  obtain rfl : g = s.heap.get? := funext h
  rfl
end Gd
set_option Elab.async false
set_option linter.all false
set_option maxRecDepth 100000
set_option maxHeartbeats 4000000
/-! Exceptions of own classes as values: made (by place and by name), their fields read, their classes asked. -/
namespace Gd
open PySem PySem.Spec PyProof.Rows L2
open PySem.W (excInitIn excOver excTail)

/-- what is asked of an exception class of one's own over the built-in class B -/
structure XC (K : PySem.W.Frag) (C : Addr) : Prop where
  base : ∃ (B nid iid : String) (tl : List Value), ExcBaseFacts B nid iid tl ∧ StoreFacts B tl "object.__setattr__" "object" ∧ excInitIn K C tl nid = true ∧ excOver K C tl = true
  hd : PySem.W.hasDictIn K C = true
  sa : PySem.W.findIn K (.ref C) "__setattr__" = some (some (.builtin "object.__setattr__"))
  ga : PySem.W.findIn K (.ref C) "__getattribute__" = some (some (.builtin "BaseException.__getattribute__"))
  gg : PySem.W.findIn K (.ref C) "__getattr__" = some none
  sB : PySem.W.subIn K (.ref C) (.type "BaseException") = some true
  ca : PySem.W.findIn K (.ref C) "__class__" = some (some (.builtin "object.__class__"))
  cn : PySem.W.specialIn K (.builtin "object.__class__") "__get__" = some (some (.builtin "getset_descriptor.__get__"))
  ct : PySem.W.takesIn K (.builtin "object.__class__") = some true
  mo : PySem.W.mroIn K C (.type "object") = some true
  kp : PySem.W.keepIn K (.ref C) = true
/-- its instance at a, with these fields -/
def ErrAt (H : Hp) (a C : Addr) (fs : List (Str × V)) : Prop := ∃ d, H a = some (exo a C (some d)) ∧ H d = some (exd d fs)
theorem ErrAt.keep {H H' : Hp} {a C : Addr} {fs : List (Str × V)} (h : ErrAt H a C fs) (s : Same H H') : ErrAt H' a C fs := by
  obtain ⟨d, h1, h2⟩ := h
  exact ⟨d, s _ _ h1, s _ _ h2⟩

/-! ### the first store of a field, a further one -/
section
variable {prog : Program} {w : World} {A : Around} {E : Value → Shared → Prop} {R : Result → Shared → Prop} {hp : Heap} {g : Array GenState} {d : Drawn} {t : Nat} {os : OsState}
theorem store_first {K : PySem.W.Frag} {name : Str} {tk : Tok} {v : Value} {x C t1 : Addr} {B : String} {tl : List Value} (SF : StoreFacts B tl "object.__setattr__" "object") (X : K.In hp)
    (hx : hp.get? x = some { cls := .ref C, data := .fields #[.ref t1, .none, .none, .none, .bool false, .none] }) (ho : excOver K C tl = true) (hd : PySem.W.hasDictIn K C = true) (ht : PySem.W.takerIn K C name = some none)
    (hq : ∀ h' tk' dx, (∀ b o, b ≠ x → hp.get? b = some o → h'.get? b = some o) → hp.objs.size ≤ dx → dx ≠ x → h'.get? x = some { cls := .ref C, dict := some dx, data := .fields #[.ref t1, .none, .none, .none, .bool false, .none] } →
      h'.Ns1 dx (fun y => if y = name then some v else none) → R (.ok (.ret .none)) ⟨h', g, d, tk', os⟩) :
    codeAny (model prog w) A (.call (.builtin "object.__setattr__") ⟨[.ref x, .str name tk, v], []⟩) R ⟨hp, g, d, t, os⟩ := by
  refine PySem.W.osa_openX (od := none) SF X ⟨hx, rfl, rfl, trivial⟩ ho ht fun b => ?_
  obtain ⟨cd, hc, hd'⟩ := PySem.W.any_some hd
  have hxs : x ≠ hp.objs.size := Nat.ne_of_lt (Heap.lt_size hx)
  refine wpAny_bind (wpAny_pure (wpAny_bind (PySem.W.instanceDict_exc (c2 := .none) hx (PySem.W.looks_clsIn X hc) hd' ?_)))
  show wpAny _ _ (Builtin.ObjectAttr.storeInDict hp.objs.size (.str name tk) name v) _ _ _
  refine HandSPX.store_in_new ?_ ?_
  · exact ⟨_, #[], _, (Heap.get?_update_ne _ _ _ _ hxs.symm).trans (Heap.get?_push_at rfl rfl), rfl, fun e he => absurd he (by simp), fun _ => rfl⟩
  · intro h' tk' hn' hs
    have hx2 : (hp.push (PySem.W.dictOf [] 0)).get? x = some { cls := .ref C, data := .fields #[.ref t1, .none, .none, .none, .bool false, .none] } := Heap.get?_push_of_some _ hx
    refine hq h' tk' hp.objs.size (fun b o hb q => ?_) (Nat.le_refl _) hxs.symm ?_ hn'
    · exact (hs.2 b (Nat.ne_of_lt (Heap.lt_size q))).trans ((Heap.get?_update_ne _ _ _ _ hb).trans (Heap.get?_push_of_some _ q))
    · exact (hs.2 x hxs).trans (Heap.get?_update_self _ hx2 rfl)
end

section
variable {X : Cx} {pins : List (Addr × Obj)} {σ : L2.St} {H : Hp} {s : Shared} {a C dx : Addr} {f : Str} {y : V} {u : Value} {fs : List (Str × V)} {Q : Unit → Shared → Prop} {E : Value → Shared → Prop} {A : Around}
/-- self.f = y on an exception without a dict -/
theorem est_first (T : XC X.K C) (I : Inv X pins σ H s) (e : H a = some (exo a C none)) (ht : PySem.W.takerIn X.K C f = some none) (ry : RelV y u)
    (h : ∀ dx s', H dx = none → dx ≠ a → Inv X pins σ (upd (upd H dx (exd dx [(f, y)])) a (exo a C (some dx))) s' → Q () s') : wpAny (model X.prog X.w) A (setAttr (.ref a) f u) Q E s := by
  obtain ⟨B, nid, iid, tl, FB, SF, hin, hov⟩ := T.base
  obtain ⟨t1, ho⟩ := exo_at I.hok e
  obtain ⟨hp, g, d, t, os⟩ := s
  refine PySem.W.set_plain I.kIn (ox := { cls := .ref C, dict := none, data := .fields #[.ref t1, .none, .none, .none, .bool false, .none] }) (od := none) ⟨ho, rfl, rfl, trivial⟩ T.sa ?_
  refine store_first SF I.kIn ho hov T.hd ht fun h' tk' dx k dn dne hx hn => ?_
  have n1 : H dx = none := I.hok.fresh dn
  have old : ∀ {b : Addr} {o : Obj}, hp.get? b = some o → b ≠ dx := by
    intro b o q z
    have := Heap.lt_size q
    rw [z] at this
    exact absurd dn (Nat.not_le.mpr this)
  have offA : ∀ {b : Addr}, H b = none → b ≠ a := by
    intro b n z
    rw [z, e] at n
    cases n
  have onA : ∀ {b : Addr} {o : HO}, H b = some o → o ≠ exo a C none → b ≠ a := by
    intro b o q n z
    rw [z, e] at q
    exact n (Option.some.inj q).symm
  have un : Un X.fs [] H (upd (upd H dx (exd dx [(f, y)])) a (exo a C (some dx))) hp h' := by
    constructor
    · intro b o q n _ _
      exact k b o (offA n) q
    · intro b o q n _ _
      exact ⟨o.slots, k b o (offA n) q⟩
    · intro b o q n _
      rw [upd_ne (offA n), upd_ne (old q)]
      exact n
    · intro b o q _
      by_cases hb : b = a
      · subst hb
        exact ⟨_, hx⟩
      · exact ⟨o, k b o hb q⟩
    · intro b xs q
      rw [upd_ne (onA q (fun z => exo_tup z.symm)), upd_ne (ne_of_none q n1)]
      exact q
    · intro b o v q
      rw [upd_ne (onA q (fun z => exo_frz z.symm)), upd_ne (ne_of_none q n1)]
      exact q
    · intro b ps q
      refine ⟨#[], ?_⟩
      rw [upd_ne (onA q (fun z => exo_tbl z.symm)), upd_ne (ne_of_none q n1), q]
      simp
  refine h dx _ n1 dne (I.un (t' := tk') un fun b o q => ?_)
  by_cases hb : b = a
  · subst hb
    rw [upd_same] at q
    cases q
    exact exo_ok hx
  rw [upd_ne hb] at q
  by_cases hd : b = dx
  · subst hd
    rw [upd_same] at q
    cases q
    exact exd_ok hn (relO_put (fs := []) ry fun g => True.intro)
  rw [upd_ne hd] at q
  refine (I.hok b o q).stay (fun c v hc z => k c v ?_ z) (fun c hc => ?_) fun c xs hc => ?_
  · rcases hc with hc | hc
    · rw [hc]
      exact hb
    · exact onA hc (fun z => exo_own z.symm)
  · rw [upd_ne (onA hc (fun z => exo_own z.symm)), upd_ne (ne_of_none hc n1)]
    exact hc
  · rw [upd_ne (onA hc (fun z => exo_tup z.symm)), upd_ne (ne_of_none hc n1)]
    exact hc
end
end Gd
set_option Elab.async false
set_option linter.all false
set_option maxRecDepth 100000
set_option maxHeartbeats 4000000
namespace PySem
namespace Gk
open PySem.W PySem.Calls PyProof.Rows PySem.HandSPX
open Builtin Builtin.ObjectAttr
section
variable {M : Model} {A : Around} {E : Value → Shared → Prop} {h : Heap} {g : Array GenState} {d : Drawn} {t : Nat} {os : OsState}
variable {nm q : Str} {C N : Addr} {bs bm bmB : List Value} {hdct : Bool} {sn : List Str} {sub : List Value} {ab : Bool} {col : Option Bool} {dd : Option Addr} {k0 k1 k2 k3 k5 : Option Value} {B newId initId : String}
theorem check_kw (F : ExcBaseFacts B newId initId bmB) (hT : ∀ X : String, bm.contains (.type X) = bmB.contains (.type X)) {rest : List Value} {kw : List (Str × Value)} {Q : Unit → Shared → Prop}
    (hC : h.get? C = some (excClassObj nm q C N bs bm hdct sn sub ab col dd k0 k1 k2 k3 k5 newId)) (hq : Q () ⟨h, g, d, t, os⟩) : wpAny M A (checkBuiltinCall newId ⟨.ref C :: rest, kw⟩) Q E ⟨h, g, d, t, os⟩ := by
  have c1 : (Value.ref C :: bm).contains (.type B) = true := by rw [List.contains_cons, hT, F.hasB, Bool.or_true]
  have c2 := F.noStar
  simp only [checkBuiltinCall, F.newKind, F.newSplit, F.newRow]
  repeat (first | refine wpAny_loadPart_at hC ?_ | (refine wpAny_isSubtype_exc hC ?_; rw [c1]) | refine wpAny_staticBase_exc hC ?_ | refine wpAny_madeBy_exc hC ?_ | simp only [bne_self_eq_false, Bool.false_eq_true, if_false] | wp_step)
  exact hq
end
section
variable {prog : Program} {w : World} {A : Around} {E : Value → Shared → Prop} {R : Result → Shared → Prop} {h : Heap} {g : Array GenState} {d : Drawn} {t : Nat} {os : OsState}
variable {nm q : Str} {C N : Addr} {bs bm bmB : List Value} {hdct : Bool} {sn : List Str} {sub : List Value} {ab : Bool} {col : Option Bool} {dd : Option Addr} {k0 k1 k2 k3 k5 : Option Value} {B newId initId : String}
theorem new_kw (F : ExcBaseFacts B newId initId bmB) (hT : ∀ X : String, bm.contains (.type X) = bmB.contains (.type X)) {rest : List Value} {kw : List (Str × Value)}
    (hC : h.get? C = some (excClassObj nm q C N bs bm hdct sn sub ab col dd k0 k1 k2 k3 k5 newId))
    (hq : R (.ok (.ret (.ref (h.objs.size + 1)))) ⟨(h.push (PySem.W.kdv_tup rest)).push (excO C h.objs.size), g, d, t, os⟩) (hrest : rest.length ≤ sizeLine) :
    codeAny (model prog w) A (.builtin newId ⟨.ref C :: rest, kw⟩) R ⟨h, g, d, t, os⟩ := by
  have e0 := F.ends
  have c1 : (Value.ref C :: bm).contains (.type B) = true := by rw [List.contains_cons, hT, F.hasB, Bool.or_true]
  have c2 : (Value.ref C :: bm).contains (.type "AttributeError") = false := by rw [List.contains_cons, hT, F.noAttr]; rfl
  have c3 : (Value.ref C :: bm).contains (.type "NameError") = false := by rw [List.contains_cons, hT, F.noName]; rfl
  refine codeAny_builtinAt F.entry ?_
  unfold Builtin.«BaseException.__new__»
  refine wpAt_bind ?_
  show wpAt _ _ _ (stack >>= _) _ _ _
  refine wpAt_bind (wpAt_stack fun p below => wpAt_of_wpAny ?_)
  wp_walk
  refine wpAt_of_wpAny ?_
  rw [F.owner]
  repeat (first | with_reducible refine wpAny_madeHere_exc F.canon hC ?_ | with_reducible refine wpAny_loadPart_at hC ?_ | (with_reducible refine wpAny_isSubtype_exc hC ?_; first | rw [c1] | rw [c2] | rw [c3]) | wp_step)
  show R _ _
  rw [Heap.size_push]
  exact hq
theorem type_call_kw (F : ExcBaseFacts B newId initId bmB) (hT : ∀ X : String, bm.contains (.type X) = bmB.contains (.type X)) {rest : List Value} {kw : List (Str × Value)} {fI : Addr} {Q : Fin → Shared → Prop}
    (hC : h.get? C = some (excClassObj nm q C N bs bm hdct sn sub ab col dd k0 k1 k2 k3 k5 newId))
    (hi : W.Looks (model prog w) h (typeLookup (.ref C) "__init__") (some (.ref fI))) (hb : ∀ self, W.Looks (model prog w) h (bindSpecial (.ref fI) self) (.ref fI, [self])) (hrest : rest.length ≤ sizeLine)
    (hq : codeAny (model prog w) A (.call (.ref fI) ⟨.ref (h.objs.size + 1) :: rest, kw⟩)
      (fun r s' => match r with | .ok (.ret v) => v = .none ∧ Q (.done (.ret (.ref (h.objs.size + 1)))) s' | .ok _ => False | .error e => E e s')
      ⟨(h.push (W.kdv_tup rest)).push (excO C h.objs.size), g, d, t, os⟩) :
    wpAny (model prog w) A (Builtin.«type.__call__» ⟨.ref C :: rest, kw⟩) Q E ⟨h, g, d, t, os⟩ := by
  repeat (first | with_reducible refine wpAny_loadPart_at hC ?_ | with_reducible refine wpAny_madeBy_exc hC ?_ | wp_step)
  refine codeAny_call_builtin_code (Code.quiet_builtin _ F.quiet) (check_kw F hT hC ?_)
  refine new_kw F hT hC ?_ hrest
  show wpAny _ _ _ _ _ _
  have k : ∀ b o, h.get? b = some o → ((h.push (W.kdv_tup rest)).push (excO C h.objs.size)).get? b = some o := fun b o e => Heap.get?_push_of_some _ (Heap.get?_push_of_some _ e)
  have g1 := k _ _ hC
  have g2 : ((h.push (W.kdv_tup rest)).push (excO C h.objs.size)).get? (h.objs.size + 1) = some (excO C h.objs.size) := by heap_get
  have c1 : (Value.ref C :: bm).contains (.ref C) = true := by simp
  have i1 := hi.keeps k
  have b1 := (hb (.ref (h.objs.size + 1))).keeps k
  unfold isInstance
  repeat (first | with_reducible refine wpAny_loadPart_at g2 ?_ | (with_reducible refine wpAny_isSubtype_exc g1 ?_; rw [c1]) | wp_step)
  show wpAny _ _ (typeLookup (.ref C) _) _ _ _
  refine i1.at ?_
  refine wpAny_holding (wpAny_bind (b1.at ?_))
  refine wpAny_bind (wpAny_call (codeAny_mono hq fun r s' z => ?_))
  rcases r with e | (v | _ | _ | _) <;> first | exact z | exact z.elim | skip
  obtain ⟨rfl, z⟩ := z
  first
    | exact wpAny_pure (wpAny_pure z)
    | (wp_walk; exact z)
theorem call_kw (F : ExcBaseFacts B newId initId bmB) (hT : ∀ X : String, bm.contains (.type X) = bmB.contains (.type X)) {rest : List Value} {kw : List (Str × Value)} {fI : Addr}
    (hC : h.get? C = some (excClassObj nm q C N bs bm hdct sn sub ab col dd k0 k1 k2 k3 k5 newId))
    (hi : W.Looks (model prog w) h (typeLookup (.ref C) "__init__") (some (.ref fI))) (hb : ∀ self, W.Looks (model prog w) h (bindSpecial (.ref fI) self) (.ref fI, [self])) (hrest : rest.length ≤ sizeLine)
    (hq : codeAny (model prog w) (A.under (.builtin "type.__call__" ⟨.ref C :: rest, kw⟩)) (.call (.ref fI) ⟨.ref (h.objs.size + 1) :: rest, kw⟩) (W.InitBack (h.objs.size + 1) R)
      ⟨(h.push (W.kdv_tup rest)).push (excO C h.objs.size), g, d, t, os⟩) :
    codeAny (model prog w) A (.call (.ref C) ⟨rest, kw⟩) R ⟨h, g, d, t, os⟩ := by
  have f1 := tc_lookup
  have f2 := tc_bind (.ref C)
  have hTy : (⟨h, g, d, t, os⟩ : Shared).TypeIs (.ref C) "type" := ⟨_, hC, rfl⟩
  refine codeAny_of_tree ?_
  show wpAny _ _ (callAny (.ref C) _) _ _ _
  repeat (any_goals (first | assumption | with_reducible refine wpAny_loadPart_at hC ?_ | wp_step))
  refine ⟨rfl, ?_⟩
  refine codeAny_call_builtin_at (Code.quiet_builtin _ (by decide +kernel)) entry_typeCall (wpAny_check_type_call_sub hC (type_call_kw F hT hC hi hb hrest ?_))
  refine codeAny_mono hq fun r s' z => ?_
  rcases r with e | (v | _ | _ | _) <;> exact z
end
end Gk
end PySem
set_option Elab.async false
set_option linter.all false
set_option maxRecDepth 100000
set_option maxHeartbeats 4000000
namespace Gd
open PySem PySem.Spec PyProof.Rows L2
open PySem.W (excInitIn excOver excTail)
section
variable {X : Cx} {pins : List (Addr × Obj)} {σ : L2.St} {H : Hp} {s : Shared} {a C dx : Addr} {f : Str} {y : V} {u : Value} {fs : List (Str × V)} {E : Value → Shared → Prop} {A : Around}
/-- self.f = y, a further field -/
theorem est_more {Q : Unit → Shared → Prop} (T : XC X.K C) (I : Inv X pins σ H s) (e : H a = some (exo a C (some dx))) (ed : H dx = some (exd dx fs)) (hl : fs.length ≤ 900) (ht : PySem.W.takerIn X.K C f = some none) (ry : RelV y u)
    (h : ∀ s', Inv X pins σ (upd H dx (exd dx ((f, y) :: fs))) s' → Q () s') : wpAny (model X.prog X.w) A (setAttr (.ref a) f u) Q E s := by
  obtain ⟨B, nid, iid, tl, FB, SF, hin, hov⟩ := T.base
  obtain ⟨t1, ho⟩ := exo_at I.hok e
  obtain ⟨mA, hns, rel⟩ := exd_at I.hok ed
  have hw := within_of rel
  obtain ⟨hp, g, d, t, os⟩ := s
  obtain ⟨oD, _, _, hoD, _, _⟩ := hns.count hw
  have inst : PySem.W.InstAt hp a { cls := .ref C, dict := some dx, data := .fields #[.ref t1, .none, .none, .none, .bool false, .none] } C (some oD) := ⟨ho, rfl, rfl, hoD⟩
  refine PySem.W.set_plain I.kIn inst T.sa ?_
  refine PySem.W.osa_openX (s := ⟨hp, g, d, t + 1, os⟩) SF I.kIn inst hov ht fun b => ?_
  obtain ⟨cd, hc, hd'⟩ := PySem.W.any_some T.hd
  refine wpAny_bind (wpAny_pure (wpAny_bind (wpAny_bind (wpAny_loadPart ho (wpAny_bind ((PySem.W.looks_clsIn (h := hp) I.kIn hc).at ?_))))))
  rw [hd']
  refine wpAny_pure (a := some dx) ?_
  refine PySem.OEX.store_in_old hns hw (by rw [List.length_map]; omega) fun h' tk' hn hs => ?_
  have hd : ∃ o, h'.get? dx = some o := by
    obtain ⟨o, _, _, e', _⟩ := hn
    exact ⟨o, e'⟩
  exact h _ (I.write (t' := tk') (x := dx) (e := dx) (o := exd dx ((f, y) :: fs)) (by rw [ed]; exact True.intro) (.inl rfl) (fun b o hb ho => (hs.2 b hb).trans ho) hd (exd_ok hn (relO_put ry rel)))
end
/-- self.f = e in an exception's __init__ -/
def tEst (K : PySem.W.Frag) (f : Str) (to te : TE) : TS := fun D σ H => te σ H fun y H1 => to σ H1 fun x H2 => ∃ a C : Addr, x = .ref a ∧ XC K C ∧ PySem.W.takerIn K C f = some none ∧
  ((H2 a = some (exo a C none) ∧ ∀ dx, H2 dx = none → dx ≠ a → D.nx σ (upd (upd H2 dx (exd dx [(f, y)])) a (exo a C (some dx)))) ∨
    ∃ (dx : Addr) (fs : List (Str × V)), H2 a = some (exo a C (some dx)) ∧ H2 dx = some (exd dx fs) ∧ fs.length ≤ 900 ∧ D.nx σ (upd H2 dx (exd dx ((f, y) :: fs))))
theorem ps_est {X : Cx} {o e : Expr} {to te : TE} {f : Str} {p' pos : Pos} (ho : PE X o to) (he : PE X e te) (hs : swapsWith e (some (.Attribute o f p')) pos.line X.env = pure false := by rfl) : PS X (.Assign [.Attribute o f p'] e pos) (tEst X.K f to te) := by
  constructor
  intro pins s σ H D I h
  refine plainObj_wpAny_Assign_Attribute (thn (he.run pins s σ H _ I h) fun v s1 z1 => ?_) hs
  obtain ⟨y, H1, I1, r1, q1⟩ := z1
  refine thn (ho.run pins s1 σ H1 _ I1 q1) fun u s2 z2 => ?_
  obtain ⟨x, H2, I2, r2, a, C, ex, T, ht, q⟩ := z2
  subst ex
  have eu : u = Value.ref a := r2
  subst eu
  rcases q with ⟨ea, q⟩ | ⟨dx, fs, ea, ed, hl, q⟩
  · exact est_first T I2 ea ht r1 fun dx s' n ne J => ⟨σ, _, J, q dx n ne⟩
  · exact est_more T I2 ea ed hl ht r1 fun s' J => ⟨σ, _, J, q⟩

/-! ### C(e, ..), C(k = v, ..): the instance as a value -/
section
variable {X : Cx} {CX : CXT} {k : Nat} {f C : Addr} {fd : FuncData} {ps ks : List Str} {sp : Sp} {E : XK} {x : Str} {p pos : Pos} {e : Expr} {es : List Expr} {kws : List Keyword} {t tk : TA}
/-- C(..) whose __init__ is the def at f -/
structure Ini (K : PySem.W.Frag) (C f : Addr) : Prop where
  xc : XC K C
  at_ : PySem.W.findIn K (.ref C) "__init__" = some (some (.ref f))
  ty : PySem.W.typeIn K (.ref f) = some (.type "function")
def tErr (C : Addr) (sp : Sp) (dvs : List V) (E : XK) (t : TA) : TE := fun σ H Q => t σ H fun vs H1 => vs.length ≤ 1000 ∧ ∀ a, H1 a = none → sp (.ref a :: (vs ++ dvs)) (upd H1 a (exo a C none)) (fun v H2 => v = .non ∧ Q (.ref a) H2) E
theorem run_err {pins : List (Addr × Obj)} {σ : L2.St} {H : Hp} {s : Shared} {Q : VK} {us ws : List Value} {kw : List (Str × Value)} {zs : List V} (N : Ini X.K C f) (F : FnOk X.prog X.w X.K X.mg X.base CX k f fd ps sp) (hR : Room (k + 1) X.A) (hx : Passes CX X E)
    (I : Inv X pins σ H s) (hl : us.length ≤ sizeLine) (hB : ∀ (s' : Shared) (self : Value), X.K.In s'.heap → BindsTo s' fd ⟨self :: us, kw⟩ (ps.zip (self :: ws))) (hV : Vals zs ws)
    (h : ∀ a, H a = none → sp (.ref a :: zs) (upd H a (exo a C none)) (fun v H2 => v = .non ∧ Q (.ref a) H2) E) : wpAny (model X.prog X.w) X.A (call (.ref C) us kw) (EP X pins σ Q) X.xe s := by
  obtain ⟨B, nid, iid, tl, FB, SF, hin, hov⟩ := N.xc.base
  obtain ⟨hp, g, dr, t0, os⟩ := s
  obtain ⟨nm, N', qn, bs, bm, hdct, sn, sub, ab, col, dd, k0, k1, k2, k3, k5, hC, hT⟩ := PySem.W.excInit_of I.kIn hin
  have le1 : hp.objs.size ≤ hp.objs.size + 1 := Nat.le_succ _
  have n1 : H (hp.objs.size + 1) = none := I.hok.fresh le1
  have q1 := h (hp.objs.size + 1) n1
  have kk : ∀ b o, hp.get? b = some o → ((hp.push (PySem.W.kdv_tup us)).push (PySem.HandSPX.excO C hp.objs.size)).get? b = some o := fun b o e => Heap.get?_push_of_some _ (Heap.get?_push_of_some _ e)
  have g1 : ((hp.push (PySem.W.kdv_tup us)).push (PySem.HandSPX.excO C hp.objs.size)).get? (hp.objs.size + 1) = some (PySem.HandSPX.excO C hp.objs.size) := by heap_get
  have I2 : Inv X pins σ (upd H (hp.objs.size + 1) (exo (hp.objs.size + 1) C none)) ⟨(hp.push (PySem.W.kdv_tup us)).push (PySem.HandSPX.excO C hp.objs.size), g, dr, t0, os⟩ :=
    I.laid (t' := t0) (a := hp.objs.size + 1) (o := exo (hp.objs.size + 1) C none) (h' := (hp.push (PySem.W.kdv_tup us)).push (PySem.HandSPX.excO C hp.objs.size)) kk le1 (exo_ok g1)
  have r2 : Vals (V.ref (hp.objs.size + 1) :: zs) (Value.ref (hp.objs.size + 1) :: ws) := .cons rfl hV
  have hR2 : Room k (X.A.under (.builtin "type.__call__" ⟨.ref C :: us, kw⟩)) := by
    have d1 : (X.A.under (.builtin "type.__call__" ⟨.ref C :: us, kw⟩)).depth = X.A.depth + 1 := by
      first | rfl | simp [Around.under, Code.weight, Code.isCreation, Code.isGuard, Code.isCaller, Code.frames, Code.isFrame, guardIds]
    have d2 : (X.A.under (.builtin "type.__call__" ⟨.ref C :: us, kw⟩)).units = X.A.units + 1 := by
      first | rfl | simp [Around.under, Code.cUnits, Code.frames, Code.isFrame]
    exact ⟨hR.hd, by have := hR.dp; rw [d1]; omega, by have := hR.un; rw [d2]; omega⟩
  have e0 := I2.env0
  have e1 : Env0 X.prog X.w X.K X.mg X.base (X.A.under (.builtin "type.__call__" ⟨.ref C :: us, kw⟩)) X.stack ⟨(hp.push (PySem.W.kdv_tup us)).push (PySem.HandSPX.excO C hp.objs.size), g, dr, t0, os⟩ (upd H (hp.objs.size + 1) (exo (hp.objs.size + 1) C none)) :=
    ⟨by first | exact e0.frames | (simpa [Around.under, Code.envs, Code.isFrame, pushEnvs] using e0.frames), e0.mod, e0.bs, e0.bsz, e0.funs, e0.frf, e0.hok, e0.bare⟩
  refine wpAny_call (PySem.Gk.call_kw FB hT hC (PySem.W.looks_findIn I.kIn N.at_) (fun self => PySem.W.bind_fn I.kIn self N.ty) hl
    (codeAny_mono (F.run _ X.stack _ _ ⟨Value.ref (hp.objs.size + 1) :: us, kw⟩ (Value.ref (hp.objs.size + 1) :: ws) _ _ E hR2 e1 (hB _ _ I2.kIn) r2 q1) fun r s' hq' => ?_))
  match r, hq' with
  | .error er, hq' => exact hx pins σ _ _ er s' I2 hq'
  | .ok (.ret u), hq' =>
    obtain ⟨v, H', I3, rv, ev, q3⟩ := I2.after hq'
    subst ev
    exact ⟨rv, ⟨V.ref (hp.objs.size + 1), H', I3, rfl, q3⟩⟩
  | .ok .next, hq' => exact False.elim hq'
  | .ok .brk, hq' => exact False.elim hq'
  | .ok .cont, hq' => exact False.elim hq'
theorem pe_err (N : Ini X.K C f) (F : FnOk X.prog X.w X.K X.mg X.base CX k f fd ps sp) (hR : Room (k + 1) X.A) (hg : Gl X x) (hm : X.mg x = some (.ref C)) (hb : Binds X.K fd ps []) (hx : Passes CX X E)
    (ha : PA X (e :: es) t) (hdb : (x == ("__debug__" : Str)) = false := by decide) (he : starEach (e :: es) X.env = (false, eval e X.env) :: starEach es X.env := by rfl) (hpl : (backTo pos (starEach es X.env)).any (·.1) = false := by rfl) :
    PE X (.Call (.Name x p) (e :: es) [] pos) (tErr C sp [] E t) := by
  constructor
  intro pins s σ H Q I h
  refine wpAny_Call_Name_kw (ld_glob I hg hm ?_ hdb)
  refine PySem.W.callWith_K (h₀ := X.base) I.ok.mod.kin N.xc.kp (thn (ha.run pos pins s σ H _ I h) fun us s2 z2 => ?_) he hpl
  obtain ⟨vs, H2, I2, r2, hz, q2⟩ := z2
  have el : us.length ≤ sizeLine := by
    rw [← Paired.length r2, sizeLine_eq]
    omega
  refine ⟨I2.kIn, ?_⟩
  have len : ∀ self : Value, ((self :: us) ++ ([] : List Value)).length = ps.length := fun self => by
    have q3 := F.len _ _ _ _ (q2 _ (I2.hok.fresh (Nat.le_refl _)))
    rw [List.append_nil] at q3 ⊢
    rw [← q3, List.length_cons, List.length_cons, ← Paired.length r2]
  refine run_err (ws := us) (zs := vs ++ []) N F hR hx I2 el (fun s' self ki => ?_) (by rw [List.append_nil]; exact r2) q2
  have := hb s' (self :: us) ki (len self)
  rw [List.append_nil] at this
  exact this
/-- how the keywords of C(k = v, ..) reach the parameters behind self -/
structure SBinds (K : PySem.W.Frag) (fd : FuncData) (ps ks : List Str) (g : List Value → List Value) (gV : List V → List V) : Prop where
  to : ∀ (s : Shared) (self : Value) (ws : List Value), K.In s.heap → ws.length = ks.length → BindsTo s fd ⟨[self], ks.zip ws⟩ (ps.zip (self :: g ws))
  rel : ∀ {zs : List V} {ws : List Value}, Vals zs ws → Vals (gV zs) (g ws)
def tErrK (C : Addr) (sp : Sp) (n : Nat) (gV : List V → List V) (E : XK) (tk : TA) : TE := fun σ H Q => tk σ H fun zs H1 => zs.length = n ∧ ∀ a, H1 a = none → sp (.ref a :: gV zs) (upd H1 a (exo a C none)) (fun v H2 => v = .non ∧ Q (.ref a) H2) E
theorem pe_errK {g : List Value → List Value} {gV : List V → List V} (N : Ini X.K C f) (F : FnOk X.prog X.w X.K X.mg X.base CX k f fd ps sp) (hR : Room (k + 1) X.A) (hg : Gl X x) (hm : X.mg x = some (.ref C)) (hb : SBinds X.K fd ps ks g gV) (hx : Passes CX X E)
    (hkw : PK X kws tk) (hall : (backToKw pos (keywordEach kws X.env)).all (·.1.isSome) = true := by rfl) (hks : (backToKw pos (keywordEach kws X.env)).filterMap (·.1) = ks := by rfl)
    (hdb : (x == ("__debug__" : Str)) = false := by decide)
    (hpl : ((backTo pos (starEach [] X.env)).any (·.1) || (backToKw pos (keywordEach kws X.env)).any (·.1.isNone)) = false := by rfl) :
    PE X (.Call (.Name x p) [] kws pos) (tErrK C sp ks.length gV E tk) := by
  constructor
  intro pins s σ H Q I h
  refine wpAny_Call_Name_kw (ld_glob I hg hm ?_ hdb)
  refine PySem.W.callWith_KW0 (first := []) (h₀ := X.base) I.ok.mod.kin N.xc.kp hall (thn (hkw.run pos pins s σ H _ I h) fun us s2 z2 => ?_) hpl
  obtain ⟨zs, H2, I2, r2, hz, q2⟩ := z2
  refine ⟨I2.kIn, ?_⟩
  rw [hks]
  have el : us.length = ks.length := by rw [← Paired.length r2]; exact hz
  exact run_err (us := []) (ws := g us) (zs := gV zs) N F hR hx I2 (Nat.zero_le _) (fun s' self ki => hb.to s' self us ki el) (hb.rel r2) q2
end
end Gd
set_option Elab.async false
set_option linter.all false
set_option maxRecDepth 100000
set_option maxHeartbeats 4000000
namespace Gd
open PySem PySem.Spec PyProof.Rows L2
open PySem.W (excInitIn excOver excTail)
theorem ErrAt.obj {P : Program} {w : World} {H : Hp} {h : Heap} {a C : Addr} {fs : List (Str × V)} (hok : HOk P w H h) (e : ErrAt H a C fs) :
    ∃ (ox od : Obj) (mA : Str → Option Value), PySem.W.InstAt h a ox C (some od) ∧ (∀ name, PySem.W.lookIn name od = some (mA name)) ∧ ∀ f, RelO (fs.lookup f) (mA f) := by
  obtain ⟨d, e1, e2⟩ := e
  obtain ⟨t1, ho⟩ := exo_at hok e1
  obtain ⟨mA, hns, rel⟩ := exd_at hok e2
  obtain ⟨od, hod, hl⟩ := lookIn_ns hns
  exact ⟨_, od, mA, ⟨ho, rfl, rfl, hod⟩, hl, rel⟩
/-- e.f of such an instance -/
def tEf (K : PySem.W.Frag) (f : Str) (te : TE) : TE := fun σ H Q => te σ H fun x H1 => ∃ (a C : Addr) (fs : List (Str × V)) (v : V), x = .ref a ∧ XC K C ∧ PySem.W.findIn K (.ref C) f = some none ∧ ErrAt H1 a C fs ∧ fs.lookup f = some v ∧ Q v H1
theorem pe_ef {X : Cx} {e : Expr} {te : TE} {pos : Pos} {f : Str} (he : PE X e te) (hb : attributeBase e f X.env (eval e X.env) = eval e X.env := by rfl) : PE X (.Attribute e f pos) (tEf X.K f te) := by
  constructor
  intro pins s σ H Q I h
  refine attr_of hb (thn (he.run pins s σ H _ I h) fun u s1 z => ?_)
  obtain ⟨x, H1, I1, rx, a, C, fs, v, ex, T, hno, ea, l, q⟩ := z
  subst ex
  have eu : u = Value.ref a := rx
  subst eu
  obtain ⟨ox, od, mA, J, hl, rel⟩ := ea.obj I1.hok
  obtain ⟨u2, hu, ru⟩ := RelO.some_of (v := v) (o := mA f) (by rw [← l]; exact rel f)
  exact HandSPX.exc_get I1.kIn J T.ga T.gg T.sB (PySem.W.findObj_own T.hd hno rfl (by rw [hl, hu])) (handed_of ru) ⟨v, H1, I1.tok _, ru, q⟩
/-- isinstance(e, c) of such an instance, or of one without fields -/
def rIsX (K : PySem.W.Frag) : List V → Hp → VK → Prop := fun xs H Q => ∃ (a C : Addr) (c : V) (u : Value) (b : Bool), xs = [.ref a, c] ∧ ClsV c u ∧ XC K C ∧ ((∃ fs, ErrAt H a C fs) ∨ H a = some (ExO (.ref C) a)) ∧ PySem.W.kitOne K (.ref C) u = some b ∧ Q (.bl b) H
theorem call_isX {X : Cx} : CallR X (.builtin "isinstance") (rIsX X.K) := by
  intro pins s σ H xs us Q I r h
  obtain ⟨a, C, c, u, b, rfl, k, T, ea, e, q⟩ := h
  obtain ⟨u1, u2, rfl, r1, r2⟩ := vals2 r
  have e2 := k.eq r2
  subst e2
  have e1 : u1 = Value.ref a := r1
  subst e1
  have hcl : (PySem.W.clsIn X.K C).isSome = true := by
    obtain ⟨cd, hc, _⟩ := PySem.W.any_some T.hd
    rw [hc]
    rfl
  rcases ea with ⟨fs, ea⟩ | ea
  · obtain ⟨ox, od, mA, J, hl, rel⟩ := ea.obj I.hok
    exact PySem.W.kia_one (PySem.W.kitx_exc hcl T.ga T.gg T.sB T.ca T.cn T.ct T.mo) I.kIn J e (fun z => nomatch z) fun tk => ⟨.bl b, H, I.tok tk, rfl, q⟩
  · obtain ⟨⟨oe, vs, ho, hz, hd, _⟩, _, _⟩ := (show ObjOk X.prog X.w H s.heap a (ExO (.ref C) a) from I.hok a _ ea)
    have J : PySem.W.InstAt s.heap a oe C none := by
      obtain ⟨oc, od, oda, osl⟩ := oe
      obtain ⟨h1, h2⟩ := hz
      dsimp only at h1 h2 hd
      subst h1 h2 hd
      exact ⟨ho, rfl, rfl, trivial⟩
    exact PySem.W.kia_one (PySem.W.kitx_exc hcl T.ga T.gg T.sB T.ca T.cn T.ct T.mo) I.kIn J e (fun z => nomatch z) fun tk => ⟨.bl b, H, I.tok tk, rfl, q⟩
/-- C() of a class without an __init__ of its own -/
theorem pe_err0 {X : Cx} {C : Addr} {bmB : List Value} {B nid iid : String} {x : Str} {p pos : Pos} (F : ExcBaseFacts B nid iid bmB) (q : PySem.W.excIn X.K C bmB nid = true) (gC : X.mg x = some (.ref C)) (kC : PySem.W.keepIn X.K (.ref C) = true) (hg : Gl X x)
    (hdb : (x == ("__debug__" : Str)) = false := by decide) : PE X (.Call (.Name x p) [] [] pos) (fun _ H Q => ∀ a, H a = none → Q (.ref a) (upd H a (ExO (.ref C) a))) := by
  constructor
  intro pins s σ H Q I h
  refine wpAny_Call_Name_kw (ld_glob I hg gC ?_ hdb)
  refine PySem.W.callWith_K0 I.kIn kC ?_
  show wpAny _ _ (call (.ref C) []) _ _ _
  obtain ⟨bm, N, nm, qn, bs, hdct, sn, sub, ab, col, dd, k0, k1, k2, k3, k5, mN, hC, hN, hni, T⟩ := exc_obj I.kIn q
  refine wpAny_call_exc_subT F T hC hN hni (fun h' a hm => ?_) (Nat.zero_le _)
  have hn : H a = none := I.hok.gone hm.new
  obtain ⟨t, ht, _, _⟩ := hm.there
  exact ⟨.ref a, upd H a (ExO (.ref C) a), I.laidN hm.keeps hm.new hn (exO_ok ht ⟨rfl, rfl⟩ rfl rfl rfl (show 4 < 6 by decide)), rfl, h a hn⟩
/-! ### list.count of a bool among bools -/
theorem countU {us : List Value} {bs : List Bool} (r : Vals (bs.map V.bl) us) : us.countP (eqU (.bl true)) = bs.count true := by
  induction bs generalizing us with
  | nil => cases r; rfl
  | cons b bs ih =>
    cases r with
    | cons r1 r2 =>
      rw [List.countP_cons, List.count_cons, ih r2, eqU_of r1 rfl]
      cases b <;> rfl
theorem mt_bcount {X : Cx} : MtR X "list.count" (fun x xs H Q => ∃ (p : Addr) (bs : List Bool), x = .ref p ∧ xs = [.bl true] ∧ SqL X.K H p (bs.map V.bl) ∧ Q (.int (bs.count true : Nat)) H) := by
  intro pins s σ H x xs v us Q I rx rxs h
  obtain ⟨p, bs, rfl, rfl, hs, q⟩ := h
  cases rx
  obtain ⟨u, rfl, ru⟩ := rxs.one
  obtain ⟨its, rv, ⟨⟨cls, dd, data, sl⟩, n, ho, hc, hdn, hd⟩, hlen⟩ := I.list hs
  simp only at hc hd
  subst hc hd
  have fl : (bs.map V.bl).all flatV = true := by
    rw [List.all_map, List.all_eq_true]
    intro b _
    rfl
  refine call_meets PySem.F.slot_list_count ⟨_, ho, rfl⟩ PySem.F.entry_list_count (PySem.F.args_list_count_2 _ _)
    (SeqAt.list_countAt p its.toArray n dd sl u (eqU (.bl true))) ⟨ho, fun y hy => mem_eqAt ru rfl rv fl y (by simpa using hy), ?_⟩
  have ec : its.toArray.toList.countP (eqU (.bl true)) = bs.count true := countU rv
  refine ⟨.int (bs.count true : Nat), H, I.tok _, ⟨s.toks, ?_⟩, q⟩
  show Value.int ((its.toArray.toList.countP (eqU (.bl true)) : Nat) : Int) s.toks = Value.int ((bs.count true : Nat) : Int) s.toks
  rw [ec]
end Gd
set_option Elab.async false
set_option linter.all false
set_option maxRecDepth 100000
set_option maxHeartbeats 4000000
namespace Gd
open PySem PySem.Spec PyProof.Rows L2
theorem PE.imp {X : Cx} {e : Expr} {t t' : TE} (h : PE X e t) (q : ∀ σ H Q, t' σ H Q → t σ H Q) : PE X e t' := ⟨fun pins s σ H Q I z => h.run pins s σ H Q I (q σ H Q z)⟩
theorem PA.imp {X : Cx} {es : List Expr} {t t' : TA} (h : PA X es t) (q : ∀ σ H Q, t' σ H Q → t σ H Q) : PA X es t' := ⟨fun pos pins s σ H Q I z => h.run pos pins s σ H Q I (q σ H Q z)⟩
theorem same_rfl {H : Hp} : Same H H := fun _ _ e => e

/-! ### a class with one field, with two -/
def spI1 (C : Addr) (f : Str) : Sp := fun vs H Q _ => ∃ (a : Addr) (v : V), vs = [.ref a, v] ∧ H a = some (exo a C none) ∧ ∀ d, H d = none → d ≠ a → Q .non (upd (upd H d (exd d [(f, v)])) a (exo a C (some d)))
def spI2 (C : Addr) (f g : Str) : Sp := fun vs H Q _ => ∃ (a : Addr) (v u : V), vs = [.ref a, v, u] ∧ H a = some (exo a C none) ∧ ∀ d, H d = none → d ≠ a → Q .non (upd (upd (upd H d (exd d [(f, v)])) a (exo a C (some d))) d (exd d [(g, u), (f, v)]))
section
variable {P : Program} {w : World} {K : PySem.W.Frag} {mg : Str → Option Value} {base : Heap}
theorem ok_i1 {qn f : Str} {st : Stmt} {fa C : Addr} {fd : FuncData} {p1 p2 p3 p4 : Pos} (F : Fun K "__init__" qn st fa fd) (S : FnScope ["self", f] ["self", f] (defScope st)) (hb : defBody st = [.Assign [.Attribute (.Name "self" p1) f p2] (.Name f p3) p4])
    (hd : (f == ("__debug__" : Str)) = false) (hc : (f == ("__classdict__" : Str)) = false) (hs : ∀ env : Env, swapsWith (.Name f p3) (some (.Attribute (.Name "self" p1) f p2)) p4.line env = pure false) (T : XC K C) (ht : PySem.W.takerIn K C f = some none) : FnOk P w K mg base CX0 1 fa fd ["self", f] (spI1 C f) := by
  refine F.ok S (fun vs H Q E h => ?_) (fun cv A ou s H vs Q E hr h => ?_)
  · obtain ⟨a, v, rfl, _⟩ := h
    rfl
  obtain ⟨a, v, rfl, ea, q⟩ := h
  rw [hb]
  refine ⟨_, pss_one (ps_est (pe_var (i := 0) rfl ((S.par "self" (List.Mem.head _)).elim (fun z => .inl z) (fun z => .inr (.inl z)))) (pe_var (i := 1) rfl ((S.par f (.tail _ (List.Mem.head _))).elim (fun z => .inl z) (fun z => .inr (.inl z))) hd hc) (hs _)), ?_⟩
  exact ⟨v, rfl, .ref a, rfl, a, C, rfl, T, ht, .inl ⟨ea, q⟩⟩
theorem ok_i2 {qn f g : Str} {st : Stmt} {fa C : Addr} {fd : FuncData} {p1 p2 p3 p4 p5 p6 p7 p8 : Pos} (F : Fun K "__init__" qn st fa fd) (S : FnScope ["self", f, g] ["self", f, g] (defScope st))
    (hb : defBody st = [.Assign [.Attribute (.Name "self" p1) f p2] (.Name f p3) p4, .Assign [.Attribute (.Name "self" p5) g p6] (.Name g p7) p8])
    (hd : (f == ("__debug__" : Str)) = false) (hc : (f == ("__classdict__" : Str)) = false) (hd2 : (g == ("__debug__" : Str)) = false) (hc2 : (g == ("__classdict__" : Str)) = false)
    (hs : ∀ env : Env, swapsWith (.Name f p3) (some (.Attribute (.Name "self" p1) f p2)) p4.line env = pure false) (hs2 : ∀ env : Env, swapsWith (.Name g p7) (some (.Attribute (.Name "self" p5) g p6)) p8.line env = pure false)
    (T : XC K C) (ht : PySem.W.takerIn K C f = some none) (ht2 : PySem.W.takerIn K C g = some none) : FnOk P w K mg base CX0 1 fa fd ["self", f, g] (spI2 C f g) := by
  refine F.ok S (fun vs H Q E h => ?_) (fun cv A ou s H vs Q E hr h => ?_)
  · obtain ⟨a, v, u, rfl, _⟩ := h
    rfl
  obtain ⟨a, v, u, rfl, ea, q⟩ := h
  have v0 : ∀ {x : Str}, x ∈ (["self", f, g] : List Str) → Vis (defScope st) x := fun h => (S.par _ h).elim (fun z => .inl z) (fun z => .inr (.inl z))
  rw [hb]
  refine ⟨_, pss_cons (ps_est (pe_var (i := 0) rfl (v0 (by simp))) (pe_var (i := 1) rfl (v0 (by simp)) hd hc) (hs _)) (pss_one (ps_est (pe_var (i := 0) rfl (v0 (by simp))) (pe_var (i := 2) rfl (v0 (by simp)) hd2 hc2) (hs2 _))), ?_⟩
  refine ⟨v, rfl, .ref a, rfl, a, C, rfl, T, ht, .inl ⟨ea, fun d hd hda => ?_⟩⟩
  refine ⟨u, rfl, .ref a, rfl, a, C, rfl, T, ht2, .inr ⟨d, [(f, v)], upd_same, ?_, Nat.le_of_ble_eq_true rfl, q d hd hda⟩⟩
  rw [upd_ne hda, upd_same]
/-- what the law knows of a class with one field (two) -/
structure One (P : Program) (w : World) (K : PySem.W.Frag) (mg : Str → Option Value) (base : Heap) (nm f : Str) (C : Addr) : Prop where
  gl : mg nm = some (.ref C)
  ini : ∃ (fa : Addr) (fd : FuncData), Ini K C fa ∧ FnOk P w K mg base CX0 1 fa fd ["self", f] (spI1 C f) ∧ Binds K fd ["self", f] [] ∧ SBinds K fd ["self", f] [f] (fun x => x) (fun x => x)
  no : PySem.W.findIn K (.ref C) f = some none
structure Two (P : Program) (w : World) (K : PySem.W.Frag) (mg : Str → Option Value) (base : Heap) (nm f g : Str) (C : Addr) : Prop where
  gl : mg nm = some (.ref C)
  ini : ∃ (fa : Addr) (fd : FuncData), Ini K C fa ∧ FnOk P w K mg base CX0 1 fa fd ["self", f, g] (spI2 C f g) ∧ Binds K fd ["self", f, g] [] ∧ SBinds K fd ["self", f, g] [g, f] (fun x => x.reverse) (fun x => x.reverse)
  nof : PySem.W.findIn K (.ref C) f = some none
  nog : PySem.W.findIn K (.ref C) g = some none
theorem One.xc {nm f : Str} {C : Addr} (O : One P w K mg base nm f C) : XC K C := by
  obtain ⟨_, _, N, _⟩ := O.ini
  exact N.xc
theorem Two.xc {nm f g : Str} {C : Addr} (O : Two P w K mg base nm f g C) : XC K C := by
  obtain ⟨_, _, N, _⟩ := O.ini
  exact N.xc
end
theorem made1 {H : Hp} {a d C : Addr} {f : Str} {v : V} (ha : H a = none) (hd : upd H a (exo a C none) d = none) (n : d ≠ a) :
    Same H (upd (upd (upd H a (exo a C none)) d (exd d [(f, v)])) a (exo a C (some d))) ∧ ErrAt (upd (upd (upd H a (exo a C none)) d (exd d [(f, v)])) a (exo a C (some d))) a C [(f, v)] := by
  rw [upd_ne n] at hd
  refine ⟨fun b o e => ?_, d, upd_same, ?_⟩
  · rw [upd_ne (ne_of_none e ha), upd_ne (ne_of_none e hd), upd_ne (ne_of_none e ha)]
    exact e
  · rw [upd_ne n, upd_same]
theorem made2 {H : Hp} {a d C : Addr} {f g : Str} {v u : V} (ha : H a = none) (hd : upd H a (exo a C none) d = none) (n : d ≠ a) :
    Same H (upd (upd (upd (upd H a (exo a C none)) d (exd d [(f, v)])) a (exo a C (some d))) d (exd d [(g, u), (f, v)])) ∧ ErrAt (upd (upd (upd (upd H a (exo a C none)) d (exd d [(f, v)])) a (exo a C (some d))) d (exd d [(g, u), (f, v)])) a C [(g, u), (f, v)] := by
  rw [upd_ne n] at hd
  refine ⟨fun b o e => ?_, d, ?_, upd_same⟩
  · rw [upd_ne (ne_of_none e hd), upd_ne (ne_of_none e ha), upd_ne (ne_of_none e hd), upd_ne (ne_of_none e ha)]
    exact e
  · rw [upd_ne n.symm, upd_same]
/-- C(x), C(f = x), x a name: a new instance -/
def tOne (C : Addr) (f : Str) (j : Nat) : TE := fun σ H Q => ∃ v, σ[j]? = some (some v) ∧ ∀ a H', Same H H' → H a = none → ErrAt H' a C [(f, v)] → Q (.ref a) H'
def tTwo (C : Addr) (f g : Str) (i j : Nat) : TE := fun σ H Q => ∃ v u, σ[i]? = some (some v) ∧ σ[j]? = some (some u) ∧ ∀ a H', Same H H' → H a = none → ErrAt H' a C [(g, u), (f, v)] → Q (.ref a) H'
section
variable {X : Cx} {nm f g : Str} {C : Addr} {e e2 : Expr} {i j : Nat} {p pos k1 k2 : Pos}
theorem pe_one (O : One X.prog X.w X.K X.mg X.base nm f C) (hR : Room 2 X.A) (hg : Gl X nm) (he : PE X e (tVar j)) (hdb : (nm == ("__debug__" : Str)) = false := by decide) (hs : starEach [e] X.env = (false, eval e X.env) :: starEach [] X.env := by rfl)
    (hpl : (backTo pos (starEach [] X.env)).any (·.1) = false := by rfl) : PE X (.Call (.Name nm p) [e] [] pos) (tOne C f j) := by
  obtain ⟨fa, fd, N, F, b, sb⟩ := O.ini
  refine PE.imp (pe_err N F hR hg O.gl b pass0 (pa_cons he pa_nil hs) hdb hs hpl) fun σ H Q z => ?_
  obtain ⟨v, hv, q⟩ := z
  refine ⟨v, hv, Nat.le_of_ble_eq_true rfl, fun a ha => ⟨a, v, rfl, upd_same, fun d hd hda => ⟨rfl, ?_⟩⟩⟩
  obtain ⟨m1, m2⟩ := made1 (f := f) (v := v) ha hd hda
  exact q a _ m1 ha m2
theorem pe_oneK (O : One X.prog X.w X.K X.mg X.base nm f C) (hR : Room 2 X.A) (hg : Gl X nm) (he : PE X e (tVar j)) (hdb : (nm == ("__debug__" : Str)) = false := by decide)
    (hall : (backToKw pos (keywordEach [⟨some f, e, k1⟩] X.env)).all (·.1.isSome) = true := by rfl) (hks : (backToKw pos (keywordEach [⟨some f, e, k1⟩] X.env)).filterMap (·.1) = [f] := by rfl)
    (hpl : ((backTo pos (starEach [] X.env)).any (·.1) || (backToKw pos (keywordEach [⟨some f, e, k1⟩] X.env)).any (·.1.isNone)) = false := by rfl) : PE X (.Call (.Name nm p) [] [⟨some f, e, k1⟩] pos) (tOne C f j) := by
  obtain ⟨fa, fd, N, F, b, sb⟩ := O.ini
  refine PE.imp (pe_errK N F hR hg O.gl sb pass0 (pk_cons he pk_nil) hall hks hdb hpl) fun σ H Q z => ?_
  obtain ⟨v, hv, q⟩ := z
  refine ⟨v, hv, rfl, fun a ha => ⟨a, v, rfl, upd_same, fun d hd hda => ⟨rfl, ?_⟩⟩⟩
  obtain ⟨m1, m2⟩ := made1 (f := f) (v := v) ha hd hda
  exact q a _ m1 ha m2
theorem pe_two (O : Two X.prog X.w X.K X.mg X.base nm f g C) (hR : Room 2 X.A) (hg : Gl X nm) (he : PE X e (tVar i)) (he2 : PE X e2 (tVar j)) (hdb : (nm == ("__debug__" : Str)) = false := by decide) (hs : starEach [e, e2] X.env = (false, eval e X.env) :: starEach [e2] X.env := by rfl)
    (hs2 : starEach [e2] X.env = (false, eval e2 X.env) :: starEach [] X.env := by rfl) (hpl : (backTo pos (starEach [e2] X.env)).any (·.1) = false := by rfl) : PE X (.Call (.Name nm p) [e, e2] [] pos) (tTwo C f g i j) := by
  obtain ⟨fa, fd, N, F, b, sb⟩ := O.ini
  refine PE.imp (pe_err N F hR hg O.gl b pass0 (pa_cons he (pa_cons he2 pa_nil hs2) hs) hdb hs hpl) fun σ H Q z => ?_
  obtain ⟨v, u, hv, hu, q⟩ := z
  refine ⟨v, hv, u, hu, Nat.le_of_ble_eq_true rfl, fun a ha => ⟨a, v, u, rfl, upd_same, fun d hd hda => ⟨rfl, ?_⟩⟩⟩
  obtain ⟨m1, m2⟩ := made2 (f := f) (g := g) (v := v) (u := u) ha hd hda
  exact q a _ m1 ha m2
theorem pe_twoK (O : Two X.prog X.w X.K X.mg X.base nm f g C) (hR : Room 2 X.A) (hg : Gl X nm) (he : PE X e (tVar i)) (he2 : PE X e2 (tVar j)) (hdb : (nm == ("__debug__" : Str)) = false := by decide)
    (hall : (backToKw pos (keywordEach [⟨some g, e2, k1⟩, ⟨some f, e, k2⟩] X.env)).all (·.1.isSome) = true := by rfl) (hks : (backToKw pos (keywordEach [⟨some g, e2, k1⟩, ⟨some f, e, k2⟩] X.env)).filterMap (·.1) = [g, f] := by rfl)
    (hpl : ((backTo pos (starEach [] X.env)).any (·.1) || (backToKw pos (keywordEach [⟨some g, e2, k1⟩, ⟨some f, e, k2⟩] X.env)).any (·.1.isNone)) = false := by rfl) : PE X (.Call (.Name nm p) [] [⟨some g, e2, k1⟩, ⟨some f, e, k2⟩] pos) (tTwo C f g i j) := by
  obtain ⟨fa, fd, N, F, b, sb⟩ := O.ini
  refine PE.imp (pe_errK N F hR hg O.gl sb pass0 (pk_cons he2 (pk_cons he pk_nil)) hall hks hdb hpl) fun σ H Q z => ?_
  obtain ⟨v, u, hv, hu, q⟩ := z
  refine ⟨u, hu, v, hv, rfl, fun a ha => ⟨a, v, u, rfl, upd_same, fun d hd hda => ⟨rfl, ?_⟩⟩⟩
  obtain ⟨m1, m2⟩ := made2 (f := f) (g := g) (v := v) (u := u) ha hd hda
  exact q a _ m1 ha m2
end
/-! ### a row of such: instances of Cs with the field f holding v -/
abbrev Er (H : Hp) (f : Str) (v : V) (x : V) (C : Addr) : Prop := ∃ a, x = .ref a ∧ ErrAt H a C [(f, v)]
abbrev Errs (H : Hp) (f : Str) (v : V) (xs : List V) (Cs : List Addr) : Prop := Paired (Er H f v) xs Cs
theorem Errs.keep {H H' : Hp} {f : Str} {v : V} {xs : List V} {Cs : List Addr} (h : Errs H f v xs Cs) (s : Same H H') : Errs H' f v xs Cs :=
  Paired.mapP h fun x C ⟨a, e, k⟩ => ⟨a, e, k.keep s⟩
theorem Errs.app {H : Hp} {f : Str} {v : V} : ∀ {xs : List V} {Cs : List Addr} {ys : List V} {Ds : List Addr}, Errs H f v xs Cs → Errs H f v ys Ds → Errs H f v (xs ++ ys) (Cs ++ Ds)
  | _, _, _, _, .nil, h => h
  | _, _, _, _, .cons r t, h => .cons r (Errs.app t h)
def tOnes (f : Str) (j : Nat) (Cs : List Addr) : TA := fun σ H Q => ∃ v, σ[j]? = some (some v) ∧ ∀ xs H', Same H H' → Errs H' f v xs Cs → Q xs H'
theorem po_nil1 {X : Cx} {f : Str} {j : Nat} : PA X [] (tOnes f j []) := PA.imp pa_nil fun σ H Q ⟨v, _, q⟩ => q [] H same_rfl .nil
theorem po_cons1 {X : Cx} {f : Str} {j : Nat} {C : Addr} {Cs : List Addr} {e : Expr} {es : List Expr} (he : PE X e (tOne C f j)) (hr : PA X es (tOnes f j Cs)) (hs : starEach (e :: es) X.env = (false, eval e X.env) :: starEach es X.env := by rfl) :
    PA X (e :: es) (tOnes f j (C :: Cs)) :=
  PA.imp (pa_cons he hr hs) fun σ H Q ⟨v, hv, q⟩ => ⟨v, hv, fun a H1 s1 n1 e1 => ⟨v, hv, fun xs H2 s2 e2 => q _ H2 (s1.trans s2) (.cons ⟨a, rfl, e1.keep s2⟩ e2)⟩⟩
/-! ### isinstance asked of one name, for a row of classes -/
def IsAt (K : PySem.W.Frag) (H : Hp) (x : V) (C : Addr) : Prop := ∃ a, x = .ref a ∧ XC K C ∧ ((∃ fs, ErrAt H a C fs) ∨ H a = some (ExO (.ref C) a))
theorem IsAt.keep {K : PySem.W.Frag} {H H' : Hp} {x : V} {C : Addr} (h : IsAt K H x C) (s : Same H H') : IsAt K H' x C := by
  obtain ⟨a, e, T, q⟩ := h
  refine ⟨a, e, T, ?_⟩
  rcases q with ⟨fs, q⟩ | q
  · exact .inl ⟨fs, q.keep s⟩
  · exact .inr (s _ _ q)
def tIss (K : PySem.W.Frag) (j : Nat) (us : List Value) : TA := fun σ H Q => ∃ (x : V) (C : Addr) (bs : List Bool), σ[j]? = some (some x) ∧ IsAt K H x C ∧ us.map (PySem.W.kitOne K (.ref C)) = bs.map some ∧ Q (bs.map V.bl) H
theorem pi_nil1 {X : Cx} {j : Nat} : PA X [] (tIss X.K j []) := PA.imp pa_nil fun σ H Q ⟨x, C, bs, _, _, e, q⟩ => by
  cases bs with
  | nil => exact q
  | cons b r => cases e
theorem pi_cons1 {X : Cx} {j : Nat} {e c : Expr} {cv : V} {u : Value} {us : List Value} {es : List Expr} {p pos : Pos} (hg : Gl X "isinstance") (hm : X.mg "isinstance" = none) (he : PE X e (tVar j)) (hc : PE X c (tC cv)) (k : ClsV cv u) (hr : PA X es (tIss X.K j us))
    (hs : starEach (.Call (.Name "isinstance" p) [e, c] [] pos :: es) X.env = (false, eval (.Call (.Name "isinstance" p) [e, c] [] pos) X.env) :: starEach es X.env := by rfl) (hs1 : starEach [e, c] X.env = (false, eval e X.env) :: starEach [c] X.env := by rfl) (hs2 : starEach [c] X.env = (false, eval c X.env) :: starEach [] X.env := by rfl) (hpl : (backTo pos (starEach [c] X.env)).any (·.1) = false := by rfl) :
    PA X (.Call (.Name "isinstance" p) [e, c] [] pos :: es) (tIss X.K j (u :: us)) :=
  PA.imp (pa_cons (pe_callB call_isX hg hm boot_isinstance (pa_cons he (pa_cons hc pa_nil hs2) hs1) (by decide) (by decide) hs1 hpl) hr hs) fun σ H Q ⟨x, C, bs, hx, hi, e, q⟩ => by
    cases bs with
    | nil => cases e
    | cons b r =>
      have e1 : PySem.W.kitOne X.K (.ref C) u = some b := (List.cons.inj e).1
      have e2 : us.map (PySem.W.kitOne X.K (.ref C)) = r.map some := (List.cons.inj e).2
      obtain ⟨a, ea, T, z⟩ := hi
      subst ea
      exact ⟨.ref a, hx, a, C, cv, u, b, rfl, k, T, z, e1, .ref a, C, r, hx, ⟨a, rfl, T, z⟩, e2, q⟩
end Gd
set_option Elab.async false
set_option linter.all false
set_option maxRecDepth 100000
set_option maxHeartbeats 4000000
/-! raise C(e), C an own class of one field over any built-in base -/
namespace Gd
open PySem PySem.Spec PyProof.Rows L2
open PySem.W (excInitIn excOver excTail)
section
variable {X : Cx} {CX : CXT} {k : Nat} {f C : Addr} {fd : FuncData} {ps : List Str} {sp : Sp} {x : Str} {p pos : Pos} {e : Expr}
theorem run_rai {pins : List (Addr × Obj)} {σ : L2.St} {H : Hp} {s : Shared} {Q : XK} {us ws : List Value} {kw : List (Str × Value)} {zs : List V} (N : Ini X.K C f) (ty : PySem.W.typeIn X.K (.ref C) = some (.type "type")) (F : FnOk X.prog X.w X.K X.mg X.base CX k f fd ps sp) (hR : Room (k + 1) X.A)
    (hx : Passes CX X E0) (I : Inv X pins σ H s) (hl : us.length ≤ sizeLine) (hB : ∀ (s' : Shared) (self : Value), X.K.In s'.heap → BindsTo s' fd ⟨self :: us, kw⟩ (ps.zip (self :: ws))) (hV : Vals zs ws)
    (h : ∀ a, H a = none → sp (.ref a :: zs) (upd H a (exo a C none)) (fun v H2 => v = .non ∧ ∃ d fs, H2 a = some (exo a C (some d)) ∧ H2 d = some (exd d fs) ∧ H d = none ∧ Q (.ref C) (some d) (upd (del H2 a) d (.xd fs))) E0) : wpAny (model X.prog X.w) X.A (call (.ref C) us kw) (MkP X pins σ Q) X.xe s := by
  obtain ⟨B, nid, iid, tl, FB, SF, hin, hov⟩ := N.xc.base
  obtain ⟨hp, g, dr, t0, os⟩ := s
  obtain ⟨nm, N', qn, bs, bm, hdct, sn, sub, ab, col, dd, k0, k1, k2, k3, k5, hC, hT⟩ := PySem.W.excInit_of I.kIn hin
  have le1 : hp.objs.size ≤ hp.objs.size + 1 := Nat.le_succ _
  have n1 : H (hp.objs.size + 1) = none := I.hok.fresh le1
  have q1 := h (hp.objs.size + 1) n1
  have kk : ∀ b o, hp.get? b = some o → ((hp.push (PySem.W.kdv_tup us)).push (PySem.HandSPX.excO C hp.objs.size)).get? b = some o := fun b o e => Heap.get?_push_of_some _ (Heap.get?_push_of_some _ e)
  have g1 : ((hp.push (PySem.W.kdv_tup us)).push (PySem.HandSPX.excO C hp.objs.size)).get? (hp.objs.size + 1) = some (PySem.HandSPX.excO C hp.objs.size) := by heap_get
  have I2 : Inv X pins σ (upd H (hp.objs.size + 1) (exo (hp.objs.size + 1) C none)) ⟨(hp.push (PySem.W.kdv_tup us)).push (PySem.HandSPX.excO C hp.objs.size), g, dr, t0, os⟩ :=
    I.laid (t' := t0) (a := hp.objs.size + 1) (o := exo (hp.objs.size + 1) C none) (h' := (hp.push (PySem.W.kdv_tup us)).push (PySem.HandSPX.excO C hp.objs.size)) kk le1 (exo_ok g1)
  have r2 : Vals (V.ref (hp.objs.size + 1) :: zs) (Value.ref (hp.objs.size + 1) :: ws) := .cons rfl hV
  have hR2 : Room k (X.A.under (.builtin "type.__call__" ⟨.ref C :: us, kw⟩)) := by
    have d1 : (X.A.under (.builtin "type.__call__" ⟨.ref C :: us, kw⟩)).depth = X.A.depth + 1 := by
      first | rfl | simp [Around.under, Code.weight, Code.isCreation, Code.isGuard, Code.isCaller, Code.frames, Code.isFrame, guardIds]
    have d2 : (X.A.under (.builtin "type.__call__" ⟨.ref C :: us, kw⟩)).units = X.A.units + 1 := by
      first | rfl | simp [Around.under, Code.cUnits, Code.frames, Code.isFrame]
    exact ⟨hR.hd, by have := hR.dp; rw [d1]; omega, by have := hR.un; rw [d2]; omega⟩
  have e0 := I2.env0
  have e1 : Env0 X.prog X.w X.K X.mg X.base (X.A.under (.builtin "type.__call__" ⟨.ref C :: us, kw⟩)) X.stack ⟨(hp.push (PySem.W.kdv_tup us)).push (PySem.HandSPX.excO C hp.objs.size), g, dr, t0, os⟩ (upd H (hp.objs.size + 1) (exo (hp.objs.size + 1) C none)) :=
    ⟨by first | exact e0.frames | (simpa [Around.under, Code.envs, Code.isFrame, pushEnvs] using e0.frames), e0.mod, e0.bs, e0.bsz, e0.funs, e0.frf, e0.hok, e0.bare⟩
  refine wpAny_call (PySem.Gk.call_kw FB hT hC (PySem.W.looks_findIn I.kIn N.at_) (fun self => PySem.W.bind_fn I.kIn self N.ty) hl
    (codeAny_mono (F.run _ X.stack _ _ ⟨Value.ref (hp.objs.size + 1) :: us, kw⟩ (Value.ref (hp.objs.size + 1) :: ws) _ _ E0 hR2 e1 (hB _ _ I2.kIn) r2 q1) fun r s' hq' => ?_))
  match r, hq' with
  | .error er, hq' => exact hx pins σ _ _ er s' I2 hq'
  | .ok (.ret u), hq' =>
    obtain ⟨v, H2, os2, bare2, un2, hok2, rv, ev, d, fs, ea, ed, hd1, q2⟩ := hq'
    subst ev
    obtain ⟨h2, g2, d2, t2, os'⟩ := s'
    exact ⟨rv, mk_end (raises_own N.xc.sB ty) I le1 kk un2 hok2 os2 bare2 ea ed hd1 q2⟩
  | .ok .next, hq' => exact False.elim hq'
  | .ok .brk, hq' => exact False.elim hq'
  | .ok .cont, hq' => exact False.elim hq'
/-- C(e): one value -/
def tRai (C : Addr) (f : Str) (te : TE) : L2.St → Hp → XK → Prop := fun σ H Q => te σ H fun v H1 => ∀ d H', Same H1 H' → H1 d = none → H' d = some (.xd [(f, v)]) → Q (.ref C) (some d) H'
theorem pmk_one {nm g : Str} {te : TE} (O : One X.prog X.w X.K X.mg X.base nm g C) (ty : PySem.W.typeIn X.K (.ref C) = some (.type "type")) (hR : Room 2 X.A) (hg : Gl X nm) (he : PE X e te) (hdb : (nm == ("__debug__" : Str)) = false := by decide)
    (hs : starEach [e] X.env = (false, eval e X.env) :: starEach [] X.env := by rfl) (hpl : (backTo pos (starEach [] X.env)).any (·.1) = false := by rfl) :
    PMk X (.Call (.Name nm p) [e] [] pos) (tRai C g te) := by
  intro pins s σ H Q I h
  obtain ⟨fa, fd, N, F, b, sb⟩ := O.ini
  refine wpAny_Call_Name_kw (ld_glob I hg O.gl ?_ hdb)
  refine PySem.W.callWith_K (h₀ := X.base) I.ok.mod.kin N.xc.kp (thn ((pa_cons he pa_nil hs).run pos pins s σ H (fun zs H1 => match zs with | [v] => ∀ d H', Same H1 H' → H1 d = none → H' d = some (.xd [(g, v)]) → Q (.ref C) (some d) H' | _ => False) I ?_) fun us s2 z2 => ?_) hs hpl
  · exact h
  obtain ⟨zs, H2, I2, r2, q2⟩ := z2
  obtain ⟨v, rfl, q2⟩ : ∃ v, zs = [v] ∧ ∀ d H', Same H2 H' → H2 d = none → H' d = some (.xd [(g, v)]) → Q (.ref C) (some d) H' := by
    match zs, q2 with
    | [v], q2 => exact ⟨v, rfl, q2⟩
  obtain ⟨u, rfl, ru⟩ := vals1 r2
  refine ⟨I2.kIn, ?_⟩
  refine run_rai (ws := [u]) (zs := [v]) N ty F hR pass0 I2 (by rw [sizeLine_eq]; exact (by decide : 1 ≤ 16777216)) (fun s' self ki => ?_) (.cons ru .nil) fun a na => ?_
  · have := b s' [self, u] ki rfl
    rw [List.append_nil] at this
    exact this
  · refine ⟨a, v, rfl, upd_same, fun d nd n => ⟨rfl, d, [(g, v)], upd_same, ?_, ?_, ?_⟩⟩
    · rw [upd_ne n, upd_same]
    · rw [upd_ne n] at nd
      exact nd
    · have nd' : H2 d = none := by rw [upd_ne n] at nd; exact nd
      refine q2 d _ (fun b o eb => ?_) nd' upd_same
      rw [upd_ne (ne_of_none eb nd'), del_ne (ne_of_none eb na), upd_ne (ne_of_none eb na), upd_ne (ne_of_none eb nd'), upd_ne (ne_of_none eb na)]
      exact eb
end
end Gd
set_option Elab.async false
set_option linter.all false
set_option maxRecDepth 100000
set_option maxHeartbeats 4000000
/-! own error classes of one field, their facts as Bools -/
namespace Gd
open PySem PySem.Spec PyProof.Rows L2
structure Xd where
  nm : Str
  ba : Nat
  f : Str
def xtl : Nat → List Value
  | 0 => [.type "ValueError", .type "Exception", .type "BaseException", .type "object"]
  | 1 => [.type "LookupError", .type "Exception", .type "BaseException", .type "object"]
  | _ => [.type "ArithmeticError", .type "Exception", .type "BaseException", .type "object"]
def xnid : Nat → String
  | 0 => "ValueError.__new__"
  | 1 => "LookupError.__new__"
  | _ => "ArithmeticError.__new__"
def xclB (K : PySem.W.Frag) (C : Addr) (b : Nat) : Bool :=
  PySem.W.excInitIn K C (xtl b) (xnid b) && (PySem.W.excOver K C (xtl b) && (PySem.W.hasDictIn K C && (He.eqO (PySem.W.findIn K (.ref C) "__setattr__") (some (some (.builtin "object.__setattr__"))) &&
  (He.eqO (PySem.W.findIn K (.ref C) "__getattribute__") (some (some (.builtin "BaseException.__getattribute__"))) && (He.eqO (PySem.W.findIn K (.ref C) "__getattr__") (some none) && (decide (PySem.W.subIn K (.ref C) (.type "BaseException") = some true) &&
  (He.eqO (PySem.W.findIn K (.ref C) "__class__") (some (some (.builtin "object.__class__"))) && (He.eqO (PySem.W.specialIn K (.builtin "object.__class__") "__get__") (some (some (.builtin "getset_descriptor.__get__"))) &&
  (decide (PySem.W.takesIn K (.builtin "object.__class__") = some true) && (decide (PySem.W.mroIn K C (.type "object") = some true) && PySem.W.keepIn K (.ref C)))))))))))
def xdB (K : PySem.W.Frag) (d : Xd) : Bool := (He.Fa.glo d.nm).ok K && (xclB K (He.ga K d.nm) d.ba && (He.eqO (PySem.W.takerIn K (He.ga K d.nm) d.f) (some none) && (He.eqO (PySem.W.findIn K (.ref (He.ga K d.nm)) d.f) (some none) &&
  (He.eqO (PySem.W.findIn K (.ref (He.ga K d.nm)) "__init__") (some (some (.ref (He.ma K (He.ga K d.nm) "__init__")))) && (decide (PySem.W.typeIn K (.ref (He.ma K (He.ga K d.nm) "__init__")) = some (.type "function")) && decide (PySem.W.typeIn K (.ref (He.ga K d.nm)) = some (.type "type")))))))
section
variable {P : Program} {w : World} {K : PySem.W.Frag} {mg : Str → Option Value} {base : Heap} {h : Heap}
theorem xcl_of {C : Addr} {b : Nat} (q : xclB K C b = true) : XC K C := by
  obtain ⟨q1, q⟩ := He.ba q
  obtain ⟨q2, q⟩ := He.ba q
  obtain ⟨q3, q⟩ := He.ba q
  obtain ⟨q4, q⟩ := He.ba q
  obtain ⟨q5, q⟩ := He.ba q
  obtain ⟨q6, q⟩ := He.ba q
  obtain ⟨q7, q⟩ := He.ba q
  obtain ⟨q8, q⟩ := He.ba q
  obtain ⟨q9, q⟩ := He.ba q
  obtain ⟨q10, q⟩ := He.ba q
  obtain ⟨q11, q12⟩ := He.ba q
  refine ⟨?_, q3, He.eqO_ok q4, He.eqO_ok q5, He.eqO_ok q6, of_decide_eq_true q7, He.eqO_ok q8, He.eqO_ok q9, of_decide_eq_true q10, of_decide_eq_true q11, q12⟩
  match b, q1, q2 with
  | 0, q1, q2 => exact ⟨_, _, _, _, PySem.F.excBase_ValueError, PySem.F.store_ValueError, q1, q2⟩
  | 1, q1, q2 => exact ⟨_, _, _, _, PySem.F.excBase_LookupError, PySem.F.store_LookupError, q1, q2⟩
  | n + 2, q1, q2 => exact ⟨_, _, _, _, PySem.F.excBase_ArithmeticError, PySem.F.store_ArithmeticError, q1, q2⟩
theorem xd_glo {d : Xd} (q : xdB K d = true) : (He.Fa.glo d.nm).ok K = true := (He.ba q).1
theorem xd_xc {d : Xd} (q : xdB K d = true) : XC K (He.ga K d.nm) := xcl_of (He.ba (He.ba q).2).1
theorem xd_no {d : Xd} (q : xdB K d = true) : PySem.W.findIn K (.ref (He.ga K d.nm)) d.f = some none := He.eqO_ok (He.ba (He.ba (He.ba (He.ba q).2).2).2).1
theorem xd_ty {d : Xd} (q : xdB K d = true) : PySem.W.typeIn K (.ref (He.ga K d.nm)) = some (.type "type") := of_decide_eq_true (He.ba (He.ba (He.ba (He.ba (He.ba (He.ba q).2).2).2).2).2).2
theorem xd_one {nm f qn : Str} {b : Nat} {st : Stmt} {fd : FuncData} {p1 p2 p3 p4 : Pos} (X : K.In h) (G : h.Ns mainGlobals mg) (q : xdB K ⟨nm, b, f⟩ = true) (F : Fun K "__init__" qn st (He.ma K (He.ga K nm) "__init__") fd)
    (S : FnScope ["self", f] ["self", f] (defScope st)) (hb : defBody st = [.Assign [.Attribute (.Name "self" p1) f p2] (.Name f p3) p4])
    (hd : (f == ("__debug__" : Str)) = false) (hc : (f == ("__classdict__" : Str)) = false) (hs : ∀ env : Env, swapsWith (.Name f p3) (some (.Attribute (.Name "self" p1) f p2)) p4.line env = pure false)
    (b1 : ∀ (kV doc pm : Value) (an : Option Addr) (cdv ct : Value) (us : List Value), us.length = 2 → bindArgs (PySem.W.fnOf "__init__" qn (defArgs st) (defBody st) (defScope st) .none kV doc pm an cdv ct) ⟨us, []⟩ = pure ((["self", f] : List Str).zip us))
    (b2 : ∀ (kV doc pm : Value) (an : Option Addr) (cdv ct self v : Value), bindArgs (PySem.W.fnOf "__init__" qn (defArgs st) (defBody st) (defScope st) .none kV doc pm an cdv ct) ⟨[self], [(f, v)]⟩ = pure [(("self" : Str), self), (f, v)]) : One P w K mg base nm f (He.ga K nm) := by
  have T := xd_xc q
  obtain ⟨_, q'⟩ := He.ba q
  obtain ⟨_, q'⟩ := He.ba q'
  obtain ⟨t1, q'⟩ := He.ba q'
  obtain ⟨t2, q'⟩ := He.ba q'
  obtain ⟨i1, q'⟩ := He.ba q'
  obtain ⟨i2, _⟩ := He.ba q'
  refine ⟨He.glo_ok X G (xd_glo q), ⟨_, fd, ⟨T, He.eqO_ok i1, of_decide_eq_true i2⟩, ok_i1 F S hb hd hc hs T (He.eqO_ok t1), F.binds b1, ⟨fun s self ws _ hl => ?_, fun z => z⟩⟩, He.eqO_ok t2⟩
  obtain ⟨oc, od, kV, doc, pm, an, cdv, ct, osl, rfl, lk, hcd⟩ := F.ex
  match ws, hl with
  | [v], _ => exact .of_eq (b2 kV doc pm an cdv ct self v)
end
end Gd
set_option Elab.async false
set_option linter.all false
set_option maxRecDepth 100000
set_option maxHeartbeats 4000000
namespace Kx
open PySem PySem.Spec PyProof.Rows L2 Gd
def topS (i : Nat) : Stmt := PySem.Challenge.pw_fivetrees_k05_kinds_without_trees.main.body.getD i (.Pass ⟨0, 0, 0, 0⟩)
abbrev sNum : Stmt := topS 27
abbrev sDeal : Stmt := topS 28
abbrev sPick : Stmt := topS 29
theorem scNum : FnScope ["_law_cells", "_law_k", "_law_mixed", "_law_one", "_law_more"] ["_law_cells", "_law_k"] (defScope sNum) := ⟨rfl, rfl, rfl, by decide +kernel, rfl, by decide +kernel, by decide +kernel⟩
theorem scDeal : FnScope ["_law_number_here"] ["_law_number_here"] (defScope sDeal) := ⟨rfl, rfl, rfl, by decide +kernel, rfl, by decide +kernel, by decide +kernel⟩
theorem scPick : FnScope ["_law_deal_here", "_law_many", "_law_digit", "_law_seed", "_law_turn"] ["_law_deal_here", "_law_many"] (defScope sPick) := ⟨rfl, rfl, rfl, by decide +kernel, rfl, by decide +kernel, by decide +kernel⟩
/-- three ints that deal on -/
def DealAt (H : Hp) (p : Addr) : Prop := ∃ a b c : Int, H p = some (.lst [.int a, .int b, .int c]) ∧ 0 ≤ b ∧ b < 2147483423
/-- all but p stands -/
def Sb (p : Addr) (H H' : Hp) : Prop := ∀ b o, b ≠ p → H b = some o → H' b = some o
theorem Sb.refl {p : Addr} {H : Hp} : Sb p H H := fun _ _ _ e => e
theorem Sb.trans {p : Addr} {H H1 H2 : Hp} (h : Sb p H H1) (h2 : Sb p H1 H2) : Sb p H H2 := fun b o n e => h2 b o n (h b o n e)
theorem Sb.of {p : Addr} {H H1 : Hp} (h : Same H H1) : Sb p H H1 := fun b o _ e => h b o e
theorem Sb.set {p : Addr} {H : Hp} {o : HO} : Sb p H (upd H p o) := fun b x n e => by rw [upd_ne n]; exact e
theorem same_new {H : Hp} {p : Addr} {o : HO} (h : H p = none) : Same H (upd H p o) := fun b x e => by rw [upd_ne (ne_of_none e h)]; exact e
theorem Sb.new {p q : Addr} {H : Hp} {o : HO} (h : H q = none) : Sb p H (upd H q o) := .of (same_new h)
theorem DealAt.keep {H H' : Hp} {p : Addr} (D : DealAt H p) (h : Same H H') : DealAt H' p := by
  obtain ⟨a, b, c, e, l⟩ := D
  exact ⟨a, b, c, h _ _ e, l⟩
/-- a made heap: all that stood but p stands, and a place that was free is free as long as nothing was made there -/
theorem Sb.free {p x : Addr} {H H' : Hp} (h : Sb p H H') (n : x ≠ p) (f : H' x = none) : H x = none := by
  cases e : H x with
  | none => rfl
  | some o =>
    have := h x o n e
    rw [f] at this
    cases this
section
variable {P : Program} {w : World} {K : PySem.W.Frag} {mg : Str → Option Value} {base : Heap}
def spNum (K : PySem.W.Frag) : Sp := fun vs H Q _ => ∃ (a : Addr) (ns : List Int) (k : Nat), vs = [.ref a, .int k] ∧ SqL K H a (ns.map V.int) ∧ ns.length ≤ 63 ∧ ∀ (z : Int) (H' : Hp), Same H H' → Q (.int z) H'
def spDeal : Sp := fun vs H Q _ => ∃ z : Int, vs = [.int z] ∧ ∀ (p : Addr) (H' : Hp), Same H H' → H p = none → DealAt H' p → Q (.ref p) H'
def spPick : Sp := fun vs H Q _ => ∃ (p : Addr) (m : Int), vs = [.ref p, .int m] ∧ DealAt H p ∧ 0 < m ∧ m < 1000000 ∧ ∀ (d : Int) (H' : Hp), 0 ≤ d → d < m → DealAt H' p → Sb p H H' → Q (.int d) H'
theorem ok_num {f : Addr} {fd : FuncData} (F : Fun K "_law_number" "_law_number" sNum f fd) (ml : mg "len" = none) (mi : mg "int" = none) : FnOk P w K mg base CX0 1 f fd ["_law_cells", "_law_k"] (spNum K) := by
  refine F.ok scNum (fun vs H Q E h => ?_) (fun cv A ou s H vs Q E hr h => ?_)
  · obtain ⟨a, ns, k, rfl, _⟩ := h
    rfl
  obtain ⟨a, ns, k, rfl, hS, hl, q⟩ := h
  refine ⟨_, pss_cons (ps_if (pt_cmpR op_lt (pv 1) (pe_callB call_len_seq (by rfl) ml PySem.boot_len (pa_cons (pv 0) pa_nil)) (nomark _))
      (pss_one (ps_ret (pe_callTy call_int1 (by rfl) mi boot_int (pa_cons (pe_ix ix_list (pv 0) (pv 1) (fun _ _ => rfl)) pa_nil)))) pss_nil)
    (pss_cons (ps_set (i := 2) scNum.nd rfl (.inl rfl) (pe_op op_mul pe_int (pe_op op_add (pv 1) pe_int)))
    (pss_cons (ps_for PassesOwn.never rfl (pi_list (pe_slice sl_list (pv 0) po_none (po_some pe_int))) (pg_name (i := 3) scNum.nd rfl (.inl rfl))
      (pss_cons (ps_set (i := 4) scNum.nd rfl (.inl rfl) (pe_op op_mod (pe_callTy call_int1 (by rfl) mi boot_int (pa_cons (pv 3) pa_nil)) pe_int))
      (pss_one (ps_set (i := 2) scNum.nd rfl (.inl rfl) (pe_op op_mod (pe_callTy call_int1 (by rfl) mi boot_int (pa_cons (pe_op op_add (pe_op op_add (pe_op op_mul (pv 2) pe_int) (pv 4)) (pv 1)) pa_nil)) pe_int)))))
    (pss_one (ps_ret (pv 2))))), ?_⟩
  refine ⟨.int k, rfl, .ref a, rfl, a, ns.map V.int, rfl, .inl hS, _, _, rfl, rfl, _, rfl, ite2 (fun e => ?_) (fun e => ?_)⟩
  · have hk : k < ns.length := by
      have := of_decide_eq_true e
      rw [List.length_map] at this
      omega
    refine ⟨.ref a, rfl, .int k, rfl, a, _, _, _, rfl, rfl, hS, atI_nat (j := k) (v := .int (ns[k])) (by rw [List.getElem?_map, List.getElem?_eq_getElem hk]; rfl), .inl ⟨_, rfl, ?_⟩⟩
    exact q _ H fun _ _ e => e
  refine ⟨.int k, rfl, _, _, rfl, rfl, _, _, rfl, rfl, .inl ⟨by decide, by decide⟩, ?_⟩
  refine ⟨.ref a, rfl, 6, rfl, a, _, rfl, hS, fun c nc => ?_⟩
  have s1 : Same H (upd H c (.lst (cutV (ns.map V.int) none (some 6)))) := same_new nc
  have hcut : ∃ ms : List Int, cutV (ns.map V.int) none (some 6) = ms.map V.int := by
    refine ⟨(ns.drop (HT.sIx ns.length 0 none)).take (HT.sIx ns.length ns.length (some 6) - HT.sIx ns.length 0 none), ?_⟩
    unfold cutV
    rw [List.length_map, List.map_take, List.map_drop]
  obtain ⟨ms, ems⟩ := hcut
  rw [ems] at s1 ⊢
  refine ⟨c, rfl, ⟨_, SqL.of upd_same⟩, for_list (K := K) (a := c) (xs := ms.map V.int) (fun i σ H2 => ∃ (z : Int) (o1 o2 : Option V), σ = [some (.ref a), some (.int k), some (.int z), o1, o2] ∧ H2 = upd H c (.lst (ms.map V.int)))
    ⟨_, none, none, rfl, rfl⟩ (fun i σ H2 _ ⟨_, _, _, _, e⟩ => by rw [e]; exact SqL.of upd_same) ?_ ?_⟩
  · rintro i y σ H2 hi ⟨z, o1, o2, rfl, rfl⟩
    obtain ⟨m, rfl⟩ : ∃ m, y = V.int m := by
      rw [List.getElem?_map] at hi
      cases e : ms[i]? with
      | none => rw [e] at hi; cases hi
      | some m => rw [e] at hi; exact ⟨m, (Option.some.inj hi).symm⟩
    refine ⟨.int m, rfl, .inl ⟨_, rfl, _, _, rfl, rfl, (by show (0 : Int) < 999983; decide), ?_⟩⟩
    refine ⟨_, rfl, _, _, rfl, rfl, .inr ⟨by decide, by decide⟩, _, rfl, _, _, rfl, rfl, _, rfl, _, _, rfl, rfl, .inl ⟨_, rfl, _, _, rfl, rfl, (by show (0 : Int) < 2147483423; decide), ?_⟩⟩
    exact ⟨_, _, _, rfl, rfl⟩
  · rintro σ H2 ⟨z, o1, o2, rfl, rfl⟩
    exact ⟨_, rfl, q z _ s1⟩
end
end Kx
set_option Elab.async false
set_option linter.all false
set_option maxRecDepth 100000
set_option maxHeartbeats 4000000
namespace Kx
open PySem PySem.Spec PyProof.Rows L2 Gd
section
variable {P : Program} {w : World} {K : PySem.W.Frag} {mg : Str → Option Value} {base : Heap}
theorem ok_deal {f : Addr} {fd : FuncData} (F : Fun K "_law_deal" "_law_deal" sDeal f fd) (ma : mg "abs" = none) (mi : mg "int" = none) : FnOk P w K mg base CX0 1 f fd ["_law_number_here"] spDeal := by
  refine F.ok scDeal (fun vs H Q E h => ?_) (fun cv A ou s H vs Q E hr h => ?_)
  · obtain ⟨z, rfl, _⟩ := h
    rfl
  obtain ⟨z, rfl, q⟩ := h
  refine ⟨_, pss_one (ps_ret (pe_lst (pa_cons (pe_ifExp (PW.pt (pw_or (pt_cmpR op_lt (pv 0) pe_int (nomark _)) (pw_or1 (pt_cmpR op_ge (pv 0) (pe_op op_pow pe_int pe_int) (nomark _)))))
      (pe_callB call_abs (by rfl) ma boot_abs (pa_cons (pv 0) pa_nil)) pe_int)
    (pa_cons (pe_op op_mod (pe_callTy call_int1 (by rfl) mi boot_int (pa_cons (pv 0) pa_nil)) pe_int) (pa_cons pe_int pa_nil))))), ?_⟩
  have fin : ∀ x : Int, (fun (x : V) (H1 : Hp) => tCons (tOp (rI (fun _ j => 0 < j) fun i j => .int (i % j)) (tCB (fun xs H Q => (∃ i, xs = [.int i] ∧ Q (.int i) H) ∨ ∃ k, xs = [.bl k] ∧ Q (.int (if k then 1 else 0)) H) (tCons (tVar 0) tNil)) (tC (.int 2147483423))) (tCons (tC (.int 0)) tNil) [some (.int z)] H1 fun xs H2 => (x :: xs).length ≤ sizeLine ∧ ∀ p, H2 p = none → Q (.ref p) (upd H2 p (.lst (x :: xs)))) (.int x) H := by
    intro x
    refine ⟨.int z, rfl, .inl ⟨_, rfl, _, _, rfl, rfl, (by show (0 : Int) < 2147483423; decide), (by show 3 ≤ sizeLine; decide), fun p hp => ?_⟩⟩
    exact q p _ (same_new hp) hp ⟨x, z % 2147483423, 0, upd_same, Int.emod_nonneg _ (by decide), Int.emod_lt_of_pos _ (by decide)⟩
  refine ⟨.int z, rfl, _, _, rfl, rfl, _, rfl, ite2 (fun e => iteT ?_) (fun e => ?_)⟩
  · exact ⟨.int z, rfl, _, rfl, fin _⟩
  · refine ⟨.int z, rfl, _, _, rfl, rfl, ⟨by decide, by decide, by decide⟩, _, _, rfl, rfl, _, rfl, ite2 (fun e => ?_) (fun e => ?_)⟩
    · exact ⟨.int z, rfl, _, rfl, fin _⟩
    · exact fin 0
theorem ok_pick {f : Addr} {fd : FuncData} (F : Fun K "_law_pick" "_law_pick" sPick f fd) (mi : mg "int" = none) : FnOk P w K mg base CX0 1 f fd ["_law_deal_here", "_law_many"] spPick := by
  refine F.ok scPick (fun vs H Q E h => ?_) (fun cv A ou s H vs Q E hr h => ?_)
  · obtain ⟨p, m, rfl, _⟩ := h
    rfl
  obtain ⟨p, m, rfl, ⟨a, b, c, hp, hb0, hb1⟩, m0, m1, q⟩ := h
  refine ⟨_, pss_cons (ps_asg (pe_op op_add (pe_ix ix_list (pv 0) pe_int (fun _ _ => rfl)) pe_int) (pg_sub (pv 0) pe_int set_list))
    (pss_cons (ps_if (pt_cmpR op_gt (pe_ix ix_list (pv 0) pe_int (fun _ _ => rfl)) pe_int (nomark _))
      (pss_cons (ps_set (i := 2) scPick.nd rfl (.inl rfl) (pe_op op_mod (pe_callTy call_int1 (by rfl) mi boot_int (pa_cons (pe_ix ix_list (pv 0) pe_int (fun _ _ => rfl)) pa_nil)) (pv 1)))
      (pss_cons (ps_asg (pe_op op_fdiv (pe_ix ix_list (pv 0) pe_int (fun _ _ => rfl)) (pv 1)) (pg_sub (pv 0) pe_int set_list))
      (pss_one (ps_ret (pv 2))))) pss_nil)
    (pss_cons (ps_par (i := 3) (j := 4) (by rfl) scPick.nd rfl rfl (by decide) rfl rfl (pa_cons (pe_callTy call_int1 (by rfl) mi boot_int (pa_cons (pe_ix ix_list (pv 0) pe_int (fun _ _ => rfl)) pa_nil)) (pa_cons (pe_callTy call_int1 (by rfl) mi boot_int (pa_cons (pe_ix ix_list (pv 0) pe_int (fun _ _ => rfl)) pa_nil)) pa_nil)) (by rfl))
    (pss_cons (ps_set (i := 3) scPick.nd rfl (.inl rfl) (pe_op op_mod (pe_callTy call_int1 (by rfl) mi boot_int (pa_cons (pe_op op_add (pe_op op_add (pe_op op_mul (pv 3) (pe_op op_add (pe_op op_add (pv 3) pe_int) (pe_op op_mul pe_int (pv 4)))) (pe_op op_mul pe_int (pv 4))) pe_int) pa_nil)) pe_int))
    (pss_cons (ps_asg (pv 3) (pg_sub (pv 0) pe_int set_list))
    (pss_one (ps_ret (pe_op op_mod (pe_callTy call_int1 (by rfl) mi boot_int (pa_cons (pe_op op_fdiv (pv 3) pe_int) pa_nil)) (pv 1)))))))), ?_⟩
  refine ⟨.ref p, rfl, p, _, _, .int c, rfl, rfl, SqL.of hp, rfl, _, _, rfl, rfl, .ref p, rfl, p, _, _, 2, rfl, rfl, hp, rfl, ?_⟩
  have h1 : upd H p (.lst [V.int a, .int b, .int (c + 1)]) p = some (.lst [V.int a, .int b, .int (c + 1)]) := upd_same
  have b1 : Sb p H (upd H p (.lst [V.int a, .int b, .int (c + 1)])) := .set
  refine ⟨.ref p, rfl, p, _, _, .int a, rfl, rfl, SqL.of h1, rfl, _, _, rfl, rfl, _, rfl, ite2 (fun e => ?_) (fun e => ?_)⟩
  · refine ⟨.ref p, rfl, p, _, _, .int a, rfl, rfl, SqL.of h1, rfl, .inl ⟨_, rfl, .int m, rfl, _, _, rfl, rfl, m0, ?_⟩⟩
    refine ⟨.ref p, rfl, p, _, _, .int a, rfl, rfl, SqL.of h1, rfl, .int m, rfl, _, _, rfl, rfl, ⟨m0, by omega⟩, .ref p, rfl, p, _, _, 0, rfl, rfl, h1, rfl, ?_⟩
    refine ⟨.int (a % m), rfl, ?_⟩
    exact q _ _ (Int.emod_nonneg _ (by omega)) (Int.emod_lt_of_pos _ m0) ⟨a / m, b, c + 1, upd_same, hb0, hb1⟩ (b1.trans .set)
  · refine ⟨.ref p, rfl, p, _, _, .int b, rfl, rfl, SqL.of h1, rfl, .inl ⟨_, rfl, .ref p, rfl, p, _, _, .int (c + 1), rfl, rfl, SqL.of h1, rfl, .inl ⟨_, rfl, _, _, rfl, ?_⟩⟩⟩
    refine ⟨.int b, rfl, .int b, rfl, _, _, rfl, rfl, .int (c + 1), rfl, _, _, rfl, rfl, .inl ⟨by decide, by decide⟩, _, _, rfl, rfl, _, _, rfl, rfl, .inl ⟨by omega, by omega⟩, ?_⟩
    refine ⟨.int (c + 1), rfl, _, _, rfl, rfl, .inl ⟨by decide, by decide⟩, _, _, rfl, rfl, _, _, rfl, rfl, .inl ⟨_, rfl, _, _, rfl, rfl, (by show (0 : Int) < 2147483423; decide), ?_⟩⟩
    refine ⟨_, rfl, .ref p, rfl, p, _, _, 1, rfl, rfl, h1, rfl, ?_⟩
    refine ⟨_, rfl, _, _, rfl, rfl, ⟨by decide, by decide⟩, .inl ⟨_, rfl, .int m, rfl, _, _, rfl, rfl, m0, ?_⟩⟩
    exact q _ _ (Int.emod_nonneg _ (by omega)) (Int.emod_lt_of_pos _ m0) ⟨a, _, c + 1, upd_same, Int.emod_nonneg _ (by decide), Int.emod_lt_of_pos _ (by decide)⟩ (b1.trans .set)
end
end Kx
set_option Elab.async false
set_option linter.all false
set_option maxRecDepth 100000
set_option maxHeartbeats 4000000
namespace Kx
open PySem PySem.Spec PyProof.Rows L2 Gd
abbrev sIs : Stmt := topS 17
theorem scIs : FnScope ["value", "sign"] ["value"] (defScope sIs) := ⟨rfl, rfl, rfl, by decide +kernel, rfl, by decide +kernel, by decide +kernel⟩
def lets : Str := Str.ofString "abcdefghijklmnopqrstuvwxyz"
def signs : Str := Str.ofString "abcdefghijklmnopqrstuvwxyz0123456789"
def digs : Str := Str.ofString "0123456789"
def inL (c : Nat) : Bool := decide (c ∈ lets.cps.toList)
def inN (c : Nat) : Bool := decide (c ∈ signs.cps.toList)
def inD (c : Nat) : Bool := decide (c ∈ digs.cps.toList)
theorem signs_eq : signs.cps.toList = lets.cps.toList ++ digs.cps.toList := by decide +kernel
theorem inN_eq (c : Nat) : inN c = (inL c || inD c) := by
  unfold inN inL inD
  rw [signs_eq]
  by_cases h1 : c ∈ lets.cps.toList <;> by_cases h2 : c ∈ digs.cps.toList <;> simp [h1, h2]
def nmL : List Nat → Bool
  | [] => false
  | c :: r => decide ((c :: r).length ≤ 8) && inL c && (c :: r).all inN
def nmS (z : Str) : Bool := nmL z.cps.toList
theorem len_list (z : Str) : z.cps.toList.length = z.length := by simp [Str.length]
theorem nmL_cons (c : Nat) (r : List Nat) : nmL (c :: r) = (decide ((c :: r).length ≤ 8) && inL c && (c :: r).all inN) := rfl
theorem nm_long {z : Str} (h : ¬ z.length ≤ 8) : nmS z = false := by
  have ez := len_list z
  unfold nmS
  cases ec : z.cps.toList with
  | nil => rfl
  | cons c r => rw [nmL_cons, ← ec, ez, decide_eq_false h]; rfl
theorem nm_short {z : Str} {c : Nat} {r : List Nat} (ec : z.cps.toList = c :: r) (h : z.length ≤ 8) : nmS z = (inL c && z.cps.toList.all inN) := by
  have ez := len_list z
  unfold nmS
  rw [ec, nmL_cons, ← ec, ez, decide_eq_true h]; rfl
theorem nm_empty {z : Str} (h : z.length = 0) : nmS z = false := by
  have ez := len_list z
  unfold nmS
  cases ec : z.cps.toList with
  | nil => rfl
  | cons c r => rw [ec] at ez; simp at ez; omega
theorem ne_cons {z : Str} (h : 1 ≤ z.length) : ∃ c r, z.cps.toList = c :: r := by
  have ez := len_list z
  cases ec : z.cps.toList with
  | nil => rw [ec] at ez; simp at ez; omega
  | cons c r => exact ⟨c, r, rfl⟩
/-- a comprehension over a text's signs -/
theorem lc_str {x : Str} {g : TG} {tt : TT} {te : TE} {vs : List Nat} {σ : L2.St} {H1 : Hp} {D : Addr} {Qd : Hp → Prop} (Pv : Nat → Hp → Prop) (h0 : Pv 0 (upd H1 D (.lst [])))
    (hs : ∀ i c H, x.cps.toList[i]? = some c → Pv i H → g (.str ⟨#[c]⟩) (wipe σ vs) H fun τ H2 => wipe τ vs = wipe σ vs ∧ tt τ H2 fun b H3 =>
      if b = true then te τ H3 fun y H4 => ∃ acc, H4 D = some (.lst acc) ∧ acc.length < sizeLine ∧ Pv (i + 1) (upd H4 D (.lst (acc ++ [y]))) else Pv (i + 1) H3) (hd : ∀ H, Pv x.cps.toList.length H → Qd H) :
    ∃ W : Nat → Nat → Hp → Prop, (∃ m, W 0 m (upd H1 D (.lst []))) ∧ ∀ i m H, W i m H →
      ((Its x).stop i H ∧ Qd H) ∨ ((Its x).go i H ∧ ∃ Nx : Hp → Prop, (∀ H', Nx H' → ∃ m', m' < m ∧ W (i + 1) m' H') ∧ ∀ v H', (Its x).yld i H v H' → g v (wipe σ vs) H' fun τ H2 => wipe τ vs = wipe σ vs ∧ tt τ H2 fun b H3 =>
        if b = true then te τ H3 fun y H4 => ∃ acc, H4 D = some (.lst acc) ∧ acc.length < sizeLine ∧ Nx (upd H4 D (.lst (acc ++ [y]))) else Nx H3) := by
  have el : x.cps.toList.length = x.cps.size := Array.length_toList
  refine ⟨fun i m H => i + m = x.cps.toList.length ∧ Pv i H, ⟨_, Nat.zero_add _, h0⟩, fun i m H ⟨e, p⟩ => ?_⟩
  cases m with
  | zero =>
    have e2 : i = x.cps.toList.length := e
    exact .inl ⟨(by show x.cps.size ≤ i; omega), hd H (e2 ▸ p)⟩
  | succ m =>
    refine .inr ⟨(by show i < x.cps.size; omega), Pv (i + 1), fun H' p' => ⟨m, Nat.lt_succ_self m, by omega, p'⟩, ?_⟩
    rintro v H' ⟨rfl, c, hc, rfl⟩
    exact hs i c _ (by rw [Array.getElem?_toList]; exact hc) p
theorem yes_of {σ : L2.St} {H : Hp} {Q : Bool → Hp → Prop} (h : Q true H) : tYes σ H Q := h
theorem yes_if {σ : L2.St} {H : Hp} {A B : Hp → Prop} (h : A H) : tYes σ H (fun b H3 => if b = true then A H3 else B H3) := yes_of (iteT (A := A H) (B := B H) h)
/-- the same: one name as the target, no test -/
theorem lc_strY {x : Str} {j : Nat} {te : TE} {vs : List Nat} {σ : L2.St} {H1 : Hp} {D : Addr} {Qd : Hp → Prop} (Pv : Nat → Hp → Prop) (hw : ∀ v, wipe ((wipe σ vs).set j (some v)) vs = wipe σ vs) (h0 : Pv 0 (upd H1 D (.lst [])))
    (hs : ∀ i c H, x.cps.toList[i]? = some c → Pv i H → te ((wipe σ vs).set j (some (.str ⟨#[c]⟩))) H fun y H4 => ∃ acc, H4 D = some (.lst acc) ∧ acc.length < sizeLine ∧ Pv (i + 1) (upd H4 D (.lst (acc ++ [y]))))
    (hd : ∀ H, Pv x.cps.toList.length H → Qd H) : ∃ W : Nat → Nat → Hp → Prop, (∃ m, W 0 m (upd H1 D (.lst []))) ∧ ∀ i m H, W i m H →
      ((Its x).stop i H ∧ Qd H) ∨ ((Its x).go i H ∧ ∃ Nx : Hp → Prop, (∀ H', Nx H' → ∃ m', m' < m ∧ W (i + 1) m' H') ∧ ∀ v H', (Its x).yld i H v H' → gName j v (wipe σ vs) H' fun τ H2 => wipe τ vs = wipe σ vs ∧ tYes τ H2 fun b H3 =>
        if b = true then te τ H3 fun y H4 => ∃ acc, H4 D = some (.lst acc) ∧ acc.length < sizeLine ∧ Nx (upd H4 D (.lst (acc ++ [y]))) else Nx H3) :=
  lc_str Pv h0 (fun i c H e p => ⟨hw _, yes_if (hs i c H e p)⟩) hd
section
variable {P : Program} {w : World} {K : PySem.W.Frag} {mg : Str → Option Value} {base : Heap}
/-- what the top holds that is_name reads -/
structure TI0 (mg : Str → Option Value) : Prop where
  isi : mg "isinstance" = none
  str : mg "str" = none
  len : mg "len" = none
  all : mg "all" = none
  LET : ∃ t, mg "LETTERS" = some (.str lets t)
  SIG : ∃ t, mg "NAME_SIGNS" = some (.str signs t)
  LON : ∃ t, mg "LONGEST_NAME" = some (.int 8 t)
def spIs (K : PySem.W.Frag) : Sp := fun vs H Q _ => ∃ v, vs = [v] ∧
  ((∃ z, v = .str z ∧ z.length ≤ 1000 ∧ ∀ H', Same H H' → Q (.bl (nmS z)) H') ∨ (∃ t, TyX K H v t ∧ PySem.W.kitOne K t (.type "str") = some false ∧ Q (.bl false) H))
theorem ok_is {f : Addr} {fd : FuncData} (F : Fun K "is_name" "is_name" sIs f fd) (T : TI0 mg) : FnOk P w K mg base CX0 1 f fd ["value"] (spIs K) := by
  refine F.ok scIs (fun vs H Q E h => ?_) (fun cv A ou s H vs Q E hr h => ?_)
  · obtain ⟨v, rfl, _⟩ := h
    rfl
  obtain ⟨v, rfl, h⟩ := h
  obtain ⟨t1, mL⟩ := T.LET
  obtain ⟨t2, mS⟩ := T.SIG
  obtain ⟨t3, mN⟩ := T.LON
  refine ⟨_, pss_cons (ps_if (PW.pt (pw_or (pt_not (pt_val (pe_callB call_isi (by rfl) T.isi boot_isinstance (pa_cons (pv 0) (pa_cons (pe_bltn (v := .ty "str") (by rfl) T.str boot_str rfl) pa_nil)))))
        (pw_or1 (pt_not (pt_chain op_le op_le pe_int (pe_callB call_len_str (by rfl) T.len PySem.boot_len (pa_cons (pv 0) pa_nil)) (pe_glob (v := .int 8) (by rfl) mN ⟨_, rfl⟩))))))
      (pss_one (ps_ret pe_bl)) pss_nil)
    (pss_one (ps_ret (pe_and (pe_cmpR op_in_sign (pe_ix ix_str (pv 0) pe_int (fun _ _ => rfl)) (pe_glob (v := .str lets) (by rfl) mL ⟨_, rfl⟩) rfl)
      (pe_one (pe_callB (cr_all rfl) (by rfl) T.all boot_all (pa_cons (pe_lc (own := [("sign", 1)]) (g := gName 1) (tt := tYes) rfl scIs.nd (pi_str (pv 0)) (blkOk_by (own := [("sign", 1)]) (N := ["value", "sign"]) (sc := defScope sIs) (by decide +kernel))
        (fun _ _ _ _ _ => pg_name (i := 1) scIs.nd rfl (Or.inl rfl)) (fun _ _ _ _ _ => pts_nil) (fun _ _ _ _ _ => pe_cmpR op_in_sign (pv 1) (pe_glob (v := .str signs) (by rfl) mS ⟨_, rfl⟩) rfl)) pa_nil)))))), ?_⟩
  rcases h with ⟨z, rfl, hz, q⟩ | ⟨t, ty, ek, q⟩
  · refine ⟨.str z, rfl, .str z, .ty "str", _, _, true, rfl, .ty "str", .base (.str z), kit_ty (by decide +kernel), _, rfl, iteF ?_⟩
    have ez := len_list z
    refine ⟨.str z, rfl, z, rfl, small1000 hz |> Nat.le_of_lt, ?_⟩
    refine ⟨_, _, rfl, rfl, _, rfl, ite2 (fun e1 => ?_) (fun e1 => ?_)⟩
    · have h1 : 1 ≤ z.length := by have := of_decide_eq_true e1; omega
      refine ⟨_, _, rfl, rfl, _, rfl, ite2 (fun e2 => ?_) (fun e2 => ?_)⟩
      · -- longer than eight
        have h2 : ¬ z.length ≤ 8 := fun h => by
          have e3 : decide ((z.length : Int) ≤ 8) = true := decide_eq_true (by omega)
          rw [e3] at e2
          cases e2
        have eq : nmS z = false := nm_long h2
        have q2 := q H fun _ _ e => e
        rw [eq] at q2
        exact q2
      · have h2 : z.length ≤ 8 := by
          by_cases h : z.length ≤ 8
          · exact h
          · refine absurd ?_ e2
            rw [decide_eq_false (show ¬ (z.length : Int) ≤ 8 by omega)]
            rfl
        obtain ⟨c, r, ec⟩ := ne_cons h1
        have en : nmS z = (inL c && z.cps.toList.all inN) := nm_short ec h2
        refine ⟨.str z, rfl, z, 0, c, rfl, rfl, Nat.le_of_lt (small1000 hz), atI_nat (j := 0) (by rw [ec]; rfl), c, lets, rfl, rfl, _, rfl, ite2 (fun e3 => ?_) (fun e3 => ?_)⟩
        · refine ⟨.str z, rfl, z, rfl, fun D nD => lc_strY (x := z) (fun i H2 => Same H H2 ∧ H2 D = some (.lst ((z.cps.toList.take i).map fun c => V.bl (inN c)))) (fun _ => rfl) ⟨same_new nD, upd_same⟩ ?_ ?_⟩
          · rintro i y H2 hi ⟨s2, eD⟩
            refine ⟨_, rfl, y, signs, rfl, rfl, _, eD, ?_, ?_, ?_⟩
            · rw [List.length_map, List.length_take]
              exact small1000 (by omega)
            · intro b o e
              rw [upd_ne (ne_of_none e nD)]
              exact s2 b o e
            · rw [upd_same, List.take_add_one, hi]
              simp [inN]
          · rintro H2 ⟨s2, eD⟩
            rw [List.take_length] at eD
            refine ⟨D, z.cps.toList.map inN, rfl, SqL.of (by rw [eD, List.map_map]; rfl), ?_⟩
            have q2 := q H2 s2
            rw [en] at q2
            have : (inL c && z.cps.toList.all inN) = (z.cps.toList.map inN).all id := by
              rw [show inL c = true from e3, Bool.true_and, List.all_map]
              rfl
            rw [this] at q2
            exact q2
        · have q2 := q H fun _ _ e => e
          rw [en, show inL c = false from Bool.eq_false_iff.mpr e3, Bool.false_and] at q2
          exact q2
    · have h1 : z.length = 0 := by
        by_cases h : z.length = 0
        · exact h
        · exact absurd (decide_eq_true (by omega)) e1
      have eq : nmS z = false := nm_empty h1
      have q2 := q H fun _ _ e => e
      rw [eq] at q2
      exact ⟨_, rfl, iteT q2⟩
  · refine ⟨v, rfl, v, .ty "str", t, .type "str", false, rfl, .ty "str", ty, ek, _, rfl, iteT (iteT q)⟩
end
end Kx
set_option Elab.async false
set_option linter.all false
set_option maxRecDepth 100000
set_option maxHeartbeats 4000000
namespace Kx
open PySem PySem.Spec PyProof.Rows L2 Gd
abbrev sWord : Stmt := topS 30
theorem scWord : FnScope ["_law_deal_here", "_law_taken", "_law_letters", "_law_way", "_law_word_here", "_law_k", "_law_tail"] ["_law_deal_here", "_law_taken"] (defScope sWord) := ⟨rfl, rfl, rfl, by decide +kernel, rfl, by decide +kernel, by decide +kernel⟩
/-! ### names -/
theorem str_app (x y : Str) : (x ++ y).cps.toList = x.cps.toList ++ y.cps.toList := by rw [PySem.Str.cps_append, Array.toList_append]
theorem nm_of {z : Str} {c : Nat} {r : List Nat} (e : z.cps.toList = c :: r) (hc : inL c = true) (hr : ∀ d ∈ r, inN d = true) (hl : r.length ≤ 7) : nmS z = true := by
  unfold nmS
  rw [e, nmL_cons, hc, List.all_cons, inN_eq c, hc, Bool.true_or, List.all_eq_true.mpr hr, decide_eq_true (by rw [List.length_cons]; omega)]
  rfl
theorem nm_len {z : Str} (h : nmS z = true) : 1 ≤ z.length ∧ z.length ≤ 8 := by
  refine ⟨?_, ?_⟩
  · by_cases h0 : z.length = 0
    · rw [nm_empty h0] at h
      cases h
    · omega
  · by_cases h8 : z.length ≤ 8
    · exact h8
    · rw [nm_long h8] at h
      cases h
def wk (k : Nat) : Str := Str.ofString "w" ++ ((toString (k : Int) : String) : Str)
theorem wk_nm : ∀ k : _root_.Fin 50, nmS (wk k.1) = true := by decide +kernel
theorem wk_len : ∀ k : _root_.Fin 50, (wk k.1).length ≤ 3 ∧ ((toString ((k.1 : Nat) : Int) : String) : Str).length ≤ 3 := by decide +kernel
theorem wk_nd : ((List.range 50).map wk).Nodup := by decide +kernel
theorem nd_le : ∀ (l ts : List Str), l.Nodup → (∀ x ∈ l, x ∈ ts) → l.length ≤ ts.length
  | [], _, _, _ => Nat.zero_le _
  | x :: r, ts, nd, h => by
    have hx : x ∈ ts := h x (List.mem_cons_self ..)
    have nd2 := List.nodup_cons.mp nd
    have := nd_le r (ts.erase x) nd2.2 fun y hy => (List.mem_erase_of_ne (fun e => nd2.1 (by rw [← e]; exact hy))).mpr (h y (List.mem_cons_of_mem _ hy))
    rw [List.length_erase_of_mem hx] at this
    have p : 0 < ts.length := List.length_pos_of_mem hx
    rw [List.length_cons]
    omega
theorem wk_new {ts : List Str} (hl : ts.length ≤ 40) (h : ∀ j, j < ts.length → wk j ∈ ts) : wk ts.length ∉ ts := by
  intro hm
  have nd : ((List.range (ts.length + 1)).map wk).Nodup := by
    have e : (List.range 50).map wk = (List.range (ts.length + 1)).map wk ++ ((List.range' (ts.length + 1) (49 - ts.length)).map wk) := by
      rw [← List.map_append]
      congr 1
      have : (50 : Nat) = (ts.length + 1) + (49 - ts.length) := by omega
      rw [this, List.range_eq_range', List.range_eq_range', ← List.range'_append_1]
      simp
    have n := wk_nd
    rw [e] at n
    exact (List.nodup_append.mp n).1
  have := nd_le _ ts nd fun x hx => by
    obtain ⟨j, hj, rfl⟩ := List.mem_map.mp hx
    have hj := List.mem_range.mp hj
    by_cases e : j = ts.length
    · rw [e]; exact hm
    · exact h j (by omega)
  rw [List.length_map, List.length_range] at this
  omega
theorem inV_str (z : Str) (ts : List Str) : inV (.str z) (ts.map V.str) = decide (z ∈ ts) := by
  unfold inV
  rw [List.any_map]
  induction ts with
  | nil => rfl
  | cons t r ih =>
    rw [List.any_cons, ih]
    by_cases e : t = z
    · subst e
      simp [eqV]
    · have : ¬ z = t := fun q => e q.symm
      simp [eqV, e, this]
theorem all_flat (ts : List Str) : (ts.map V.str).all flatV = true := by
  rw [List.all_map, List.all_eq_true]
  intro x _
  rfl
def words7 : List Str := [Str.ofString "kind", Str.ofString "make", Str.ofString "a", Str.ofString "b", Str.ofString "ab", Str.ofString "one", Str.ofString "x0"]
theorem words7_nm : ∀ z ∈ words7, nmS z = true := by decide +kernel
theorem sign_L : ∀ d : _root_.Fin 26, ∃ c, signs.cps.toList[d.1]? = some c ∧ inL c = true := by decide +kernel
theorem sign_N {d : Nat} (h : d < 36) : ∃ c, signs.cps.toList[d]? = some c ∧ inN c = true := by
  have hl : d < signs.cps.toList.length := by
    rw [show signs.cps.toList.length = 36 by decide +kernel]
    exact h
  exact ⟨_, List.getElem?_eq_getElem hl, decide_eq_true (List.getElem_mem hl)⟩
theorem join_signs : ∀ cs : List Nat, (Txt.join (Str.ofString "") (cs.map fun c => (⟨#[c]⟩ : Str))).cps.toList = cs := by
  intro cs
  rw [TL.join_eq]
  induction cs with
  | nil => rfl
  | cons c r ih =>
    cases r with
    | nil => rfl
    | cons d r =>
      show (((⟨#[c]⟩ : Str) ++ Str.ofString "") ++ Str.join (Str.ofString "") (((d :: r).map fun c => (⟨#[c]⟩ : Str)))).cps.toList = _
      rw [str_app, ih]
      rfl
theorem ones_sum : ∀ cs : List Nat, ((cs.map fun c => (⟨#[c]⟩ : Str)).map (·.length)).sum = cs.length
  | [] => rfl
  | c :: r => by
    rw [List.map_cons, List.map_cons, List.sum_cons, ones_sum r]
    show 1 + r.length = r.length + 1
    omega
end Kx
set_option Elab.async false
set_option linter.all false
set_option maxRecDepth 100000
set_option maxHeartbeats 4000000
namespace Kx
open PySem PySem.Spec PyProof.Rows L2 Gd
/-- a comprehension over a range: one name as the target, no test -/
theorem lc_rangeY {n j : Nat} {te : TE} {vs : List Nat} {σ : L2.St} {H1 : Hp} {D : Addr} {Qd : Hp → Prop} (Pv : Nat → Hp → Prop) (hw : ∀ v, wipe ((wipe σ vs).set j (some v)) vs = wipe σ vs) (h0 : Pv 0 (upd H1 D (.lst [])))
    (hs : ∀ i H, i < n → Pv i H → te ((wipe σ vs).set j (some (.int (0 + (i : Int))))) H fun y H4 => ∃ acc, H4 D = some (.lst acc) ∧ acc.length < sizeLine ∧ Pv (i + 1) (upd H4 D (.lst (acc ++ [y]))))
    (hd : ∀ H, Pv n H → Qd H) : ∃ W : Nat → Nat → Hp → Prop, (∃ m, W 0 m (upd H1 D (.lst []))) ∧ ∀ i m H, W i m H →
      ((Itr 0 n).stop i H ∧ Qd H) ∨ ((Itr 0 n).go i H ∧ ∃ Nx : Hp → Prop, (∀ H', Nx H' → ∃ m', m' < m ∧ W (i + 1) m' H') ∧ ∀ v H', (Itr 0 n).yld i H v H' → gName j v (wipe σ vs) H' fun τ H2 => wipe τ vs = wipe σ vs ∧ tYes τ H2 fun b H3 =>
        if b = true then te τ H3 fun y H4 => ∃ acc, H4 D = some (.lst acc) ∧ acc.length < sizeLine ∧ Nx (upd H4 D (.lst (acc ++ [y]))) else Nx H3) :=
  lc_range Pv h0 (fun i H e p => ⟨hw _, yes_if (hs i H e p)⟩) hd
/-- what follows a statement, shown once -/
theorem seq_join {t u : TS} {D : Ends} {σ : L2.St} {H : Hp} (R : L2.St → Hp → Prop) (hR : ∀ σ H, R σ H → u D σ H) (h : (∀ σ H, R σ H → u D σ H) → t { D with nx := u D } σ H) : tSeq t u D σ H := h hR
section
variable {P : Program} {w : World} {K : PySem.W.Frag} {mg : Str → Option Value} {base : Heap}
structure TW0 (mg : Str → Option Value) : Prop where
  len : mg "len" = none
  str : mg "str" = none
  range : mg "range" = none
def spWord : Sp := fun vs H Q _ => ∃ (p q : Addr) (ts : List Str), vs = [.ref p, .ref q] ∧ DealAt H p ∧ H q = some (.lst (ts.map V.str)) ∧ q ≠ p ∧ ts.length ≤ 40 ∧
  ∀ (z : Str) (H' : Hp), nmS z = true → z ∉ ts → DealAt H' p → Sb p H H' → Q (.str z) H'
theorem ok_word {f fp : Addr} {fd fdp : FuncData} (F : Fun K "_law_word" "_law_word" sWord f fd) (T : TW0 mg) (GP : FnOk P w K mg base CX0 1 fp fdp ["_law_deal_here", "_law_many"] spPick) (kp : PySem.W.keepIn K (.ref fp) = true)
    (bP : Binds K fdp ["_law_deal_here", "_law_many"] []) (gP : mg "_law_pick" = some (.ref fp)) : FnOk P w K mg base CX0 2 f fd ["_law_deal_here", "_law_taken"] spWord := by
  refine F.ok scWord (fun vs H Q E h => ?_) (fun cv A ou s H vs Q E hr h => ?_)
  · obtain ⟨p, q, ts, rfl, _⟩ := h
    rfl
  obtain ⟨p, q, ts, rfl, hD, hq, nqp, hl, k⟩ := h
  refine ⟨_, pss_cons (ps_set (i := 2) scWord.nd rfl (.inr rfl) pe_str)
    (pss_cons (ps_par (i := 3) (j := 4) (by rfl) scWord.nd rfl rfl (by decide) rfl rfl
      (pa_cons (pe_call GP hr (by rfl) gP kp bP .nil pass0 (pa_cons (pv 0) (pa_cons pe_int pa_nil)))
      (pa_cons (pe_ix ix_list (pe_lst (pa_cons pe_str (pa_cons pe_str (pa_cons pe_str (pa_cons pe_str (pa_cons pe_str (pa_cons pe_str (pa_cons pe_str pa_nil))))))))
        (pe_call GP hr (by rfl) gP kp bP .nil pass0 (pa_cons (pv 0) (pa_cons pe_int pa_nil))) (fun _ _ => rfl)) pa_nil)) (by rfl))
    (pss_cons (ps_if (pt_cmpR op_gt (pv 3) pe_int (nomark _))
      (pss_cons (ps_setLc (i := 6) (own := [("_law_k", 5)]) (g := gName 5) (tt := tYes) (by rfl) scWord.nd rfl rfl (sw_true rfl rfl rfl (by decide +kernel))
          (pi_range1 rfl T.range (pa_cons (pe_ix ix_list (pe_lst (pa_cons pe_int (pa_cons pe_int (pa_cons pe_int pa_nil)))) (pe_op op_sub (pv 3) pe_int) (fun _ _ => rfl)) pa_nil))
          (blkOk_by (own := [("_law_k", 5)]) (N := ["_law_deal_here", "_law_taken", "_law_letters", "_law_way", "_law_word_here", "_law_k", "_law_tail"]) (sc := defScope sWord) (by decide +kernel))
          (fun _ _ _ _ _ => pg_name (i := 5) scWord.nd rfl (Or.inl rfl)) (fun _ _ _ _ _ => pts_nil)
          (fun _ _ _ _ _ => pe_ix ix_str (pv 2) (pe_call GP hr (by rfl) gP kp bP .nil pass0 (pa_cons (pv 0) (pa_cons pe_int pa_nil))) (fun _ _ => rfl)))
      (pss_one (ps_set (i := 4) scWord.nd rfl (.inl rfl) (pe_op op_add_str (pe_ix ix_str (pv 2) (pe_call GP hr (by rfl) gP kp bP .nil pass0 (pa_cons (pv 0) (pa_cons pe_int pa_nil))) (fun _ _ => rfl)) (pe_join pe_str (pv 6)))))) pss_nil)
    (pss_cons (ps_for PassesOwn.never rfl (pi_range1 rfl T.range (pa_cons (pe_op op_add (pe_callB call_len_seq (by rfl) T.len PySem.boot_len (pa_cons (pv 1) pa_nil)) pe_int) pa_nil)) (pg_name (i := 5) scWord.nd rfl (.inl rfl))
      (pss_cons (ps_if (pt_cmpR op_notIn_seq (pv 4) (pv 1) (by rfl)) (pss_one (ps_ret (pv 4))) pss_nil)
      (pss_one (ps_set (i := 4) scWord.nd rfl (.inl rfl) (pe_op op_add_str pe_str (pe_callTy call_str_int (by rfl) T.str boot_str (pa_cons (pv 5) pa_nil)))))))
    (pss_one (ps_ret (pv 4)))))), ?_⟩
  refine ⟨.ref p, rfl, p, 4, rfl, hD, by decide, by decide, fun d1 H1 l1 u1 D1 b1 => ?_⟩
  have q1 : H1 q = some (.lst (ts.map V.str)) := b1 q _ nqp hq
  refine ⟨(by show 7 ≤ sizeLine; decide), fun L nL => ?_⟩
  have nLp : L ≠ p := by
    obtain ⟨_, _, _, e, _⟩ := D1
    exact fun e2 => by rw [e2, e] at nL; cases nL
  have s1 : Same H1 (upd H1 L (.lst [V.str "kind", .str "make", .str "a", .str "b", .str "ab", .str "one", .str "x0"])) := same_new nL
  refine ⟨.ref p, rfl, p, 7, rfl, D1.keep s1, by decide, by decide, fun d2 H2 l2 u2 D2 b2 => ?_⟩
  have L2 : H2 L = some (.lst [V.str "kind", .str "make", .str "a", .str "b", .str "ab", .str "one", .str "x0"]) := b2 L _ nLp upd_same
  have q2 : H2 q = some (.lst (ts.map V.str)) := b2 q _ nqp (s1 q _ q1)
  have B2 : Sb p H H2 := b1.trans ((Sb.of s1).trans b2)
  obtain ⟨z0, e0, h0⟩ : ∃ z, ([V.str "kind", .str "make", .str "a", .str "b", .str "ab", .str "one", .str "x0"])[d2.toNat]? = some (V.str z) ∧ nmS z = true := by
    have hd : d2.toNat < words7.length := by show d2.toNat < 7; omega
    refine ⟨words7[d2.toNat], ?_, words7_nm _ (List.getElem_mem hd)⟩
    show (words7.map V.str)[d2.toNat]? = _
    rw [List.getElem?_map, List.getElem?_eq_getElem hd]
    rfl
  refine ⟨L, _, d2, .str z0, rfl, rfl, SqL.of L2, at_of (j := d2.toNat) (by omega) e0, V.int d1, .str z0, rfl, ?_⟩
  dsimp only
  refine seq_join (fun σ H3 => ∃ (z : Str) (o5 o6 : Option V), σ = [some (.ref p), some (.ref q), some (.str signs), some (.int d1), some (.str z), o5, o6] ∧ nmS z = true ∧ DealAt H3 p ∧ Sb p H H3) ?_ fun rest => ?_
  · rintro σ H3 ⟨z, o5, o6, rfl, hz, D3, B3⟩
    have q3 := B3 q _ nqp hq
    refine ⟨.ref q, rfl, q, ts.map V.str, rfl, .inl (SqL.of q3), _, _, rfl, rfl, _, rfl, ?_, ?_, ?_⟩
    · rw [List.length_map]; omega
    · rw [List.length_map]; omega
    have en : (((ts.map V.str).length : Int) + 1).toNat = ts.length + 1 := by rw [List.length_map]; omega
    rw [en]
    refine for_range (n := ts.length + 1) (fun i σ H' => ∃ (z : Str) (o5 : Option V), σ = [some (.ref p), some (.ref q), some (.str signs), some (.int d1), some (.str z), o5, o6] ∧ nmS z = true ∧ H' = H3 ∧ (i = 0 ∨ z = wk (i - 1)) ∧ ∀ j, j + 1 < i → wk j ∈ ts)
      ⟨z, o5, rfl, hz, rfl, .inl rfl, fun j h => by omega⟩ ?_ ?_
    · rintro i σ H' hi ⟨z, o5, rfl, hz, rfl, hw, hj⟩
      refine ⟨.str z, rfl, .ref q, rfl, q, ts.map V.str, rfl, .inl (SqL.of q3), rfl, all_flat ts, _, rfl, ?_⟩
      rw [inV_str]
      by_cases hm : z ∈ ts
      · rw [decide_eq_true hm]
        have hi2 : i < 50 := by omega
        have n3 : (Str.ofString (toString (i : Int))).length ≤ 3 := (wk_len ⟨i, hi2⟩).2
        refine iteF ⟨_, rfl, _, rfl, ?_, _, _, rfl, rfl, ?_, wk i, some (.int (0 + (i : Int))), ?_, wk_nm ⟨i, hi2⟩, rfl, .inr rfl, fun j h => ?_⟩
        · have : ((0 : Int) + i).natAbs = i := by omega
          rw [this]
          exact Nat.lt_of_le_of_lt (Nat.log2_le_self i) (by omega)
        · rw [Int.zero_add]
          exact Nat.le_of_lt (small1000 (by show 1 + _ ≤ 1000; omega))
        · rw [Int.zero_add]
          rfl
        · by_cases e : j + 1 < i
          · exact hj j e
          · have e2 : j = i - 1 := by omega
            subst e2
            rcases hw with h0 | hw
            · omega
            · rw [← hw]; exact hm
      · rw [decide_eq_false hm]
        exact iteT ⟨.str z, rfl, k z _ hz hm D3 B3⟩
    · rintro σ H' ⟨z, o5, rfl, hz, rfl, hw, hj⟩
      have ez : z = wk ts.length := by
        rcases hw with h | h
        · omega
        · exact h
      subst ez
      exact ⟨_, rfl, k _ _ hz (wk_new hl fun j h => hj j (by omega)) D3 B3⟩
  refine ⟨_, rfl, _, _, rfl, rfl, _, rfl, ite2 (fun e => ?_) (fun e => ?_)⟩
  · have hd1 : 0 < d1 := of_decide_eq_true e
    -- the range's length
    refine ⟨(by show 3 ≤ sizeLine; decide), fun M nM => ?_⟩
    have nMp : M ≠ p := by
      obtain ⟨_, _, _, e, _⟩ := D2
      exact fun e2 => by rw [e2, e] at nM; cases nM
    have s3 : Same H2 (upd H2 M (.lst [V.int 1, .int 2, .int 7])) := same_new nM
    obtain ⟨n, en, hn⟩ : ∃ n : Nat, ([V.int 1, .int 2, .int 7])[(d1 - 1).toNat]? = some (V.int n) ∧ n ≤ 7 := by
      have : d1 = 1 ∨ d1 = 2 ∨ d1 = 3 := by omega
      rcases this with rfl | rfl | rfl
      · exact ⟨1, rfl, by omega⟩
      · exact ⟨2, rfl, by omega⟩
      · exact ⟨7, rfl, by omega⟩
    refine ⟨.int d1, rfl, _, _, rfl, rfl, M, _, d1 - 1, .int n, rfl, rfl, SqL.of upd_same, at_of (j := (d1 - 1).toNat) (by omega) en, _, rfl, by omega, by omega, fun D nD => ?_⟩
    have nDp : D ≠ p := by
      obtain ⟨_, _, _, e, _⟩ := D2
      exact fun e2 => by rw [e2, s3 _ _ e] at nD; cases nD
    have B3 : Sb p H (upd (upd H2 M (.lst [V.int 1, .int 2, .int 7])) D (.lst [])) := B2.trans ((Sb.of s3).trans (.new nD))
    refine lc_rangeY (n := n) (fun i H4 => ∃ cs : List Nat, DealAt H4 p ∧ Sb p H H4 ∧ H4 D = some (.lst ((cs.map fun c => (⟨#[c]⟩ : Str)).map V.str)) ∧ cs.length = i ∧ ∀ c ∈ cs, inN c = true) (fun _ => rfl)
      ⟨[], (D2.keep s3).keep (same_new nD), B3, upd_same, rfl, fun c h => by cases h⟩ ?_ ?_
    · rintro i H4 hi ⟨cs, D4, B4, e4, l4, n4⟩
      refine ⟨.str signs, rfl, .ref p, rfl, p, 36, rfl, D4, by decide, by decide, fun d5 H5 l5 u5 D5 b5 => ?_⟩
      obtain ⟨c, ec, nc⟩ := sign_N (d := d5.toNat) (by omega)
      have e5 := b5 D _ nDp e4
      refine ⟨signs, d5, c, rfl, rfl, by decide +kernel, by rw [show d5 = ((d5.toNat : Nat) : Int) by omega]; exact atI_nat ec, _, e5, ?_, cs ++ [c], ?_, ?_, ?_, ?_, ?_⟩
      · rw [List.length_map, List.length_map]
        exact small1000 (by omega)
      · obtain ⟨x, y, u, e, l⟩ := D5
        exact ⟨x, y, u, by rw [upd_ne nDp.symm]; exact e, l⟩
      · intro b o n e
        by_cases eb : b = D
        · subst eb
          exact absurd (B2.trans (Sb.of s3) b o n e) (by rw [nD]; simp)
        · rw [upd_ne eb]
          exact b5 b o n (B4 b o n e)
      · rw [upd_same, List.map_append, List.map_append]
        rfl
      · rw [List.length_append, l4]
        rfl
      · intro x hx
        rcases List.mem_append.mp hx with h | h
        · exact n4 x h
        · rw [List.mem_singleton.mp h]; exact nc
    · rintro H4 ⟨cs, D4, B4, e4, l4, n4⟩
      refine ⟨.str signs, rfl, .ref p, rfl, p, 26, rfl, D4, by decide, by decide, fun d5 H5 l5 u5 D5 b5 => ?_⟩
      obtain ⟨c, ec, nc⟩ := sign_L ⟨d5.toNat, by omega⟩
      have e5 := b5 D _ nDp e4
      refine ⟨signs, d5, c, rfl, rfl, by decide +kernel, by rw [show d5 = ((d5.toNat : Nat) : Int) by omega]; exact atI_nat ec, ⟨_, rfl⟩, .ref D, rfl, _, D, _, rfl, rfl, .inl (SqL.of e5), ?_, _, _, rfl, rfl, ?_, ?_⟩
      · rw [ones_sum, List.length_map]
        show cs.length + cs.length * 0 ≤ 16777216
        omega
      · have := len_list (Txt.join (Str.ofString "") (cs.map fun c => (⟨#[c]⟩ : Str)))
        rw [join_signs] at this
        rw [← this]
        exact Nat.le_of_lt (small1000 (by show 1 + _ ≤ 1000; omega))
      · refine rest _ _ ⟨_, _, _, rfl, nm_of (c := c) (r := cs) ?_ nc n4 (by omega), D5, B4.trans b5⟩
        rw [str_app, join_signs]
        rfl
  · exact rest _ _ ⟨z0, none, none, rfl, h0, D2, B2⟩
end
end Kx
set_option Elab.async false
set_option linter.all false
set_option maxRecDepth 100000
set_option maxHeartbeats 4000000
/-! enumerate(t), t a tuple -/
namespace Gd
open PySem PySem.Spec PyProof.Rows L2
/-- the tuple at t, each item in a new pair with its place -/
def Iet (K : PySem.W.Frag) (t : Addr) : It where
  go i H := ∃ (vs : List V) (v : V), SqT K H t vs ∧ vs[i]? = some v
  yld i H y H' := ∃ (p : Addr) (v : V), y = .ref p ∧ H p = none ∧ H' = upd H p (.tup [.int (i : Nat), v]) ∧ ∀ vs, SqT K H t vs → vs[i]? = some v
  stop i H := ∃ vs : List V, SqT K H t vs ∧ vs.length ≤ i
theorem turn_et {P : Program} {w : World} {K : PySem.W.Frag} {es : List Expr} {n : Nat} {ps : Pos} (t e j : Addr) :
    Turn P w K (.Tuple es n ps) (Iet K t) [e, j] e (fun i g => (∃ o, IsEnum g e j ((i : Nat) : Int) o) ∧ g.IsTupleIter j t i ∧ e ≠ j) := by
  refine ⟨List.mem_cons_self .., fun i g st b hb => ?_, fun i g g' st k => ?_, ?_, ?_, fun A i s Q E st q => ?_⟩
  · obtain ⟨⟨o, he⟩, ⟨oj, hj, cj, dj⟩, _⟩ := st
    rcases List.mem_cons.mp hb with rfl | hb
    · exact ⟨_, he, fun v q => nomatch q⟩
    · rw [List.mem_singleton.mp hb]
      exact ⟨oj, hj, fun v q => by rw [dj] at q; cases q⟩
  · obtain ⟨⟨o, he⟩, hj, ne⟩ := st
    exact ⟨⟨o, k e (List.mem_cons_self ..) _ he⟩, hj.at fun o q => k j (by simp) o q, ne⟩
  · intro X hP hw hK hc i pins s σ H E I hf st hg
    subst hP hw hK
    obtain ⟨⟨old, he⟩, hj, ne⟩ := st
    obtain ⟨vs, v, hq, hv⟩ := hg
    obtain ⟨its, rv, ht, _⟩ := I.tuple hq
    obtain ⟨u, hu, ru⟩ := rv.get hv
    have le : e < s.heap.objs.size := Heap.lt_size he
    have lj : j < s.heap.objs.size := by obtain ⟨_, q, _⟩ := hj; exact Heap.lt_size q
    have tup : s.heap.IsTuple t its.toArray := ht
    have nt : e ≠ t := fun q => by
      obtain ⟨o, ho, hcl, _⟩ := tup
      rw [← q, he] at ho
      cases ho
      exact absurd (Value.type.inj hcl) (by decide)
    have njt : t ≠ j := fun q => by
      obtain ⟨o, ho, hcl, _⟩ := tup
      obtain ⟨o2, ho2, hcl2, _⟩ := hj
      rw [q, ho2] at ho
      cases ho
      rw [hcl2] at hcl
      exact absurd (Value.type.inj hcl) (by decide)
    have D := Draws.tuple (prog := X.prog) (w := X.w) (A := X.A.in1) (show X.A.in1.handled = none from I.ok.hd hc) j t njt its.toArray
    have hlt : i < its.toArray.size := by
      have := (List.getElem?_eq_some_iff.mp hu).1
      simpa using this
    refine wpAny_pyNext_enum_itemD D he ⟨hj, tup⟩ hlt ne (by simp [ne, nt]) fun x h1 tk hx out st1 hT hsz hk => ?_
    have ex : x = u := by
      have h2 : its[i]? = some x := by simpa using hx
      rw [hu] at h2
      exact (Option.some.inj h2).symm
    subst ex
    refine ⟨_, rfl, wpAny_letOwnedTupleGo_enum (s := { s with heap := h1, toks := tk + 1 }) out fun h2 he2 sb => ?_⟩
    have T2 : h2.get? s.heap.objs.size = some { cls := .type "tuple", data := .seq #[.int i tk, x] } := (sb.2 _ (Nat.ne_of_gt le)).trans hT
    have new : ObjOk X.prog X.w (upd H s.heap.objs.size (.tup [.int (i : Nat), v])) h2 s.heap.objs.size (.tup [.int (i : Nat), v]) := by
      refine ⟨?_, [.int i tk, x], .cons ⟨_, rfl⟩ (.cons ru .nil), _, T2, rfl, _, rfl⟩
      show 2 ≤ sizeLine
      decide
    have in2 : ∀ b : Addr, b ∈ [e, j] → b = e ∨ b = j := fun b hb => by simpa using hb
    have J : Inv X pins σ (upd H s.heap.objs.size (.tup [.int (i : Nat), v])) { s with heap := h2, toks := tk + 1 } := by
      refine I.turnedNew (ch := [e, j]) (fun b o hb q => ?_) hf (Nat.le_refl _) new
      have n1 : b ≠ e := fun z => hb (by simp [z])
      have n2 : b ≠ j := fun z => hb (by simp [z])
      exact (sb.2 b n1).trans (hk b o n1 n2 q)
    refine ⟨.ref s.heap.objs.size, _, J, rfl, ⟨_, v, rfl, I.hok.fresh (Nat.le_refl _), rfl, fun ys hy => ?_⟩, ⟨⟨x, ?_⟩, st1.1.at fun o q => (sb.2 j (Ne.symm ne)).trans q, ne⟩, fun b hb => ?_⟩
    · rw [I.tuple_inj hy hq]
      exact hv
    · have q : ((i + 1 : Nat) : Int) = (i : Int) + 1 := by omega
      rw [q]
      exact he2
    · have lb : b < s.heap.objs.size := by rcases in2 b hb with z | z <;> rw [z] <;> assumption
      rw [upd_ne (Nat.ne_of_lt lb)]
      exact (hf b hb).1
  · intro X hP hw hK hc i pins s σ H E I hf st hg
    subst hP hw hK
    obtain ⟨⟨old, he⟩, hj, ne⟩ := st
    obtain ⟨vs, hq, hv⟩ := hg
    obtain ⟨its, rv, ht, _⟩ := I.tuple hq
    have tup : s.heap.IsTuple t its.toArray := ht
    obtain ⟨f0, f1, f2, f3, f4, f5⟩ := hf j (by simp)
    have ln := rv.length
    have njt : t ≠ j := fun q => by
      obtain ⟨o, ho, hcl, _⟩ := tup
      obtain ⟨o2, ho2, hcl2, _⟩ := hj
      rw [q, ho2] at ho
      cases ho
      rw [hcl2] at hcl
      exact absurd (Value.type.inj hcl) (by decide)
    refine wpAny_bind (wpAny_attempt (wpAny_callSpecial?_slot (name := Str.ofString "__next__") (T := "enumerate") ⟨_, he, rfl⟩ F.slot_enumerate_next (wpAny_call_entry F.slot_enumerate_next ⟨_, he, rfl⟩ F.entry_enumerate_next ?_ (F.args_enumerate_next_1 _))))
    show wpAny _ _ (field (.ref e) 2 >>= _) _ _ _
    refine wpAny_bind (wpAny_field he rfl (x := .ref j) rfl ?_)
    refine wpAny_bind (PySem.wpAny_nextOf_tuple_end (show X.A.in1.handled = none from I.ok.hd hc) hj tup (by simp; omega) fun h1 y sb hy => ?_)
    obtain ⟨o, ho, hcl⟩ := hy
    refine wpAny_bind (wpAny_isInstance (T := "StopIteration") (b := true) ⟨o, ho, hcl⟩ isSubtype_stop ?_)
    exact wpAny_pure ⟨rfl, I.turned (t' := s.toks) (fun b o hb q => sb b o hb q) f0 f1 f3 f4 f5⟩
  · obtain ⟨⟨_, he⟩, _⟩ := st
    exact wpAny_pyIter_enum he q
/-- enumerate.__new__ over what begins -/
theorem meets_enum1 {v : Value} {o : Obj} {S : Heap → Prop} (B : Begins v o S) :
    Meets (Builtin.«enumerate.__new__» ⟨[.type "enumerate", v], []⟩) (fun _ R s => S s.heap ∧
      R (.ok (.ret (.ref (s.heap.push o).objs.size))) { s with heap := (s.heap.push o).push { cls := .type "enumerate", data := .fields #[.none, .bool false, .ref s.heap.objs.size, rawInt 0, .none, .none] } }) := by
  refine .of_wp fun prog w A R s z => ?_
  obtain ⟨hp, gs, dr, tk, os⟩ := s
  obtain ⟨z1, z2⟩ := z
  have sub := sub_enumerate
  have it : ∀ {A' : Around} {E Q : Value → Shared → Prop}, Q (.ref hp.objs.size) ⟨hp.push o, gs, dr, tk, os⟩ → wpAny (model prog w) A' (pyIter v) Q E ⟨hp, gs, dr, tk, os⟩ := fun q => B.iter prog w _ _ ⟨hp, gs, dr, tk, os⟩ _ z1 q
  wp_walk using it
  refine wpAny_stack_any fun _ => wpAny_pure ?_
  split
  · rename_i c _ _ _ _ _
    cases (c == Value.type "enumerate") <;> (wp_walk using it; exact ⟨_, rfl, z2⟩)
  · wp_walk using it
    exact ⟨_, rfl, z2⟩
theorem call_enumT {M : Program} {w : World} {A : Around} {E : Value → Shared → Prop} {s : Shared} {t : Addr} {items : Array Value} {Q : Value → Shared → Prop} (ht : s.heap.IsTuple t items)
    (q : ∀ h', IsEnum h' (s.heap.objs.size + 1) s.heap.objs.size 0 .none → h'.IsTupleIter s.heap.objs.size t 0 → (∀ b o, s.heap.get? b = some o → h'.get? b = some o) → Q (.ref (s.heap.objs.size + 1)) { s with heap := h' }) :
    wpAny (model M w) A (call (.type "enumerate") [.ref t]) Q E s := by
  refine callType_new F.called_enumerate (by decide) (F.typeCall_enumerate_1 _) (F.newCall_enumerate_1 _) (fun obj => F.args_object_init_2 obj _) F.entry_enumerate_new (meets_enum1 (begins_tuple t items)) ⟨ht, ?_⟩
  have sz : (s.heap.push { cls := .type "tuple_iterator", data := .fields #[.ref t, .int 0 0] }).objs.size = s.heap.objs.size + 1 := Heap.size_push ..
  show _ ∧ _
  rw [sz]
  have he : IsEnum ((s.heap.push { cls := .type "tuple_iterator", data := .fields #[.ref t, .int 0 0] }).push { cls := .type "enumerate", data := .fields #[.none, .bool false, .ref s.heap.objs.size, rawInt 0, .none, .none] }) (s.heap.objs.size + 1) s.heap.objs.size 0 .none := by
    have z := Heap.get?_push_size (s.heap.push { cls := .type "tuple_iterator", data := .fields #[.ref t, .int 0 0] }) (o := { cls := .type "enumerate", data := .fields #[.none, .bool false, .ref s.heap.objs.size, rawInt 0, .none, .none] }) rfl
    rw [sz] at z
    exact z
  exact ⟨⟨_, he, rfl⟩, q _ he ⟨_, Heap.get?_push_of_some _ (Heap.get?_push_size _ rfl), rfl, rfl⟩ fun b o x => Heap.get?_push_of_some _ (Heap.get?_push_of_some _ x)⟩
def iEnT (K : PySem.W.Frag) (ta : TA) : TI := fun σ H R => ta σ H fun vs H1 => ∃ (t : Addr) (xs : List V), vs = [.ref t] ∧ SqT K H1 t xs ∧ R (Iet K t) H1
theorem pi_enT {X : Cx} {e : Expr} {ta : TA} {p pos tpos : Pos} {es : List Expr} {n : Nat} (hg : Gl X "enumerate") (hm : X.mg "enumerate" = none) (ha : PA X [e] ta) (hs : starEach [e] X.env = [(false, eval e X.env)] := by rfl) :
    PI X (.Tuple es n tpos) (.Call (.Name "enumerate" p) [e] [] pos) (iEnT X.K ta) := by
  constructor
  intro pins s σ H R I h
  refine Call_ (ld_blt I hg hm boot_enumerate (PyProof.Rows.callWith_type1 (thn (ha.run pos pins s σ H _ I h) fun us s1 z1 => ?_) hs rfl))
  obtain ⟨vs, H1, I1, r1, t, xs, ex, hq, q⟩ := z1
  subst ex
  have eu := Vals.ref1 r1
  subst eu
  obtain ⟨its, rv, ht, _⟩ := I1.tuple hq
  refine call_enumT (items := its.toArray) ht fun h' he hj hk => wpAny_pyIter_enum he ?_
  have I2 : Inv X pins σ H1 { s1 with heap := h' } := I1.kept (t' := s1.toks) hk
  refine ⟨s1.heap.objs.size + 1, [s1.heap.objs.size + 1, s1.heap.objs.size], _, _, H1, rfl, I2, turn_et t (s1.heap.objs.size + 1) s1.heap.objs.size, ⟨⟨.none, he⟩, hj, Nat.succ_ne_self _⟩, fun b hb => ?_, q⟩
  have lb : s1.heap.objs.size ≤ b := by
    rcases List.mem_cons.mp hb with z | z
    · rw [z]
      exact Nat.le_succ _
    · rw [List.mem_singleton.mp z]
      exact Nat.le_refl _
  exact I1.fpOk lb (I1.hok.fresh lb)
/-- for i, x in enumerate(t) -/
theorem for_enT {K : PySem.W.Frag} {t : Addr} {xs : List V} {g : TG} {tb : TS} {D : Ends} {σ : L2.St} {H : Hp} (Pv : Nat → L2.St → Hp → Prop) (h0 : Pv 0 σ H) (hl : ∀ i σ H, i ≤ xs.length → Pv i σ H → SqT K H t xs)
    (hs : ∀ i x σ H p, xs[i]? = some x → Pv i σ H → H p = none → g (.ref p) σ (upd H p (.tup [.int (i : Nat), x])) fun σ2 H2 => tb { D with nx := Pv (i + 1), ct := Pv (i + 1), bk := D.nx } σ2 H2) (hd : ∀ σ H, Pv xs.length σ H → D.nx σ H) :
    ∃ W : Nat → Nat → L2.St → Hp → Prop, (∃ m, W 0 m σ H) ∧ ∀ i m σ H, W i m σ H →
      ((Iet K t).stop i H ∧ D.nx σ H) ∨ ((Iet K t).go i H ∧ ∃ N : L2.St → Hp → Prop, (∀ σ' H', N σ' H' → ∃ m', m' < m ∧ W (i + 1) m' σ' H') ∧ ∀ x H', (Iet K t).yld i H x H' → g x σ H' fun σ2 H2 => tb { D with nx := N, ct := N, bk := D.nx } σ2 H2) := by
  refine ⟨fun i m σ H => i + m = xs.length ∧ Pv i σ H, ⟨xs.length, Nat.zero_add _, h0⟩, ?_⟩
  rintro i m σ H ⟨e, p⟩
  have q := hl i σ H (by omega) p
  cases hx : xs[i]? with
  | none =>
    have ei : i = xs.length := by
      have := List.getElem?_eq_none_iff.mp hx
      omega
    rw [ei] at p ⊢
    exact .inl ⟨⟨xs, q, Nat.le_refl _⟩, hd σ H p⟩
  | some v =>
    have hi : i < xs.length := (List.getElem?_eq_some_iff.mp hx).1
    refine .inr ⟨⟨xs, v, q, hx⟩, Pv (i + 1), fun σ' H' p' => ⟨m - 1, by omega, by omega, p'⟩, fun y H' z => ?_⟩
    obtain ⟨r, v', rfl, hr, rfl, hv⟩ := z
    have ev := hv xs q
    rw [hx] at ev
    cases ev
    exact hs i v σ H r hx p hr
end Gd
set_option Elab.async false
set_option linter.all false
set_option maxRecDepth 100000
set_option maxHeartbeats 4000000
namespace Ks
open PySem PySem.Spec PyProof.Rows L2 Gd Kx
abbrev sOne : Stmt := Kx.topS 18
abbrev sCk : Stmt := Kx.topS 19
abbrev sIsC : Stmt := Kx.topS 20
abbrev sCc : Stmt := Kx.topS 21
abbrev sCt : Stmt := Kx.topS 22
theorem scOne : FnScope ["value", "names"] ["value", "names"] (defScope sOne) := ⟨rfl, rfl, rfl, by decide +kernel, rfl, by decide +kernel, by decide +kernel⟩
theorem scCk : FnScope ["kinds", "index", "kind"] ["kinds"] (defScope sCk) := ⟨rfl, rfl, rfl, by decide +kernel, rfl, by decide +kernel, by decide +kernel⟩
theorem scIsC : FnScope ["value", "kinds", "name", "kind", "fields", "field"] ["value", "kinds"] (defScope sIsC) := ⟨rfl, rfl, rfl, by decide +kernel, rfl, by decide +kernel, by decide +kernel⟩
theorem scCc : FnScope ["constructors", "kinds", "names", "index", "constructor"] ["constructors", "kinds"] (defScope sCc) := ⟨rfl, rfl, rfl, by decide +kernel, rfl, by decide +kernel, by decide +kernel⟩
theorem scCt : FnScope ["kinds", "constructors", "full", "_", "constructor", "kind", "fields", "field"] ["kinds", "constructors"] (defScope sCt) := ⟨rfl, rfl, rfl, by decide +kernel, rfl, by decide +kernel, by decide +kernel⟩
/-! ### schemas as data -/
abbrev Rw := Str × Str × List Str
structure Md where
  ks : List Str
  rs : List Rw
structure Good (m : Md) : Prop where
  k1 : 1 ≤ m.ks.length
  k4 : m.ks.length ≤ 4
  kn : ∀ k ∈ m.ks, nmS k = true
  kd : m.ks.Nodup
  r1 : 1 ≤ m.rs.length
  r6 : m.rs.length ≤ 6
  rn : ∀ r ∈ m.rs, nmS r.1 = true
  rd : (m.rs.map (·.1)).Nodup
  rk : ∀ r ∈ m.rs, r.2.1 ∈ m.ks
  f3 : ∀ r ∈ m.rs, r.2.2.length ≤ 3
  fk : ∀ r ∈ m.rs, ∀ f ∈ r.2.2, f ∈ m.ks
  tr : ∀ k ∈ m.ks, ∃ r ∈ m.rs, r.2.1 = k ∧ r.2.2 = []
def StT (H : Hp) (a : Addr) (ss : List Str) : Prop := H a = some (.tup (ss.map V.str))
def RowV (H : Hp) (x : V) (r : Rw) : Prop := ∃ b f : Addr, x = .ref b ∧ H b = some (.tup [.str r.1, .str r.2.1, .ref f]) ∧ StT H f r.2.2
def RowsT (H : Hp) (a : Addr) (rs : List Rw) : Prop := ∃ xs : List V, H a = some (.tup xs) ∧ Paired (RowV H) xs rs
theorem RowV.keep {H H' : Hp} {x : V} {r : Rw} (h : RowV H x r) (s : Same H H') : RowV H' x r := by
  obtain ⟨b, f, e, h1, h2⟩ := h
  exact ⟨b, f, e, s _ _ h1, s _ _ h2⟩
theorem RowsT.keep {H H' : Hp} {a : Addr} {rs : List Rw} (h : RowsT H a rs) (s : Same H H') : RowsT H' a rs := by
  obtain ⟨xs, e, p⟩ := h
  exact ⟨xs, s _ _ e, Paired.mapP p fun x r q => RowV.keep q s⟩
theorem rows_at {H : Hp} : ∀ {xs : List V} {rs : List Rw} {n : Nat} {x : V}, Paired (RowV H) xs rs → xs[n]? = some x → ∃ r, rs[n]? = some r ∧ RowV H x r
  | _, _, n, x, .nil, h => by simp at h
  | _, _, 0, x, .cons (b := i) r t, h => by
    have e := Option.some.inj h
    subst e
    exact ⟨i, rfl, r⟩
  | _, _, n + 1, x, .cons r t, h => by
    obtain ⟨i, e, q⟩ := rows_at (n := n) t (by simpa using h)
    exact ⟨i, by simpa using e, q⟩
/-! ### what the module's defs lean on -/
structure TS0 (mg : Str → Option Value) : Prop where
  isi : mg "isinstance" = none
  str : mg "str" = none
  tup : mg "tuple" = none
  len : mg "len" = none
  all : mg "all" = none
  enu : mg "enumerate" = none
  rng : mg "range" = none
  mki : ∃ t, mg "MOST_KINDS" = some (.int 4 t)
  mco : ∃ t, mg "MOST_CONSTRUCTORS" = some (.int 6 t)
  mfi : ∃ t, mg "MOST_FIELDS" = some (.int 3 t)
/-- what is asked of a value that may be among strings -/
def OneOf (K : PySem.W.Frag) (H : Hp) (v : V) (ts : List Str) (b : Bool) : Prop := (∃ z, v = .str z ∧ b = decide (z ∈ ts)) ∨ (∃ t, TyX K H v t ∧ PySem.W.kitOne K t (.type "str") = some false ∧ b = false)
section
variable {P : Program} {w : World} {K : PySem.W.Frag} {mg : Str → Option Value} {base : Heap}
def spOne (K : PySem.W.Frag) : Sp := fun vs H Q _ => ∃ (v : V) (a : Addr) (ts : List Str) (b : Bool), vs = [v, .ref a] ∧ SqT K H a (ts.map V.str) ∧ OneOf K H v ts b ∧ Q (.bl b) H
theorem ok_one {f : Addr} {fd : FuncData} (F : Fun K "_is_one_of" "_is_one_of" sOne f fd) (T : TS0 mg) : FnOk P w K mg base CX0 1 f fd ["value", "names"] (spOne K) := by
  refine F.ok scOne (fun vs H Q E h => ?_) (fun cv A ou s H vs Q E hr h => ?_)
  · obtain ⟨v, a, ts, b, rfl, _⟩ := h
    rfl
  obtain ⟨v, a, ts, b, rfl, hs, hv, q⟩ := h
  refine ⟨_, pss_one (ps_ret (pe_and (pe_callB call_isi (by rfl) T.isi boot_isinstance (pa_cons (pv 0) (pa_cons (pe_bltn (v := .ty "str") (by rfl) T.str boot_str rfl) pa_nil))) (pe_one (pe_cmpR op_in_seq (pv 0) (pv 1) (by rfl))))), ?_⟩
  rcases hv with ⟨z, rfl, rfl⟩ | ⟨t, ty, ek, rfl⟩
  · refine ⟨.str z, rfl, .str z, .ty "str", _, _, true, rfl, .ty "str", .base (.str z), kit_ty (by decide +kernel), _, rfl, ?_⟩
    refine iteT ⟨.str z, rfl, .ref a, rfl, a, _, rfl, .inr hs, rfl, all_flat ts, ?_⟩
    show Q (.bl (inV (.str z) (ts.map V.str))) H
    rw [inV_str]
    exact q
  · refine ⟨v, rfl, v, .ty "str", _, _, false, rfl, .ty "str", ty, ek, _, rfl, iteF q⟩
end
end Ks
set_option Elab.async false
set_option linter.all false
set_option maxRecDepth 100000
set_option maxHeartbeats 4000000
namespace Ks
open PySem PySem.Spec PyProof.Rows L2 Gd Kx
theorem cut_take {xs : List V} {i : Nat} (h : i ≤ xs.length) : cutV xs none (some (i : Int)) = xs.take i := by
  unfold cutV
  rw [HT.sIx_none, HT.sIx_nat, List.drop_zero, Nat.sub_zero, Nat.min_eq_left h]
section
variable {P : Program} {w : World} {K : PySem.W.Frag} {mg : Str → Option Value} {base : Heap}
def spCk : Sp := fun vs H Q _ => ∃ (a : Addr) (m : Md), vs = [.ref a] ∧ StT H a m.ks ∧ Good m ∧ ∀ H', Same H H' → Q .non H'
theorem ok_ck {f fi : Addr} {fd fdi : FuncData} (F : Fun K "_check_kinds" "_check_kinds" sCk f fd) (T : TS0 mg) (GI : FnOk P w K mg base CX0 1 fi fdi ["value"] (spIs K)) (ki : PySem.W.keepIn K (.ref fi) = true) (bI : Binds K fdi ["value"] []) (gI : mg "is_name" = some (.ref fi)) :
    FnOk P w K mg base CX0 2 f fd ["kinds"] spCk := by
  obtain ⟨t4, m4⟩ := T.mki
  refine F.ok scCk (fun vs H Q E h => ?_) (fun cv A ou s H vs Q E hr h => ?_)
  · obtain ⟨a, m, rfl, _⟩ := h
    rfl
  obtain ⟨a, m, rfl, hs, g, q⟩ := h
  refine ⟨_, pss_cons (ps_if (PW.pt (pw_or (pt_not (pt_val (pe_callB call_isi (by rfl) T.isi boot_isinstance (pa_cons (pv 0) (pa_cons (pe_bltn (v := .ty "tuple") (by rfl) T.tup boot_tuple rfl) pa_nil)))))
        (pw_or1 (pt_not (pt_chain op_le op_le pe_int (pe_callB call_len_seq (by rfl) T.len PySem.boot_len (pa_cons (pv 0) pa_nil)) (pe_glob (v := .int 4) (by rfl) m4 ⟨_, rfl⟩)))))) pss_never pss_nil)
    (pss_one (ps_for PassesOwn.never rfl (pi_enT (by rfl) T.enu (pa_cons (pv 0) pa_nil)) (pg_tup rfl (pgs_cons (pg_name (i := 1) scCk.nd rfl (.inl rfl)) (pgs_cons (pg_name (i := 2) scCk.nd rfl (.inl rfl)) pgs_nil)))
      (pss_one (ps_if (PW.pt (pw_or (pt_not (pt_val (pe_call GI hr (by rfl) gI ki bI .nil pass0 (pa_cons (pv 2) pa_nil)))) (pw_or1 (pt_cmpR op_in_seq (pv 2) (pe_slice sl_tup (pv 0) po_none (po_some (pv 1))) (by rfl))))) pss_never pss_nil)))), ?_⟩
  refine ⟨.ref a, rfl, .ref a, .ty "tuple", _, _, true, rfl, .ty "tuple", .base (.tup hs), kit_ty (by decide +kernel), _, rfl, iteF ?_⟩
  refine ⟨.ref a, rfl, a, _, rfl, .inr (SqT.of hs), _, _, rfl, rfl, _, rfl, ?_⟩
  have k1 := g.k1
  have k4 := g.k4
  rw [decide_eq_true (show (1 : Int) ≤ ((m.ks.map V.str).length : Int) by rw [List.length_map]; omega)]
  refine iteT ⟨_, _, rfl, rfl, _, rfl, ?_⟩
  rw [decide_eq_true (show ((m.ks.map V.str).length : Int) ≤ 4 by rw [List.length_map]; omega)]
  refine iteF ?_
  refine ⟨.ref a, rfl, a, _, rfl, SqT.of hs, for_enT (K := K) (t := a) (xs := m.ks.map V.str) (fun i σ H' => ∃ o1 o2 : Option V, σ = [some (.ref a), o1, o2] ∧ Same H H') ⟨none, none, rfl, fun _ _ e => e⟩ (fun i σ H' _ p => ?_) ?_ ?_⟩
  · obtain ⟨_, _, _, s1⟩ := p
    exact SqT.of (s1 _ _ hs)
  · rintro i x σ H1 p hx ⟨o1, o2, rfl, s1⟩ np
    obtain ⟨z, hz, rfl⟩ : ∃ z, m.ks[i]? = some z ∧ x = V.str z := by
      rw [List.getElem?_map] at hx
      cases e : m.ks[i]? with
      | none => rw [e] at hx; cases hx
      | some z => rw [e] at hx; exact ⟨z, rfl, (Option.some.inj hx).symm⟩
    have hi : i < m.ks.length := (List.getElem?_eq_some_iff.mp hz).1
    have hn := g.kn z (List.mem_of_getElem? hz)
    have s2 : Same H1 (upd H1 p (.tup [.int (i : Nat), .str z])) := same_new np
    refine ⟨p, _, rfl, SqT.of upd_same, rfl, ?_⟩
    refine ⟨_, _, rfl, _, _, rfl, rfl, .str z, rfl, .str z, rfl, .inl ⟨z, rfl, by have := (nm_len hn).2; omega, fun H2 s3 => ?_⟩⟩
    rw [hn]
    have sA := s1.trans (s2.trans s3)
    refine ⟨true, rfl, iteF ?_⟩
    refine ⟨.str z, rfl, .ref a, rfl, .int (i : Nat), rfl, _, rfl, a, m.ks.map V.str, rfl, SqT.of (sA _ _ hs), ?_, fun L nL => ?_⟩
    · rintro ⟨_, e⟩
      rw [HT.sIx_nat, List.length_map] at e
      omega
    rw [cut_take (by rw [List.length_map]; omega), ← List.map_take]
    refine ⟨L, _, rfl, .inr (SqT.of upd_same), rfl, all_flat _, _, rfl, ?_⟩
    rw [if_neg (by decide), inV_str, decide_eq_false (fun h => ?_)]
    · exact iteF ⟨_, _, rfl, sA.trans (same_new nL)⟩
    · obtain ⟨j, hj, ej⟩ := List.getElem_of_mem h
      rw [List.length_take] at hj
      rw [List.getElem_take] at ej
      have e2 : m.ks[j]? = m.ks[i]? := by rw [hz, List.getElem?_eq_getElem (by omega), ej]
      have := (List.getElem?_inj (by omega) g.kd).mp e2
      omega
  · rintro σ H1 ⟨o1, o2, rfl, s1⟩
    exact q H1 s1
end
end Ks
set_option Elab.async false
set_option linter.all false
set_option maxRecDepth 100000
set_option maxHeartbeats 4000000
namespace Gd
open PySem PySem.Spec PyProof.Rows L2
theorem yes_of {σ : L2.St} {H : Hp} {Q : Bool → Hp → Prop} (h : Q true H) : tYes σ H Q := h
theorem yes_if {σ : L2.St} {H : Hp} {A B : Hp → Prop} (h : A H) : tYes σ H (fun b H3 => if b = true then A H3 else B H3) := yes_of (iteT (A := A H) (B := B H) h)
/-- a comprehension over a list: one name as the target, no test -/
theorem lc_listY {K : PySem.W.Frag} {a : Addr} {xs : List V} {j : Nat} {te : TE} {vs : List Nat} {σ : L2.St} {H1 : Hp} {D : Addr} {Qd : Hp → Prop} (Pv : Nat → Hp → Prop) (hw : ∀ v, wipe ((wipe σ vs).set j (some v)) vs = wipe σ vs) (h0 : Pv 0 (upd H1 D (.lst []))) (hl : ∀ i H, i ≤ xs.length → Pv i H → SqL K H a xs)
    (hs : ∀ (i : Nat) (x : V) (H : Hp), xs[i]? = some x → Pv i H → te ((wipe σ vs).set j (some x)) H fun y H4 => ∃ acc, H4 D = some (.lst acc) ∧ acc.length < sizeLine ∧ Pv (i + 1) (upd H4 D (.lst (acc ++ [y]))))
    (hd : ∀ H, Pv xs.length H → Qd H) : ∃ W : Nat → Nat → Hp → Prop, (∃ m, W 0 m (upd H1 D (.lst []))) ∧ ∀ i m H, W i m H →
      ((Itl K a).stop i H ∧ Qd H) ∨ ((Itl K a).go i H ∧ ∃ Nx : Hp → Prop, (∀ H', Nx H' → ∃ m', m' < m ∧ W (i + 1) m' H') ∧ ∀ v H', (Itl K a).yld i H v H' → gName j v (wipe σ vs) H' fun τ H2 => wipe τ vs = wipe σ vs ∧ tYes τ H2 fun b H3 =>
        if b = true then te τ H3 fun y H4 => ∃ acc, H4 D = some (.lst acc) ∧ acc.length < sizeLine ∧ Nx (upd H4 D (.lst (acc ++ [y]))) else Nx H3) :=
  lc_list Pv h0 hl (fun i x H e p => ⟨hw _, yes_if (hs i x H e p)⟩) hd
/-- the same, each element worth the same thing y, what stood stands -/
theorem lc_same {K : PySem.W.Frag} {a : Addr} {xs : List V} {y : V} {j : Nat} {te : TE} {vs : List Nat} {σ : L2.St} {H1 : Hp} {D : Addr} {Qd : Hp → Prop} (hw : ∀ v, wipe ((wipe σ vs).set j (some v)) vs = wipe σ vs) (nD : H1 D = none) (hx : SqL K H1 a xs) (hz : xs.length ≤ 1000)
    (hs : ∀ (i : Nat) (x : V) (H : Hp), xs[i]? = some x → Same H1 H → ∀ q : VK, (∀ H4, Same H H4 → q y H4) → te ((wipe σ vs).set j (some x)) H q)
    (hd : ∀ H, Same H1 H → H D = some (.lst (List.replicate xs.length y)) → Qd H) : ∃ W : Nat → Nat → Hp → Prop, (∃ m, W 0 m (upd H1 D (.lst []))) ∧ ∀ i m H, W i m H →
      ((Itl K a).stop i H ∧ Qd H) ∨ ((Itl K a).go i H ∧ ∃ Nx : Hp → Prop, (∀ H', Nx H' → ∃ m', m' < m ∧ W (i + 1) m' H') ∧ ∀ v H', (Itl K a).yld i H v H' → gName j v (wipe σ vs) H' fun τ H2 => wipe τ vs = wipe σ vs ∧ tYes τ H2 fun b H3 =>
        if b = true then te τ H3 fun y H4 => ∃ acc, H4 D = some (.lst acc) ∧ acc.length < sizeLine ∧ Nx (upd H4 D (.lst (acc ++ [y]))) else Nx H3) := by
  refine lc_listY (fun i H => i ≤ xs.length ∧ Same H1 H ∧ H D = some (.lst (List.replicate i y))) hw ⟨Nat.zero_le _, fun b o e => ?_, upd_same⟩ (fun i H _ p => p.2.1.seq hx) ?_ fun H p => hd H p.2.1 p.2.2
  · rw [upd_ne (ne_of_none e nD)]
    exact e
  · rintro i x H e ⟨hi, s, eD⟩
    have hlt : i < xs.length := (List.getElem?_eq_some_iff.mp e).1
    refine hs i x H e s _ fun H4 s4 => ⟨_, s4 _ _ eD, ?_, hlt, fun b o e2 => ?_, ?_⟩
    · rw [List.length_replicate]
      exact small1000 (by omega)
    · rw [upd_ne (ne_of_none e2 nD)]
      exact s4 _ _ (s _ _ e2)
    · rw [upd_same, List.replicate_succ']
/-! ### how long a list is shown -/
theorem textFrom_le : ∀ (ts : List Str) (k : Nat) (acc : Str) (b : Nat), (∀ t ∈ ts, t.length ≤ b) → (textFrom k acc ts).length ≤ acc.length + ts.length * (b + 2)
  | [], k, acc, b, _ => by show acc.length ≤ _; omega
  | t :: r, k, acc, b, h => by
    have ih := textFrom_le r (k + 1) (acc ++ (if k > 0 then ", " else "" : String) ++ t) b fun x hx => h x (List.mem_cons_of_mem _ hx)
    have ht := h t (List.mem_cons_self ..)
    have e : (acc ++ ((if k > 0 then ", " else "" : String) : Str) ++ t).length ≤ acc.length + 2 + t.length := by
      rw [Str.length_append, Str.length_append]
      have : (((if k > 0 then ", " else "" : String) : Str)).length ≤ 2 := by split <;> decide +kernel
      omega
    show (textFrom (k + 1) (acc ++ (if k > 0 then ", " else "" : String) ++ t) r).length ≤ _
    rw [List.length_cons, Nat.add_mul, Nat.one_mul]
    omega
theorem listText_le {ts : List Str} {b : Nat} (h : ∀ t ∈ ts, t.length ≤ b) : (listText ts).length ≤ 2 + ts.length * (b + 2) := by
  have := textFrom_le ts 0 "[" b h
  have e1 : (Str.ofString "[").length = 1 := by decide +kernel
  have e2 : (Str.ofString "]").length = 1 := by decide +kernel
  show (textFrom 0 "[" ts ++ "]").length ≤ _
  rw [Str.length_append]
  have e3 : (textFrom 0 (Str.ofString "[") ts).length ≤ (Str.ofString "[").length + ts.length * (b + 2) := this
  show (textFrom 0 (Str.ofString "[") ts).length + (Str.ofString "]").length ≤ _
  omega
/-- a thing that is shown in few signs -/
structure Sh (K : PySem.W.Frag) (H : Hp) (v : V) (d : PyData) : Prop where
  at_ : Dp K H v d
  sh : d.showable = true
  nd : d.hasDict = false
  dp : d.depth ≤ 20
  ln : d.shown.length ≤ 100
theorem shownAll_map : ∀ ds : List PyData, PyData.shownAll ds = ds.map PyData.shown
  | [] => rfl
  | d :: r => by rw [PyData.shownAll, shownAll_map r]; rfl
theorem sh_list {ds : List PyData} (h : ∀ d ∈ ds, d.showable = true ∧ d.hasDict = false ∧ d.depth ≤ 20 ∧ d.shown.length ≤ 100) (hl : ds.length ≤ 100) :
    (PyData.list ds).showable = true ∧ (PyData.list ds).hasDict = false ∧ (PyData.list ds).depth ≤ 60 ∧ (PyData.list ds).shown.length ≤ sizeLine := by
  have h1 : ∀ ds : List PyData, (∀ d ∈ ds, d.showable = true) → PyData.showableAll ds = true := by
    intro ds h
    induction ds with
    | nil => rfl
    | cons d r ih => rw [PyData.showableAll, h d (List.mem_cons_self ..), ih fun x hx => h x (List.mem_cons_of_mem _ hx)]; rfl
  have h2 : ∀ ds : List PyData, (∀ d ∈ ds, d.hasDict = false) → PyData.hasDictAll ds = false := by
    intro ds h
    induction ds with
    | nil => rfl
    | cons d r ih => rw [PyData.hasDictAll, h d (List.mem_cons_self ..), ih fun x hx => h x (List.mem_cons_of_mem _ hx)]; rfl
  have h3 : ∀ ds : List PyData, (∀ d ∈ ds, d.depth ≤ 20) → PyData.depthAll ds ≤ 21 := by
    intro ds h
    induction ds with
    | nil => show 0 ≤ _; omega
    | cons d r ih =>
      have a := h d (List.mem_cons_self ..)
      have b := ih fun x hx => h x (List.mem_cons_of_mem _ hx)
      rw [PyData.depthAll]
      omega
  refine ⟨?_, ?_, ?_, ?_⟩
  · rw [PyData.showable]
    exact h1 ds fun d hd => (h d hd).1
  · rw [PyData.hasDict]
    exact h2 ds fun d hd => (h d hd).2.1
  · have := h3 ds fun d hd => (h d hd).2.2.1
    rw [PyData.depth]
    omega
  · rw [PyData.shown]
    have := listText_le (ts := PyData.shownAll ds) (b := 100) (by
      rw [shownAll_map]
      intro t ht
      obtain ⟨d, hd, rfl⟩ := List.mem_map.mp ht
      exact (h d hd).2.2.2)
    rw [shownAll_map, List.length_map] at this
    have z : ds.length * 102 ≤ 100 * 102 := Nat.mul_le_mul_right _ hl
    have w := sizeLine_eq
    rw [shownAll_map]
    omega
theorem sh_rep {K : PySem.W.Frag} {H : Hp} {v : V} {d : PyData} (S : Sh K H v d) : ∀ n, DpAll K H (List.replicate n v) (List.replicate n d)
  | 0 => .nil
  | n + 1 => .cons S.at_ (sh_rep S n)
end Gd
set_option Elab.async false
set_option linter.all false
set_option maxRecDepth 100000
set_option maxHeartbeats 4000000
/-! comprehensions over a tuple, a list: one name as the target, a test, each element's answer and value known -/
namespace Gd
open PySem PySem.Spec PyProof.Rows L2
theorem asTE {X : Cx} {e : Expr} {te te' : TE} (h : PE X e te') (q : te' = te) : PE X e te := q ▸ h
def picked (zs : List (Bool × V)) : List V := (zs.filter (·.1)).map (·.2)
theorem picked_take {zs : List (Bool × V)} {i : Nat} {z : Bool × V} (h : zs[i]? = some z) : picked (zs.take (i + 1)) = picked (zs.take i) ++ (if z.1 = true then [z.2] else []) := by
  unfold picked
  rw [List.take_add_one, h, List.filter_append, List.map_append]
  congr 1
  cases hb : z.1 <;> simp [hb]
theorem picked_len (zs : List (Bool × V)) : (picked zs).length ≤ zs.length := by
  unfold picked
  rw [List.length_map]
  exact List.length_filter_le ..
theorem picked_all {zs : List V} : picked (zs.map fun z => (true, z)) = zs := by
  unfold picked
  induction zs with
  | nil => rfl
  | cons z r ih => simpa using ih
section
variable {K : PySem.W.Frag} {a : Addr} {xs : List V} {zs : List (Bool × V)} {j : Nat} {tt : TT} {te : TE} {vs : List Nat} {σ : L2.St} {H1 : Hp} {D : Addr} {Qd : Hp → Prop}
theorem sel_step (hw : ∀ v, wipe ((wipe σ vs).set j (some v)) vs = wipe σ vs) (nD : H1 D = none) (hz : xs.length ≤ 1000) (hl : zs.length = xs.length)
    (hs : ∀ (i : Nat) (x : V) (z : Bool × V) (H : Hp), xs[i]? = some x → zs[i]? = some z → Same H1 H → ∀ q : Bool → Hp → Prop, (∀ H3, Same H H3 → q z.1 H3) → tt ((wipe σ vs).set j (some x)) H q)
    (he : ∀ (i : Nat) (x : V) (z : Bool × V) (H : Hp), xs[i]? = some x → zs[i]? = some z → z.1 = true → Same H1 H → ∀ q : VK, (∀ H4, Same H H4 → q z.2 H4) → te ((wipe σ vs).set j (some x)) H q)
    (i : Nat) (x : V) (H : Hp) (hx : xs[i]? = some x) (p : i ≤ xs.length ∧ Same H1 H ∧ H D = some (.lst (picked (zs.take i)))) :
    gName j x (wipe σ vs) H fun τ H2 => wipe τ vs = wipe σ vs ∧ tt τ H2 fun b H3 =>
      if b = true then te τ H3 fun y H4 => ∃ acc, H4 D = some (.lst acc) ∧ acc.length < sizeLine ∧ (fun i H => i ≤ xs.length ∧ Same H1 H ∧ H D = some (.lst (picked (zs.take i)))) (i + 1) (upd H4 D (.lst (acc ++ [y])))
      else (fun i H => i ≤ xs.length ∧ Same H1 H ∧ H D = some (.lst (picked (zs.take i)))) (i + 1) H3 := by
  obtain ⟨hi, s, eD⟩ := p
  have hlt : i < xs.length := (List.getElem?_eq_some_iff.mp hx).1
  obtain ⟨z, hzi⟩ : ∃ z, zs[i]? = some z := ⟨_, List.getElem?_eq_getElem (by omega)⟩
  have pt := picked_take hzi
  refine ⟨hw _, hs i x z H hx hzi s _ fun H3 s3 => ?_⟩
  cases hb : z.1 with
  | true =>
    rw [hb] at pt
    refine iteT (he i x z H3 hx hzi hb (s.trans s3) _ fun H4 s4 => ⟨_, s4 _ _ (s3 _ _ eD), ?_, hlt, fun b o e2 => ?_, ?_⟩)
    · have := picked_len (zs.take i)
      rw [List.length_take] at this
      exact small1000 (by omega)
    · rw [upd_ne (ne_of_none e2 nD)]
      exact s4 _ _ (s3 _ _ (s _ _ e2))
    · rw [upd_same, pt]
      rfl
  | false =>
    rw [hb] at pt
    refine iteF ⟨hlt, s.trans s3, ?_⟩
    rw [pt]
    show H3 D = some (.lst (picked (zs.take i) ++ []))
    rw [List.append_nil]
    exact s3 _ _ eD
theorem lc_selT (hw : ∀ v, wipe ((wipe σ vs).set j (some v)) vs = wipe σ vs) (nD : H1 D = none) (hx : SqT K H1 a xs) (hz : xs.length ≤ 1000) (hl : zs.length = xs.length)
    (hs : ∀ (i : Nat) (x : V) (z : Bool × V) (H : Hp), xs[i]? = some x → zs[i]? = some z → Same H1 H → ∀ q : Bool → Hp → Prop, (∀ H3, Same H H3 → q z.1 H3) → tt ((wipe σ vs).set j (some x)) H q)
    (he : ∀ (i : Nat) (x : V) (z : Bool × V) (H : Hp), xs[i]? = some x → zs[i]? = some z → z.1 = true → Same H1 H → ∀ q : VK, (∀ H4, Same H H4 → q z.2 H4) → te ((wipe σ vs).set j (some x)) H q)
    (hd : ∀ H, Same H1 H → H D = some (.lst (picked zs)) → Qd H) : ∃ W : Nat → Nat → Hp → Prop, (∃ m, W 0 m (upd H1 D (.lst []))) ∧ ∀ i m H, W i m H →
      ((Itt K a).stop i H ∧ Qd H) ∨ ((Itt K a).go i H ∧ ∃ Nx : Hp → Prop, (∀ H', Nx H' → ∃ m', m' < m ∧ W (i + 1) m' H') ∧ ∀ v H', (Itt K a).yld i H v H' → gName j v (wipe σ vs) H' fun τ H2 => wipe τ vs = wipe σ vs ∧ tt τ H2 fun b H3 =>
        if b = true then te τ H3 fun y H4 => ∃ acc, H4 D = some (.lst acc) ∧ acc.length < sizeLine ∧ Nx (upd H4 D (.lst (acc ++ [y]))) else Nx H3) :=
  lc_tup (fun i H => i ≤ xs.length ∧ Same H1 H ∧ H D = some (.lst (picked (zs.take i)))) ⟨Nat.zero_le _, fun b o e => by rw [upd_ne (ne_of_none e nD)]; exact e, upd_same⟩ (fun i H _ p => SqT.ext hx p.2.1)
    (sel_step hw nD hz hl hs he) fun H p => hd H p.2.1 (by have := p.2.2; rw [← hl, List.take_length] at this; exact this)
theorem lc_selL (hw : ∀ v, wipe ((wipe σ vs).set j (some v)) vs = wipe σ vs) (nD : H1 D = none) (hx : SqL K H1 a xs) (hz : xs.length ≤ 1000) (hl : zs.length = xs.length)
    (hs : ∀ (i : Nat) (x : V) (z : Bool × V) (H : Hp), xs[i]? = some x → zs[i]? = some z → Same H1 H → ∀ q : Bool → Hp → Prop, (∀ H3, Same H H3 → q z.1 H3) → tt ((wipe σ vs).set j (some x)) H q)
    (he : ∀ (i : Nat) (x : V) (z : Bool × V) (H : Hp), xs[i]? = some x → zs[i]? = some z → z.1 = true → Same H1 H → ∀ q : VK, (∀ H4, Same H H4 → q z.2 H4) → te ((wipe σ vs).set j (some x)) H q)
    (hd : ∀ H, Same H1 H → H D = some (.lst (picked zs)) → Qd H) : ∃ W : Nat → Nat → Hp → Prop, (∃ m, W 0 m (upd H1 D (.lst []))) ∧ ∀ i m H, W i m H →
      ((Itl K a).stop i H ∧ Qd H) ∨ ((Itl K a).go i H ∧ ∃ Nx : Hp → Prop, (∀ H', Nx H' → ∃ m', m' < m ∧ W (i + 1) m' H') ∧ ∀ v H', (Itl K a).yld i H v H' → gName j v (wipe σ vs) H' fun τ H2 => wipe τ vs = wipe σ vs ∧ tt τ H2 fun b H3 =>
        if b = true then te τ H3 fun y H4 => ∃ acc, H4 D = some (.lst acc) ∧ acc.length < sizeLine ∧ Nx (upd H4 D (.lst (acc ++ [y]))) else Nx H3) :=
  lc_list (fun i H => i ≤ xs.length ∧ Same H1 H ∧ H D = some (.lst (picked (zs.take i)))) ⟨Nat.zero_le _, fun b o e => by rw [upd_ne (ne_of_none e nD)]; exact e, upd_same⟩ (fun i H _ p => SqL.ext hx p.2.1)
    (sel_step hw nD hz hl hs he) fun H p => hd H p.2.1 (by have := p.2.2; rw [← hl, List.take_length] at this; exact this)
/-- without a test -/
theorem lc_funT {ys : List V} (hw : ∀ v, wipe ((wipe σ vs).set j (some v)) vs = wipe σ vs) (nD : H1 D = none) (hx : SqT K H1 a xs) (hz : xs.length ≤ 1000) (hl : ys.length = xs.length)
    (he : ∀ (i : Nat) (x y : V) (H : Hp), xs[i]? = some x → ys[i]? = some y → Same H1 H → ∀ q : VK, (∀ H4, Same H H4 → q y H4) → te ((wipe σ vs).set j (some x)) H q)
    (hd : ∀ H, Same H1 H → H D = some (.lst ys) → Qd H) : ∃ W : Nat → Nat → Hp → Prop, (∃ m, W 0 m (upd H1 D (.lst []))) ∧ ∀ i m H, W i m H →
      ((Itt K a).stop i H ∧ Qd H) ∨ ((Itt K a).go i H ∧ ∃ Nx : Hp → Prop, (∀ H', Nx H' → ∃ m', m' < m ∧ W (i + 1) m' H') ∧ ∀ v H', (Itt K a).yld i H v H' → gName j v (wipe σ vs) H' fun τ H2 => wipe τ vs = wipe σ vs ∧ tYes τ H2 fun b H3 =>
        if b = true then te τ H3 fun y H4 => ∃ acc, H4 D = some (.lst acc) ∧ acc.length < sizeLine ∧ Nx (upd H4 D (.lst (acc ++ [y]))) else Nx H3) := by
  refine lc_selT (zs := ys.map fun y => (true, y)) hw nD hx hz (by rw [List.length_map, hl]) (fun i x z H _ e _ q k => ?_) (fun i x z H ex e _ s q k => ?_) fun H s e => hd H s (by rw [picked_all] at e; exact e)
  · rw [List.getElem?_map] at e
    cases ey : ys[i]? with
    | none => rw [ey] at e; cases e
    | some y =>
      rw [ey] at e
      cases e
      exact k H fun _ _ e => e
  · rw [List.getElem?_map] at e
    cases ey : ys[i]? with
    | none => rw [ey] at e; cases e
    | some y =>
      rw [ey] at e
      cases e
      exact he i x y H ex ey s q k
theorem lc_funL {ys : List V} (hw : ∀ v, wipe ((wipe σ vs).set j (some v)) vs = wipe σ vs) (nD : H1 D = none) (hx : SqL K H1 a xs) (hz : xs.length ≤ 1000) (hl : ys.length = xs.length)
    (he : ∀ (i : Nat) (x y : V) (H : Hp), xs[i]? = some x → ys[i]? = some y → Same H1 H → ∀ q : VK, (∀ H4, Same H H4 → q y H4) → te ((wipe σ vs).set j (some x)) H q)
    (hd : ∀ H, Same H1 H → H D = some (.lst ys) → Qd H) : ∃ W : Nat → Nat → Hp → Prop, (∃ m, W 0 m (upd H1 D (.lst []))) ∧ ∀ i m H, W i m H →
      ((Itl K a).stop i H ∧ Qd H) ∨ ((Itl K a).go i H ∧ ∃ Nx : Hp → Prop, (∀ H', Nx H' → ∃ m', m' < m ∧ W (i + 1) m' H') ∧ ∀ v H', (Itl K a).yld i H v H' → gName j v (wipe σ vs) H' fun τ H2 => wipe τ vs = wipe σ vs ∧ tYes τ H2 fun b H3 =>
        if b = true then te τ H3 fun y H4 => ∃ acc, H4 D = some (.lst acc) ∧ acc.length < sizeLine ∧ Nx (upd H4 D (.lst (acc ++ [y]))) else Nx H3) := by
  refine lc_selL (zs := ys.map fun y => (true, y)) hw nD hx hz (by rw [List.length_map, hl]) (fun i x z H _ e _ q k => ?_) (fun i x z H ex e _ s q k => ?_) fun H s e => hd H s (by rw [picked_all] at e; exact e)
  · rw [List.getElem?_map] at e
    cases ey : ys[i]? with
    | none => rw [ey] at e; cases e
    | some y =>
      rw [ey] at e
      cases e
      exact k H fun _ _ e => e
  · rw [List.getElem?_map] at e
    cases ey : ys[i]? with
    | none => rw [ey] at e; cases e
    | some y =>
      rw [ey] at e
      cases e
      exact he i x y H ex ey s q k
end
end Gd
set_option Elab.async false
set_option linter.all false
set_option maxRecDepth 100000
set_option maxHeartbeats 4000000
namespace Ks
open PySem PySem.Spec PyProof.Rows L2 Gd Kx
section
variable {P : Program} {w : World} {K : PySem.W.Frag} {mg : Str → Option Value} {base : Heap}
/-- a constructor that is right for kinds -/
structure RwOk (ks : List Str) (r : Rw) : Prop where
  n : nmS r.1 = true
  k : r.2.1 ∈ ks
  l : r.2.2.length ≤ 3
  f : ∀ x ∈ r.2.2, x ∈ ks
def spIsC : Sp := fun vs H Q _ => ∃ (x : V) (a : Addr) (ks : List Str) (r : Rw), vs = [x, .ref a] ∧ StT H a ks ∧ RowV H x r ∧ RwOk ks r ∧ ∀ H', Same H H' → Q (.bl true) H'
theorem ok_isC {f fi fo : Addr} {fd fdi fdo : FuncData} (F : Fun K "_is_constructor" "_is_constructor" sIsC f fd) (T : TS0 mg)
    (GI : FnOk P w K mg base CX0 1 fi fdi ["value"] (spIs K)) (ki : PySem.W.keepIn K (.ref fi) = true) (bI : Binds K fdi ["value"] []) (gI : mg "is_name" = some (.ref fi))
    (GO : FnOk P w K mg base CX0 1 fo fdo ["value", "names"] (spOne K)) (ko : PySem.W.keepIn K (.ref fo) = true) (bO : Binds K fdo ["value", "names"] []) (gO : mg "_is_one_of" = some (.ref fo)) :
    FnOk P w K mg base CX0 2 f fd ["value", "kinds"] spIsC := by
  obtain ⟨t3, m3⟩ := T.mfi
  refine F.ok scIsC (fun vs H Q E h => ?_) (fun cv A ou s H vs Q E hr h => ?_)
  · obtain ⟨x, a, ks, r, rfl, _⟩ := h
    rfl
  obtain ⟨x, a, ks, r, rfl, hs, ⟨b, fa, rfl, hb, hf⟩, g, q⟩ := h
  refine ⟨_, pss_cons (ps_if (PW.pt (pw_or (pt_not (pt_val (pe_callB call_isi (by rfl) T.isi boot_isinstance (pa_cons (pv 0) (pa_cons (pe_bltn (v := .ty "tuple") (by rfl) T.tup boot_tuple rfl) pa_nil)))))
        (pw_or1 (pt_cmpR op_ne (pe_callB call_len_seq (by rfl) T.len PySem.boot_len (pa_cons (pv 0) pa_nil)) pe_int (nomark _))))) (pss_one (ps_ret pe_bl)) pss_nil)
    (pss_cons (ps_asg (pv 0) (pg_tup (by rfl) (pgs_cons (pg_name (i := 2) scIsC.nd rfl (.inl rfl)) (pgs_cons (pg_name (i := 3) scIsC.nd rfl (.inl rfl)) (pgs_cons (pg_name (i := 4) scIsC.nd rfl (.inl rfl)) pgs_nil)))))
    (pss_cons (ps_if (PW.pt (pw_or (pt_not (pt_val (pe_call GI hr (by rfl) gI ki bI .nil pass0 (pa_cons (pv 2) pa_nil)))) (pw_or1 (pt_not (pt_val (pe_call GO hr (by rfl) gO ko bO .nil pass0 (pa_cons (pv 3) (pa_cons (pv 1) pa_nil)))))))) (pss_one (ps_ret pe_bl)) pss_nil)
    (pss_cons (ps_if (PW.pt (pw_or (pt_not (pt_val (pe_callB call_isi (by rfl) T.isi boot_isinstance (pa_cons (pv 4) (pa_cons (pe_bltn (v := .ty "tuple") (by rfl) T.tup boot_tuple rfl) pa_nil)))))
        (pw_or1 (pt_cmpR op_gt (pe_callB call_len_seq (by rfl) T.len PySem.boot_len (pa_cons (pv 4) pa_nil)) (pe_glob (v := .int 3) (by rfl) m3 ⟨_, rfl⟩) (nomark _))))) (pss_one (ps_ret pe_bl)) pss_nil)
    (pss_one (ps_ret (pe_callB (cr_all rfl) (by rfl) T.all boot_all (pa_cons (pe_lc (own := [("field", 5)]) (g := gName 5) (tt := tYes) rfl scIsC.nd (pi_tup (pv 4)) (blkOk_by (own := [("field", 5)]) (N := ["value", "kinds", "name", "kind", "fields", "field"]) (sc := defScope sIsC) (by decide +kernel))
      (fun _ _ _ _ _ => pg_name (i := 5) scIsC.nd rfl (Or.inl rfl)) (fun _ _ _ _ _ => pts_nil)
      (fun _ _ _ _ _ => asTE (te := tCall (spOne K) [] E0 (tCons (tVar 5) (tCons (tVar 1) tNil))) (pe_call GO hr (by rfl) gO ko bO .nil pass0 (pa_cons (pv 5) (pa_cons (pv 1) pa_nil))) rfl)) pa_nil))))))), ?_⟩
  refine ⟨.ref b, rfl, .ref b, .ty "tuple", _, _, true, rfl, .ty "tuple", .base (.tup hb), kit_ty (by decide +kernel), _, rfl, iteF ?_⟩
  refine ⟨.ref b, rfl, b, _, rfl, .inr (SqT.of hb), rfl, _, rfl, ?_⟩
  rw [show decide (V.int ((([V.str r.1, .str r.2.1, .ref fa] : List V).length : Nat) : Int) = V.int 3) = true from decide_eq_true rfl]
  refine iteF ?_
  refine ⟨.ref b, rfl, b, _, rfl, SqT.of hb, rfl, _, _, rfl, _, _, rfl, _, _, rfl, rfl, ?_⟩
  refine ⟨.str r.1, rfl, .str r.1, rfl, .inl ⟨r.1, rfl, by have := (nm_len g.n).2; omega, fun H2 s2 => ?_⟩⟩
  rw [g.n]
  have hs2 : StT H2 a ks := s2 _ _ hs
  have hf2 : H2 fa = _ := s2 _ _ hf
  refine ⟨true, rfl, iteF ⟨.str r.2.1, rfl, .ref a, rfl, .str r.2.1, a, ks, true, rfl, SqT.of hs2, .inl ⟨r.2.1, rfl, (decide_eq_true g.k).symm⟩, true, rfl, iteF ?_⟩⟩
  refine ⟨.ref fa, rfl, .ref fa, .ty "tuple", _, _, true, rfl, .ty "tuple", .base (.tup hf2), kit_ty (by decide +kernel), _, rfl, iteF ?_⟩
  refine ⟨.ref fa, rfl, fa, _, rfl, .inr (SqT.of hf2), _, _, rfl, rfl, _, rfl, ?_⟩
  have gl := g.l
  rw [decide_eq_false (show ¬ ((r.2.2.map V.str).length : Int) > 3 by rw [List.length_map]; omega)]
  refine iteF ?_
  refine ⟨.ref fa, rfl, fa, rfl, ⟨_, SqT.of hf2⟩, fun D nD => lc_funT (K := K) (a := fa) (xs := r.2.2.map V.str) (ys := List.replicate r.2.2.length (V.bl true)) (fun _ => rfl) nD (SqT.of hf2) (by rw [List.length_map]; omega) (by rw [List.length_map, List.length_replicate]) (fun i x y H3 hx hy s3 q => ?_) fun H3 s3 eD => ?_⟩
  · intro k
    rw [List.getElem?_map] at hx
    cases e : r.2.2[i]? with
    | none => rw [e] at hx; cases hx
    | some z =>
      rw [e] at hx
      cases hx
      have ey : y = V.bl true := by
        have := List.mem_of_getElem? hy
        exact (List.mem_replicate.mp this).2
      subst ey
      exact ⟨.str z, rfl, .ref a, rfl, .str z, a, ks, true, rfl, SqT.of (s3 _ _ hs2), .inl ⟨z, rfl, (decide_eq_true (g.f z (List.mem_of_getElem? e))).symm⟩, k H3 fun _ _ e => e⟩
  · refine ⟨D, List.replicate r.2.2.length true, rfl, SqL.of (by rw [eD, List.map_replicate]), ?_⟩
    rw [show (List.replicate r.2.2.length true).all id = true from List.all_eq_true.mpr fun x hx => by rw [(List.mem_replicate.mp hx).2]; rfl]
    exact q H3 (s2.trans s3)
end
end Ks
set_option Elab.async false
set_option linter.all false
set_option maxRecDepth 100000
set_option maxHeartbeats 4000000
namespace Ks
open PySem PySem.Spec PyProof.Rows L2 Gd Kx
theorem Good.row {m : Md} (g : Good m) {r : Rw} (h : r ∈ m.rs) : RwOk m.ks r := ⟨g.rn r h, g.rk r h, g.f3 r h, g.fk r h⟩
theorem same_upd {H H' : Hp} {L : Addr} {o : HO} (s : Same H H') (n : H L = none) : Same H (upd H' L o) := fun b x e => by rw [upd_ne (ne_of_none e n)]; exact s _ _ e
section
variable {P : Program} {w : World} {K : PySem.W.Frag} {mg : Str → Option Value} {base : Heap}
def spCc : Sp := fun vs H Q _ => ∃ (c a : Addr) (m : Md), vs = [.ref c, .ref a] ∧ StT H a m.ks ∧ RowsT H c m.rs ∧ Good m ∧ ∀ H', Same H H' → Q .non H'
theorem ok_cc {f fi : Addr} {fd fdi : FuncData} (F : Fun K "_check_constructors" "_check_constructors" sCc f fd) (T : TS0 mg)
    (GI : FnOk P w K mg base CX0 2 fi fdi ["value", "kinds"] spIsC) (ki : PySem.W.keepIn K (.ref fi) = true) (bI : Binds K fdi ["value", "kinds"] []) (gI : mg "_is_constructor" = some (.ref fi)) :
    FnOk P w K mg base CX0 3 f fd ["constructors", "kinds"] spCc := by
  obtain ⟨t6, m6⟩ := T.mco
  refine F.ok scCc (fun vs H Q E h => ?_) (fun cv A ou s H vs Q E hr h => ?_)
  · obtain ⟨c, a, m, rfl, _⟩ := h
    rfl
  obtain ⟨c, a, m, rfl, hs, ⟨xs, hc, hp⟩, g, q⟩ := h
  have ln : xs.length = m.rs.length := Paired.length hp
  refine ⟨_, pss_cons (ps_if (PW.pt (pw_or (pt_not (pt_val (pe_callB call_isi (by rfl) T.isi boot_isinstance (pa_cons (pv 0) (pa_cons (pe_bltn (v := .ty "tuple") (by rfl) T.tup boot_tuple rfl) pa_nil)))))
        (pw_or1 (pt_not (pt_chain op_le op_le pe_int (pe_callB call_len_seq (by rfl) T.len PySem.boot_len (pa_cons (pv 0) pa_nil)) (pe_glob (v := .int 6) (by rfl) m6 ⟨_, rfl⟩)))))) pss_never pss_nil)
    (pss_cons (ps_set (i := 2) scCc.nd rfl (.inl rfl) (pe_lst pa_nil))
    (pss_one (ps_for PassesOwn.never rfl (pi_enT (by rfl) T.enu (pa_cons (pv 0) pa_nil)) (pg_tup rfl (pgs_cons (pg_name (i := 3) scCc.nd rfl (.inl rfl)) (pgs_cons (pg_name (i := 4) scCc.nd rfl (.inl rfl)) pgs_nil)))
      (pss_cons (ps_if (PW.pt (pw_or (pt_not (pt_val (pe_call GI hr (by rfl) gI ki bI .nil pass0 (pa_cons (pv 4) (pa_cons (pv 1) pa_nil))))) (pw_or1 (pt_cmpR op_in_seq (pe_ix ix_tup (pv 4) pe_int (fun _ _ => rfl)) (pv 2) (by rfl))))) pss_never pss_nil)
      (pss_one (ps_expr (pe_bm PySem.F.plainAttrs_list PySem.F.slot_list_append PySem.F.type_list_append mt_append (pv 2) (pa_cons (pe_ix ix_tup (pv 4) pe_int (fun _ _ => rfl)) pa_nil)))))))), ?_⟩
  refine ⟨.ref c, rfl, .ref c, .ty "tuple", _, _, true, rfl, .ty "tuple", .base (.tup hc), kit_ty (by decide +kernel), _, rfl, iteF ?_⟩
  refine ⟨.ref c, rfl, c, _, rfl, .inr (SqT.of hc), _, _, rfl, rfl, _, rfl, ?_⟩
  have r1 := g.r1
  have r6 := g.r6
  rw [decide_eq_true (show (1 : Int) ≤ ((xs.length : Nat) : Int) by omega)]
  refine iteT ⟨_, _, rfl, rfl, _, rfl, ?_⟩
  rw [decide_eq_true (show ((xs.length : Nat) : Int) ≤ 6 by omega)]
  refine iteF ⟨(by show 0 ≤ sizeLine; exact Nat.zero_le _), fun L nL => ?_⟩
  refine ⟨.ref c, rfl, c, _, rfl, SqT.of (same_new nL _ _ hc), for_enT (K := K) (t := c) (xs := xs) (fun i σ H' => ∃ o3 o4 : Option V, σ = [some (.ref c), some (.ref a), some (.ref L), o3, o4] ∧ Same H H' ∧ H' L = some (.lst (((m.rs.take i).map (·.1)).map V.str))) ⟨none, none, rfl, same_new nL, upd_same⟩ (fun i σ H' _ p => ?_) ?_ ?_⟩
  · obtain ⟨_, _, _, s1, _⟩ := p
    exact SqT.of (s1 _ _ hc)
  · rintro i x σ H1 p hx ⟨o3, o4, rfl, s1, eL⟩ np
    obtain ⟨r, hr2, b, fa, rfl, hb, hf⟩ := rows_at hp hx
    have hi : i < m.rs.length := (List.getElem?_eq_some_iff.mp hr2).1
    have s2 : Same H1 (upd H1 p (.tup [.int (i : Nat), .ref b])) := same_new np
    refine ⟨p, _, rfl, SqT.of upd_same, rfl, ?_⟩
    have sA := s1.trans s2
    refine ⟨_, _, rfl, _, _, rfl, rfl, .ref b, rfl, .ref a, rfl, .ref b, a, m.ks, r, rfl, sA _ _ hs, ⟨b, fa, rfl, sA _ _ hb, sA _ _ hf⟩, g.row (List.mem_of_getElem? hr2), fun H2 s3 => ⟨true, rfl, iteF ?_⟩⟩
    have sB := sA.trans s3
    have eL2 := s3 _ _ (s2 _ _ eL)
    have hb2 := sB _ _ hb
    refine ⟨.ref b, rfl, b, _, _, .str r.1, rfl, rfl, SqT.of hb2, rfl, .ref L, rfl, L, _, rfl, .inl (SqL.of eL2), rfl, all_flat _, _, rfl, ?_⟩
    rw [if_neg (by decide), inV_str, decide_eq_false (fun h => ?_)]
    · refine iteF ⟨.ref L, rfl, .inl ⟨rfl, _, SqL.of eL2⟩, .ref b, rfl, b, _, _, .str r.1, rfl, rfl, SqT.of hb2, rfl, L, _, _, rfl, rfl, eL2, ?_, _, _, rfl, same_upd sB nL, ?_⟩
      · rw [List.length_map, List.length_map, List.length_take]
        exact small1000 (by omega)
      · rw [upd_same, List.take_add_one, hr2]
        simp
    · rw [List.map_take] at h
      obtain ⟨j, hj, ej⟩ := List.getElem_of_mem h
      rw [List.length_take, List.length_map] at hj
      rw [List.getElem_take] at ej
      have e2 : (m.rs.map (·.1))[j]? = (m.rs.map (·.1))[i]? := by
        rw [List.getElem?_eq_getElem (by rw [List.length_map]; omega), ej, List.getElem?_map, hr2]
        rfl
      have := (List.getElem?_inj (by rw [List.length_map]; omega) g.rd).mp e2
      omega
  · rintro σ H1 ⟨o3, o4, rfl, s1, _⟩
    exact q H1 s1
end
end Ks
set_option Elab.async false
set_option linter.all false
set_option maxRecDepth 100000
set_option maxHeartbeats 4000000
namespace Ks
open PySem PySem.Spec PyProof.Rows L2 Gd Kx
section
variable {P : Program} {w : World} {K : PySem.W.Frag} {mg : Str → Option Value} {base : Heap}
/-- the kinds found so far -/
structure Full (m : Md) (fl : List Str) : Prop where
  nd : fl.Nodup
  sub : ∀ x ∈ fl, x ∈ m.ks
theorem Full.len {m : Md} {fl : List Str} (g : Good m) (f : Full m fl) : fl.length ≤ 4 := Nat.le_trans (nd_le fl m.ks f.nd f.sub) g.k4
theorem ok_ct {f : Addr} {fd : FuncData} (F : Fun K "_check_trees" "_check_trees" sCt f fd) (T : TS0 mg) : FnOk P w K mg base CX0 1 f fd ["kinds", "constructors"] (fun vs H Q E => ∃ (a c : Addr), vs = [.ref a, .ref c] ∧ spCc [.ref c, .ref a] H Q E) := by
  refine F.ok scCt (fun vs H Q E h => ?_) (fun cv A ou s H vs Q E hr h => ?_)
  · obtain ⟨c, a, rfl, _⟩ := h
    rfl
  obtain ⟨a, c, rfl, c', a', m, ec, hs, ⟨xs, hc, hp⟩, g, q⟩ := h
  cases ec
  have ln : xs.length = m.rs.length := Paired.length hp
  have k1 := g.k1
  have k4 := g.k4
  refine ⟨_, pss_cons (ps_set (i := 2) scCt.nd rfl (.inr rfl) (pe_lst pa_nil))
    (pss_cons (ps_for PassesOwn.never rfl (pi_range1 rfl T.rng (pa_cons (pe_callB call_len_seq (by rfl) T.len PySem.boot_len (pa_cons (pv 0) pa_nil)) pa_nil)) (pg_name (i := 3) scCt.nd rfl (.inl rfl))
      (pss_one (ps_for PassesOwn.never rfl (pi_tup (pv 1)) (pg_name (i := 4) scCt.nd rfl (.inl rfl))
        (pss_cons (ps_par (i := 5) (j := 6) (by rfl) scCt.nd rfl rfl (by decide) rfl rfl (pa_cons (pe_ix ix_tup (pv 4) pe_int (fun _ _ => rfl)) (pa_cons (pe_ix ix_tup (pv 4) pe_int (fun _ _ => rfl)) pa_nil)) (by rfl))
        (pss_one (ps_if (PW.pt (pw_and (pt_cmpR op_notIn_seq (pv 5) (pv 2) (by rfl)) (pw_and1 (pt_val (pe_callB (cr_all rfl) (by rfl) T.all boot_all (pa_cons (pe_lc (own := [("field", 7)]) (g := gName 7) (tt := tYes) rfl scCt.nd (pi_tup (pv 6)) (blkOk_by (own := [("field", 7)]) (N := ["kinds", "constructors", "full", "_", "constructor", "kind", "fields", "field"]) (sc := defScope sCt) (by decide +kernel))
            (fun _ _ _ _ _ => pg_name (i := 7) scCt.nd rfl (Or.inl rfl)) (fun _ _ _ _ _ => pts_nil)
            (fun _ _ _ _ _ => asTE (te := tOp (rIn K false) (tVar 7) (tVar 2)) (pe_cmpR op_in_seq (pv 7) (pv 2) (by rfl)) rfl)) pa_nil))))))
          (pss_one (ps_expr (pe_bm PySem.F.plainAttrs_list PySem.F.slot_list_append PySem.F.type_list_append mt_append (pv 2) (pa_cons (pv 5) pa_nil)))) pss_nil))))))
    (pss_one (ps_for PassesOwn.never rfl (pi_tup (pv 0)) (pg_name (i := 5) scCt.nd rfl (.inl rfl)) (pss_one (ps_if (pt_cmpR op_notIn_seq (pv 5) (pv 2) (by rfl)) pss_never pss_nil))))), ?_⟩
  refine ⟨(by show 0 ≤ sizeLine; exact Nat.zero_le _), fun L nL => ?_⟩
  refine ⟨.ref a, rfl, a, _, rfl, .inr (SqT.of (same_new nL _ _ hs)), _, rfl, ?_, ?_, for_range (fun i σ H' => ∃ (o3 o4 o5 o6 : Option V) (fl : List Str), σ = [some (.ref a), some (.ref c), some (.ref L), o3, o4, o5, o6, none] ∧ Same H H' ∧ H' L = some (.lst (fl.map V.str)) ∧ Full m fl ∧ (1 ≤ i → ∀ k ∈ m.ks, k ∈ fl))
    ⟨none, none, none, none, [], rfl, same_new nL, upd_same, ⟨.nil, fun x hx => by cases hx⟩, fun h => by omega⟩ ?_ ?_⟩
  · omega
  · rw [List.length_map]
    omega
  · rintro i σ H1 hi ⟨o3, o4, o5, o6, fl, rfl, s1, eL, fu, al⟩
    refine ⟨.ref c, rfl, c, rfl, ⟨_, SqT.of (s1 _ _ hc)⟩, for_tup (K := K) (a := c) (xs := xs) (fun j σ H' => ∃ (o4 o5 o6 : Option V) (fl : List Str), σ = [some (.ref a), some (.ref c), some (.ref L), some (.int (0 + (i : Int))), o4, o5, o6, none] ∧ Same H H' ∧ H' L = some (.lst (fl.map V.str)) ∧ Full m fl ∧ (∀ r ∈ m.rs.take j, r.2.2 = [] → r.2.1 ∈ fl) ∧ (1 ≤ i → ∀ k ∈ m.ks, k ∈ fl))
      ⟨o4, o5, o6, fl, rfl, s1, eL, fu, (fun r hr _ => by rw [List.take_zero] at hr; cases hr), al⟩ (fun j σ H' _ p => ?_) ?_ ?_⟩
    · obtain ⟨_, _, _, _, _, s2, _⟩ := p
      exact SqT.of (s2 _ _ hc)
    · clear eL fu al
      rintro j x σ H2 hx ⟨o4, o5, o6, fl, rfl, s2, eL, fu, nn, al⟩
      obtain ⟨r, hr2, b, fa, rfl, hb, hf⟩ := rows_at hp hx
      have hrm := List.mem_of_getElem? hr2
      have hb2 := s2 _ _ hb
      have hf2 : StT H2 fa r.2.2 := s2 _ _ hf
      have l4 := fu.len g
      have gf := g.f3 r hrm
      refine ⟨.ref b, rfl, b, _, _, .str r.2.1, rfl, rfl, SqT.of hb2, rfl, .ref b, rfl, b, _, _, .ref fa, rfl, rfl, SqT.of hb2, rfl, _, _, rfl, ?_⟩
      have tk : ∀ fl' : List Str, (∀ x ∈ fl, x ∈ fl') → (r.2.2 = [] → r.2.1 ∈ fl') → ∀ r' ∈ m.rs.take (j + 1), r'.2.2 = [] → r'.2.1 ∈ fl' := fun fl' h1 h2 r' hr' e => by
        rw [List.take_add_one, hr2] at hr'
        rcases List.mem_append.mp hr' with z | z
        · exact h1 _ (nn r' z e)
        · have : r' = r := by simpa using z
          subst this
          exact h2 e
      refine ⟨.str r.2.1, rfl, .ref L, rfl, L, _, rfl, .inl (SqL.of eL), rfl, all_flat _, _, rfl, ?_⟩
      rw [if_pos rfl, inV_str]
      by_cases hk : r.2.1 ∈ fl
      · rw [decide_eq_true hk]
        refine iteF (iteF ?_)
        exact ⟨_, _, _, fl, rfl, s2, eL, fu, tk fl (fun _ h => h) fun _ => hk, al⟩
      · rw [decide_eq_false hk]
        refine iteT ?_
        refine ⟨.ref fa, rfl, fa, rfl, ⟨_, SqT.of hf2⟩, fun D nD => lc_funT (K := K) (a := fa) (xs := r.2.2.map V.str) (ys := (r.2.2.map fun z => decide (z ∈ fl)).map V.bl) (fun _ => rfl) nD (SqT.of hf2) (by rw [List.length_map]; omega) (by rw [List.length_map, List.length_map, List.length_map]) (fun n x y H3 hx hy s3 q => ?_) fun H3 s3 eD => ?_⟩
        · intro k
          rw [List.getElem?_map] at hx
          cases e : r.2.2[n]? with
          | none => rw [e] at hx; cases hx
          | some z =>
            rw [e] at hx
            cases hx
            rw [List.getElem?_map, List.getElem?_map, e] at hy
            cases hy
            refine ⟨.str z, rfl, .ref L, rfl, L, _, rfl, .inl (SqL.of (s3 _ _ eL)), rfl, all_flat _, ?_⟩
            rw [if_neg (by decide), inV_str]
            exact k H3 fun _ _ e => e
        · refine ⟨D, _, rfl, SqL.of eD, _, rfl, ?_⟩
          have eL3 := s3 _ _ eL
          have s4 := s2.trans s3
          cases hb : (r.2.2.map fun z => decide (z ∈ fl)).all id with
          | false =>
            refine iteF ⟨_, _, _, fl, rfl, s4, eL3, fu, tk fl (fun _ h => h) fun e => ?_, al⟩
            rw [e] at hb
            cases hb
          | true =>
            refine iteT ⟨.ref L, rfl, .inl ⟨rfl, _, SqL.of eL3⟩, .str r.2.1, rfl, L, _, _, rfl, rfl, eL3, ?_, _, _, _, fl ++ [r.2.1], rfl, same_upd s4 nL, ?_, ⟨?_, ?_⟩, tk _ (fun _ h => List.mem_append_left _ h) (fun _ => List.mem_append_right _ (List.mem_singleton.mpr rfl)), fun h k hk2 => List.mem_append_left _ (al h k hk2)⟩
            · rw [List.length_map]
              exact small1000 (by omega)
            · rw [upd_same, List.map_append]
              rfl
            · rw [List.nodup_append]
              exact ⟨fu.nd, List.nodup_cons.mpr ⟨by simp, .nil⟩, fun x hx y hy e => hk (by rw [List.mem_singleton.mp hy] at e; rw [← e]; exact hx)⟩
            · intro x hx
              rcases List.mem_append.mp hx with z | z
              · exact fu.sub x z
              · rw [List.mem_singleton.mp z]
                exact g.rk r hrm
    · clear eL fu al
      rintro σ H2 ⟨o4, o5, o6, fl, rfl, s2, eL, fu, nn, al⟩
      refine ⟨_, o4, o5, o6, fl, rfl, s2, eL, fu, fun _ k hk => ?_⟩
      obtain ⟨r, hr, rfl, e⟩ := g.tr k hk
      refine nn r ?_ e
      rw [ln, List.take_length]
      exact hr
  · rintro σ H1 ⟨o3, o4, o5, o6, fl, rfl, s1, eL, fu, al⟩
    have al2 := al (by rw [List.length_map]; omega)
    refine ⟨.ref a, rfl, a, rfl, ⟨_, SqT.of (s1 _ _ hs)⟩, for_tup (K := K) (a := a) (xs := m.ks.map V.str) (fun j σ H' => ∃ (o3 o4 o5 o6 : Option V), σ = [some (.ref a), some (.ref c), some (.ref L), o3, o4, o5, o6, none] ∧ H' = H1) ⟨_, _, _, _, rfl, rfl⟩ (fun j σ H' _ p => ?_) ?_ ?_⟩
    · obtain ⟨_, _, _, _, _, rfl⟩ := p
      exact SqT.of (s1 _ _ hs)
    · rintro j x σ H2 hx ⟨o3, o4, o5, o6, rfl, rfl⟩
      obtain ⟨z, hz, rfl⟩ : ∃ z, m.ks[j]? = some z ∧ x = V.str z := by
        rw [List.getElem?_map] at hx
        cases e : m.ks[j]? with
        | none => rw [e] at hx; cases hx
        | some z => rw [e] at hx; exact ⟨z, rfl, (Option.some.inj hx).symm⟩
      refine ⟨.str z, rfl, .ref L, rfl, L, _, rfl, .inl (SqL.of eL), rfl, all_flat _, _, rfl, ?_⟩
      rw [if_pos rfl, inV_str, decide_eq_true (al2 z (List.mem_of_getElem? hz))]
      exact iteF ⟨_, _, _, _, rfl, rfl⟩
    · rintro σ H2 ⟨o3, o4, o5, o6, rfl, rfl⟩
      exact q _ s1
end
end Ks
set_option Elab.async false
set_option linter.all false
set_option maxRecDepth 100000
set_option maxHeartbeats 4000000
/-! a tuple that tuple(..) has made, its object known: its methods may be called -/
namespace Gd
open PySem PySem.Spec PyProof.Rows L2
def FzT (H : Hp) (a : Addr) (xs : List V) : Prop := ∃ o : Obj, H a = some (.frz o (.tup xs)) ∧ o.cls = .type "tuple" ∧ o.dict = none
theorem FzT.sq {K : PySem.W.Frag} {H : Hp} {a : Addr} {xs : List V} (h : FzT H a xs) : SqT K H a xs := by
  obtain ⟨o, e, _⟩ := h
  exact .inl (.inr ⟨o, e⟩)
theorem FzT.keep {H H' : Hp} {a : Addr} {xs : List V} (h : FzT H a xs) (s : Same H H') : FzT H' a xs := by
  obtain ⟨o, e, r⟩ := h
  exact ⟨o, s _ _ e, r⟩
theorem FzT.ty {K : PySem.W.Frag} {H : Hp} {a : Addr} {xs : List V} (h : FzT H a xs) : TyX K H (.ref a) (.type "tuple") := by
  obtain ⟨o, e, r⟩ := h
  exact .fTuple e
section
variable {X : Cx} {ta : TE} {a : Expr}
/-- tuple(x), x a list: a new tuple, known -/
def kTupF (K : PySem.W.Frag) (x : V) (H : Hp) (Q : VK) : Prop := ∃ p xs, x = .ref p ∧ SqL K H p xs ∧ ∀ q H', H q = none → Same H H' → FzT H' q xs → Q (.ref q) H'
theorem rl_tupF (pins : List (Addr × Obj)) (s : Shared) (σ : L2.St) (H : Hp) (x : V) (v : Value) (Q : VK) (I : Inv X pins σ H s) (r : RelV x v) (h : kTupF X.K x H Q) : wpAny (model X.prog X.w) X.A (call (.type "tuple") [v]) (EP X pins σ Q) X.xe s := by
  obtain ⟨p, xs, rfl, hs, q⟩ := h
  obtain rfl : v = .ref p := r
  obtain ⟨its, rv, pl, hz⟩ := I.list hs
  refine call_tuple_list pl.isList (fun h' hk => ?_) (by rw [List.size_toArray, ← rv.length]; exact hz)
  have J : Inv X pins σ H { s with heap := h' } := I.kept (t' := s.toks) hk
  have hf : H h'.objs.size = none := J.hok.fresh (Nat.le_refl _)
  have J2 : Inv X pins σ (upd H h'.objs.size (.frz { cls := .type "tuple", data := .seq its.toArray } (.tup xs))) { s with heap := h'.push { cls := .type "tuple", data := .seq its.toArray } } :=
    J.laid (t' := s.toks) (fun b o e => Heap.get?_push_of_some _ e) (Nat.le_refl _) ⟨Heap.get?_push_size _ rfl, hz, its, rv, IsTup.new _ _⟩
  exact ⟨.ref h'.objs.size, _, J2, rfl, q _ _ hf (fun b o e => by rw [upd_ne (ne_of_none e hf)]; exact e) ⟨_, upd_same, rfl, rfl⟩⟩
theorem pe_tupF {p pos : Pos} (hg : Gl X "tuple") (hm : X.mg "tuple" = none) (ha : PE X a ta) (na : starEach [a] X.env = (false, eval a X.env) :: starEach [] X.env := by rfl) : PE X (.Call (.Name "tuple" p) [a] [] pos) (tThen ta (kTupF X.K)) :=
  ⟨fun pins s σ H Q I h => Call_ (ld_blt I hg hm boot_tuple (PyProof.Rows.callWith_type1 (one_arg ha I h (fun v s2 x H2 I2 r q => rl_tupF pins s2 σ H2 x v Q I2 r q) na) na))⟩
/-- t.m(e, ..), t such a tuple -/
def tBMf (r : V → List V → Hp → VK → Prop) (to : TE) (t : TA) : TE := fun σ H Q => to σ H fun x H1 => (∃ b xs, x = .ref b ∧ FzT H1 b xs) ∧ t σ H1 fun xs H2 => r x xs H2 Q
theorem pe_bmf {o e : Expr} {es : List Expr} {to : TE} {t : TA} {name : Str} {apos cpos : Pos} {id : String} {r : V → List V → Hp → VK → Prop} (slot : Slot "tuple" name id) (hty : typeOf (.builtin id) = pure (.type "method_descriptor")) (hm : MtR X id r) (ho : PE X o to) (ha : PA X (e :: es) t)
    (hbase : attributeBase o name X.env (eval o X.env) = eval o X.env := by rfl)
    (hfew : ((backTo cpos (starEach (e :: es) X.env)).all (fun x => !x.1) && (backToKw cpos (keywordEach [] X.env)).all (fun x => x.1.isSome) && decide ((e :: es).length + ([] : List Keyword).length + (if ([] : List Keyword).isEmpty then 0 else 1) < 30)) = true := by rfl)
    (hline : (apos.endLine == cpos.line) = true := by rfl) (hs : starEach (e :: es) X.env = (false, eval e X.env) :: starEach es X.env := by rfl) (hplain : (backTo cpos (starEach es X.env)).any (·.1) = false := by rfl) :
    PE X (.Call (.Attribute o name apos) (e :: es) [] cpos) (tBMf r to t) := by
  constructor
  intro pins s σ H Q I h
  refine wpAny_Call_method_late hbase hfew hline rfl (thn (ho.run pins s σ H _ I h) fun v s1 z => ?_)
  obtain ⟨x, H1, I1, r1, ⟨b, xs, ex, ob, e1, c1, d1⟩, q1⟩ := z
  subst ex
  have ev : v = Value.ref b := r1
  subst ev
  obtain ⟨g1, _⟩ := I1.hok b _ e1
  refine ⟨"tuple", id, PySem.F.plainAttrs_tuple, slot, hty, ⟨ob, g1, c1⟩, fun a ea => ?_, ?_⟩
  · cases ea
    exact ⟨ob, g1, d1⟩
  have hA := ha.run cpos pins s1 σ H1 _ I1 q1
  rw [hs] at hA ⊢
  refine Calls.callWith_builtin (by show (false || (backTo cpos (starEach es X.env)).any (·.1)) = false; rw [hplain] <;> rfl) (Calls.evalArgs_plain ?_)
  exact thn hA fun us s2 ⟨vs, H2, I2, r2, q2⟩ => hm pins s2 σ H2 (.ref b) vs (.ref b) us Q I2 rfl r2 q2
end
end Gd
set_option Elab.async false
set_option linter.all false
set_option maxRecDepth 100000
set_option maxHeartbeats 4000000
namespace Ks
open PySem PySem.Spec PyProof.Rows L2 Gd Kx
/-! the places of names: {name: place for place, name in enumerate(names)} -/
def plF : Nat → List Str → List (Key × V)
  | _, [] => []
  | i, t :: r => (.inr t, .int (i : Nat)) :: plF (i + 1) r
def plc (ts : List Str) : List (Key × V) := plF 0 ts
theorem plF_len (ts : List Str) : ∀ i, (plF i ts).length = ts.length := by
  induction ts with
  | nil => intro i; rfl
  | cons t r ih => intro i; show (plF (i + 1) r).length + 1 = r.length + 1; rw [ih]
theorem plF_app (ts us : List Str) : ∀ i, plF i (ts ++ us) = plF i ts ++ plF (i + ts.length) us := by
  induction ts with
  | nil => intro i; rfl
  | cons t r ih =>
    intro i
    show (Sum.inr t, V.int (i : Nat)) :: plF (i + 1) (r ++ us) = (Sum.inr t, V.int (i : Nat)) :: (plF (i + 1) r ++ plF (i + (r.length + 1)) us)
    rw [ih, show i + 1 + r.length = i + (r.length + 1) by omega]
theorem plF_keys (ts : List Str) : ∀ i, (plF i ts).map (·.1) = ts.map Sum.inr := by
  induction ts with
  | nil => intro i; rfl
  | cons t r ih => intro i; show Sum.inr t :: (plF (i + 1) r).map (·.1) = Sum.inr t :: r.map Sum.inr; rw [ih]
theorem plc_put {ts : List Str} (nd : ts.Nodup) {i : Nat} {z : Str} (h : ts[i]? = some z) : putK (plc (ts.take i)) (.inr z) (.int (i : Nat)) = plc (ts.take (i + 1)) := by
  have hl : i < ts.length := (List.getElem?_eq_some_iff.mp h).1
  have nz : z ∉ ts.take i := fun m => by
    obtain ⟨j, hj, e⟩ := List.mem_iff_getElem.mp m
    rw [List.length_take] at hj
    rw [List.getElem_take] at e
    have e1 : ts[j]? = some z := by rw [List.getElem?_eq_getElem (by omega), e]
    have := (List.getElem?_inj (by omega) nd).mp (e1.trans h.symm)
    omega
  have na : ((plc (ts.take i)).any fun kv => decide (kv.1 = Sum.inr z)) = false := by
    rw [List.any_eq_false]
    intro kv hkv hd
    have hk : kv.1 ∈ (plc (ts.take i)).map (·.1) := List.mem_map.mpr ⟨kv, hkv, rfl⟩
    unfold plc at hk
    rw [plF_keys, of_decide_eq_true hd] at hk
    obtain ⟨y, hy, e⟩ := List.mem_map.mp hk
    cases e
    exact nz hy
  unfold putK
  rw [if_neg (by rw [na]; decide)]
  rw [List.take_add_one, h]
  unfold plc
  rw [plF_app, List.length_take, Nat.zero_add, Nat.min_eq_left (Nat.le_of_lt hl)]
  rfl
theorem plF_val {z : Str} (ts : List Str) : ∀ (i j : Nat), ts.Nodup → ts[j]? = some z → valV (plF i ts) (.inr z) = some (.int ((i + j : Nat) : Int)) := by
  induction ts with
  | nil => intro i j _ h; simp at h
  | cons t r ih =>
    intro i j nd h
    cases j with
    | zero =>
      rw [List.getElem?_cons_zero] at h
      cases h
      unfold plF valV
      rw [List.find?_cons_of_pos (by simp)]
      rfl
    | succ j =>
      rw [List.getElem?_cons_succ] at h
      have hz : z ∈ r := List.mem_of_getElem? h
      have ne : t ≠ z := fun e => (List.nodup_cons.mp nd).1 (e ▸ hz)
      have := ih (i + 1) j (List.nodup_cons.mp nd).2 h
      unfold plF
      unfold valV at this ⊢
      rw [List.find?_cons_of_neg (by simpa using ne), this]
      rw [show i + 1 + j = i + (j + 1) by omega]
theorem plc_val {z : Str} {ts : List Str} {j : Nat} (nd : ts.Nodup) (h : ts[j]? = some z) : valV (plc ts) (.inr z) = some (.int (j : Nat)) := by
  have := plF_val ts 0 j nd h
  rw [Nat.zero_add] at this
  exact this
theorem fz_inj {H : Hp} {a : Addr} {ts us : List Str} (h : FzT H a (ts.map V.str)) (h2 : FzT H a (us.map V.str)) : ts = us := by
  obtain ⟨o, e, _⟩ := h
  obtain ⟨o2, e2, _⟩ := h2
  have e3 := e.symm.trans e2
  injection e3 with e3
  injection e3 with _ e3
  injection e3 with e3
  exact List.map_inj_right (fun _ _ h => by injection h) |>.mp e3
/-- the walk of such a comprehension -/
theorem dc_places {K : PySem.W.Frag} {n D : Addr} {ts : List Str} {j1 j2 : Nat} {σ : L2.St} {vs : List Nat} {H : Hp} {Qd : Hp → Prop} (hS : FzT H n (ts.map V.str)) (hD : H D = none) (nd : ts.Nodup) (hl : ts.length < 1000)
    (h1 : ∀ a b, (((wipe σ vs).set j1 (some a)).set j2 (some b))[j2]? = some (some b)) (h2 : ∀ a b, (((wipe σ vs).set j1 (some a)).set j2 (some b))[j1]? = some (some a)) (hw : ∀ a b, wipe (((wipe σ vs).set j1 (some a)).set j2 (some b)) vs = wipe σ vs)
    (hd : ∀ H', Same H H' → H' D = some (.dK (plc ts)) → Qd H') :
    ∃ W : Nat → Nat → Hp → Prop, (∃ m, W 0 m (upd H D (.dK []))) ∧ ∀ i m H, W i m H →
      ((Iet K n).stop i H ∧ Qd H) ∨ ((Iet K n).go i H ∧ ∃ Nx : Hp → Prop, (∀ H', Nx H' → ∃ m', m' < m ∧ W (i + 1) m' H') ∧ ∀ x H', (Iet K n).yld i H x H' → gTup K 2 (gCons (gName j1) (gCons (gName j2) gNil)) x (wipe σ vs) H' fun σ2 H2 => wipe σ2 vs = wipe σ vs ∧ tYes σ2 H2 fun b H3 =>
        if b = true then tVar j2 σ2 H3 fun y H4 => tVar j1 σ2 H4 fun z H5 => ∃ kvs k, y = kV k ∧ H5 D = some (.dK kvs) ∧ kvs.length < sizeLine ∧ Nx (upd H5 D (.dK (putK kvs k z))) else Nx H3) := by
  refine ⟨fun i m H' => i + m = ts.length ∧ Same H H' ∧ H' D = some (.dK (plc (ts.take i))), ⟨ts.length, Nat.zero_add _, same_new hD, upd_same⟩, fun i m H' w => ?_⟩
  obtain ⟨em, s, eD⟩ := w
  have hq := (hS.keep s).sq (K := K)
  cases m with
  | zero =>
    refine .inl ⟨⟨_, hq, by rw [List.length_map]; omega⟩, hd H' s ?_⟩
    rw [eD, List.take_of_length_le (by omega)]
  | succ m =>
    have hi : i < ts.length := by omega
    have ez : ts[i]? = some ts[i] := List.getElem?_eq_getElem hi
    refine .inr ⟨⟨_, .str ts[i], hq, by rw [List.getElem?_map, ez]; rfl⟩, fun H2 => Same H H2 ∧ H2 D = some (.dK (plc (ts.take (i + 1)))), fun H2 ⟨a, b⟩ => ⟨m, Nat.lt_succ_self m, by omega, a, b⟩, ?_⟩
    rintro x H2 ⟨p, v, rfl, np, rfl, hv⟩
    have ev : v = .str ts[i] := by
      have := hv _ hq
      rw [List.getElem?_map, ez] at this
      exact (Option.some.inj this).symm
    subst ev
    refine ⟨p, _, rfl, SqT.of upd_same, rfl, _, _, rfl, _, _, rfl, rfl, hw _ _, Gd.yes_if ⟨.str ts[i], h1 _ _, .int (i : Nat), h2 _ _, plc (ts.take i), .inr ts[i], rfl, ?_, ?_, ?_, ?_⟩⟩
    · rw [upd_ne (ne_of_none eD np)]
      exact eD
    · unfold plc
      rw [plF_len, List.length_take]
      exact small1000 (by omega)
    · intro b o e
      have hb := s _ _ e
      rw [upd_ne (ne_of_none e hD), upd_ne (ne_of_none hb np)]
      exact hb
    · rw [upd_same, plc_put nd ez]
end Ks
set_option Elab.async false
set_option linter.all false
set_option maxRecDepth 100000
set_option maxHeartbeats 4000000
namespace Ks
open PySem PySem.Spec PyProof.Rows L2 Gd Kx
def cS (i : Nat) : Stmt := inClass (Kx.topS 25) i
def nIni : List Str := ["self", "kinds", "constructors", "constructor", "place", "name"]
theorem scIni : FnScope nIni ["self", "kinds", "constructors"] (defScope (cS 0)) := ⟨rfl, rfl, rfl, by decide +kernel, rfl, by decide +kernel, by decide +kernel⟩
/-- the fields of a schema -/
def scF (k c n d : Addr) : List (Str × V) := putF "_places" (.ref d) (putF "_names" (.ref n) (putF "_constructors" (.ref c) (putF "_kinds" (.ref k) [])))
theorem scF_k {k c n d : Addr} : (scF k c n d).lookup ("_kinds" : Str) = some (V.ref k) := rfl
theorem scF_c {k c n d : Addr} : (scF k c n d).lookup ("_constructors" : Str) = some (V.ref c) := rfl
theorem scF_n {k c n d : Addr} : (scF k c n d).lookup ("_names" : Str) = some (V.ref n) := rfl
theorem scF_p {k c n d : Addr} : (scF k c n d).lookup ("_places" : Str) = some (V.ref d) := rfl
/-- an instance with such fields and the places of its names -/
def InS (C : Addr) (H : Hp) (a dx k c n : Addr) (ts : List Str) : Prop := ∃ d : Addr, H a = some (.ins C dx (scF k c n d)) ∧ H d = some (.dK (plc ts))
theorem InS.keep {C : Addr} {H H' : Hp} {a dx k c n : Addr} {ts : List Str} (h : InS C H a dx k c n ts) (s : Same H H') : InS C H' a dx k c n ts := by
  obtain ⟨d, h1, h2⟩ := h
  exact ⟨d, s _ _ h1, s _ _ h2⟩
/-- a schema at a -/
def ScAt (C : Addr) (H : Hp) (a : Addr) (m : Md) : Prop := ∃ dx k c n : Addr, InS C H a dx k c n (m.rs.map (·.1)) ∧ StT H k m.ks ∧ RowsT H c m.rs ∧ FzT H n ((m.rs.map (·.1)).map V.str)
theorem ScAt.keep {C : Addr} {H H' : Hp} {a : Addr} {m : Md} (h : ScAt C H a m) (s : Same H H') : ScAt C H' a m := by
  obtain ⟨dx, k, c, n, h1, h2, h3, h4⟩ := h
  exact ⟨dx, k, c, n, h1.keep s, s _ _ h2, h3.keep s, h4.keep s⟩
/-- what is known of the class -/
structure SCl (K : PySem.W.Frag) (C : Addr) : Prop where
  cls : Cls K C
  nk : NoAttr K C "_kinds"
  nc : NoAttr K C "_constructors"
  nn : NoAttr K C "_names"
  np : NoAttr K C "_places"
section
variable {P : Program} {w : World} {K : PySem.W.Frag} {mg : Str → Option Value} {base : Heap} {C : Addr}
/-- all but x stands -/
def But (x : Addr) (H H' : Hp) : Prop := ∀ b o, b ≠ x → H b = some o → H' b = some o
def spIni (C : Addr) : Sp := fun vs H Q _ => ∃ (x dx k c : Addr) (m : Md), vs = [.ref x, .ref k, .ref c] ∧ H x = some (.ins C dx []) ∧ StT H k m.ks ∧ RowsT H c m.rs ∧ Good m ∧
  ∀ n H', But x H H' → n ≠ x → InS C H' x dx k c n (m.rs.map (·.1)) → FzT H' n ((m.rs.map (·.1)).map V.str) → Q .non H'
theorem ok_ini {f fk fc ft : Addr} {fd fdk fdc fdt : FuncData} (F : Fun K "__init__" "Schema.__init__" (cS 0) f fd) (T : TS0 mg) (Z : SCl K C)
    (GK : FnOk P w K mg base CX0 2 fk fdk ["kinds"] spCk) (kk : PySem.W.keepIn K (.ref fk) = true) (bK : Binds K fdk ["kinds"] []) (gK : mg "_check_kinds" = some (.ref fk))
    (GC : FnOk P w K mg base CX0 3 fc fdc ["constructors", "kinds"] spCc) (kc : PySem.W.keepIn K (.ref fc) = true) (bC : Binds K fdc ["constructors", "kinds"] []) (gC : mg "_check_constructors" = some (.ref fc))
    (GT : FnOk P w K mg base CX0 1 ft fdt ["kinds", "constructors"] (fun vs H Q E => ∃ (a c : Addr), vs = [.ref a, .ref c] ∧ spCc [.ref c, .ref a] H Q E)) (kt : PySem.W.keepIn K (.ref ft) = true) (bT : Binds K fdt ["kinds", "constructors"] []) (gT : mg "_check_trees" = some (.ref ft)) :
    FnOk P w K mg base CX0 4 f fd ["self", "kinds", "constructors"] (spIni C) := by
  refine F.ok scIni (fun vs H Q E h => ?_) (fun cv A ou s H vs Q E hr h => ?_)
  · obtain ⟨x, dx, k, c, m, rfl, _⟩ := h
    rfl
  obtain ⟨x, dx, k, c, m, rfl, hx, hs, hc, g, q⟩ := h
  have hr2 : Room 2 (A.deeper (envOfC "Schema.__init__" (defScope (cS 0)) s.heap.objs.size f cv)) := hr.mono (by decide)
  have hr1 : Room 1 (A.deeper (envOfC "Schema.__init__" (defScope (cS 0)) s.heap.objs.size f cv)) := hr.mono (by decide)
  refine ⟨_, pss_cons (ps_expr (pe_call GK hr2 (by rfl) gK kk bK .nil pass0 (pa_cons (pv 1) pa_nil)))
    (pss_cons (ps_expr (pe_call GC hr (by rfl) gC kc bC .nil pass0 (pa_cons (pv 2) (pa_cons (pv 1) pa_nil))))
    (pss_cons (ps_expr (pe_call GT hr1 (by rfl) gT kt bT .nil pass0 (pa_cons (pv 1) (pa_cons (pv 2) pa_nil))))
    (pss_cons (ps_fld (pv 0) (pv 1) rfl)
    (pss_cons (ps_fld (pv 0) (pv 2) rfl)
    (pss_cons (ps_fld (pv 0) (pe_tupF (by rfl) T.tup (pe_lc (own := [("constructor", 3)]) (g := gName 3) (tt := tYes) rfl scIni.nd (pi_tup (pv 2)) (blkOk_by (own := [("constructor", 3)]) (N := nIni) (sc := defScope (cS 0)) (by decide +kernel))
      (fun _ _ _ _ _ => pg_name (i := 3) scIni.nd rfl (Or.inl rfl)) (fun _ _ _ _ _ => pts_nil) (fun _ _ _ _ _ => asTE (te := tOp (rIxT K) (tVar 3) (tC (.int 0))) (pe_ix ix_tup (pv 3) pe_int (fun _ _ => rfl)) rfl))) rfl)
    (pss_one (ps_fld (pv 0) (pe_dc (own := [("place", 4), ("name", 5)]) (g := gTup K 2 (gCons (gName 4) (gCons (gName 5) gNil))) (tt := tYes) (tk := tVar 5) (tv := tVar 4) rfl scIni.nd (pi_enT (by rfl) T.enu (pa_cons (pe_fld (pv 0) rfl) pa_nil)) (blkOk_by (own := [("place", 4), ("name", 5)]) (N := nIni) (sc := defScope (cS 0)) (by decide +kernel))
      (fun _ _ _ _ _ => pg_tup (by rfl) (pgs_cons (pg_name (i := 4) scIni.nd rfl (Or.inl rfl)) (pgs_cons (pg_name (i := 5) scIni.nd rfl (Or.inl rfl)) pgs_nil))) (fun _ _ _ _ _ => pts_nil) (fun _ _ _ _ _ => pv 5) (fun _ _ _ _ _ => pv 4)) rfl))))))), ?_⟩
  refine ⟨.ref k, rfl, k, m, rfl, hs, g, fun H1 s1 => ?_⟩
  refine ⟨.ref c, rfl, .ref k, rfl, c, k, m, rfl, s1 _ _ hs, hc.keep s1, g, fun H2 s2 => ?_⟩
  have s12 := s1.trans s2
  refine ⟨.ref k, rfl, .ref c, rfl, k, c, rfl, c, k, m, rfl, s12 _ _ hs, hc.keep s12, g, fun H3 s3 => ?_⟩
  have s13 := s12.trans s3
  refine ⟨.ref k, rfl, .ref x, rfl, x, C, dx, [], rfl, s13 _ _ hx, Z.cls, Z.nk, by decide, ?_⟩
  refine ⟨.ref c, rfl, .ref x, rfl, x, C, dx, _, rfl, upd_same, Z.cls, Z.nc, (show 1 < 1000 by decide), ?_⟩
  have hs' : H k = some (.tup (m.ks.map V.str)) := hs
  have kx : k ≠ x := fun e => by rw [e, hx] at hs'; cases hs'
  obtain ⟨xs, hc1, hp⟩ := hc
  have cx : c ≠ x := fun e => by rw [e, hx] at hc1; cases hc1
  have b5 : But x H (upd (upd H3 x (.ins C dx (putF "_kinds" (V.ref k) []))) x (.ins C dx (putF "_constructors" (V.ref c) (putF "_kinds" (V.ref k) [])))) := fun b o n e => by
    rw [upd_ne n, upd_ne n]
    exact s13 _ _ e
  have x5 : (upd (upd H3 x (.ins C dx (putF "_kinds" (V.ref k) []))) x (.ins C dx (putF "_constructors" (V.ref c) (putF "_kinds" (V.ref k) [])))) x = some (.ins C dx (putF "_constructors" (V.ref c) (putF "_kinds" (V.ref k) []))) := upd_same
  revert b5 x5
  generalize upd (upd H3 x (.ins C dx (putF "_kinds" (V.ref k) []))) x (.ins C dx (putF "_constructors" (V.ref c) (putF "_kinds" (V.ref k) []))) = H5
  intro b5 x5
  have hc5 := b5 _ _ cx hc1
  have r6 := g.r6
  have ln : xs.length = m.rs.length := Paired.length hp
  refine ⟨.ref c, rfl, c, rfl, ⟨_, SqT.of hc5⟩, fun D nD => lc_funT (K := K) (a := c) (xs := xs) (ys := (m.rs.map (·.1)).map V.str) (fun _ => rfl) nD (SqT.of hc5) (by omega) (by rw [List.length_map, List.length_map, ln]) (fun n y z H6 hy hz s6 p => ?_) fun H6 s6 eD => ?_⟩
  · intro kk
    obtain ⟨r, hr2, b, fa, rfl, hb, hf⟩ := rows_at hp hy
    rw [List.getElem?_map, List.getElem?_map, hr2] at hz
    cases hz
    have bx : b ≠ x := fun e => by rw [e, hx] at hb; cases hb
    exact ⟨.ref b, rfl, b, _, _, .str r.1, rfl, rfl, SqT.of (s6 _ _ (b5 _ _ bx hb)), rfl, kk H6 fun _ _ e => e⟩
  · refine ⟨D, _, rfl, SqL.of eD, fun N H7 nN s7 fz => ?_⟩
    have x6 := s6 _ _ x5
    have Nx : N ≠ x := fun e => by rw [← e, nN] at x6; cases x6
    refine ⟨.ref x, rfl, x, C, dx, _, rfl, s7 _ _ x6, Z.cls, Z.nn, (show 2 < 1000 by decide), ?_⟩
    have fz8 : FzT (upd H7 x (.ins C dx (putF "_names" (V.ref N) (putF "_constructors" (V.ref c) (putF "_kinds" (V.ref k) []))))) N ((m.rs.map (·.1)).map V.str) := by
      obtain ⟨o, e, r⟩ := fz
      exact ⟨o, by rw [upd_ne Nx]; exact e, r⟩
    have b8 : But x H (upd H7 x (.ins C dx (putF "_names" (V.ref N) (putF "_constructors" (V.ref c) (putF "_kinds" (V.ref k) []))))) := fun b o n e => by
      rw [upd_ne n]
      exact s7 _ _ (s6 _ _ (b5 _ _ n e))
    have x8 : (upd H7 x (.ins C dx (putF "_names" (V.ref N) (putF "_constructors" (V.ref c) (putF "_kinds" (V.ref k) []))))) x = some (.ins C dx (putF "_names" (V.ref N) (putF "_constructors" (V.ref c) (putF "_kinds" (V.ref k) [])))) := upd_same
    revert fz8 b8 x8
    generalize upd H7 x (.ins C dx (putF "_names" (V.ref N) (putF "_constructors" (V.ref c) (putF "_kinds" (V.ref k) [])))) = H8
    intro fz8 b8 x8
    refine ⟨.ref x, rfl, x, C, dx, _, _, rfl, x8, Z.cls, Z.nn, rfl, N, _, rfl, fz8.sq, fun Dd nDd => dc_places fz8 nDd g.rd (by rw [List.length_map]; omega) (fun _ _ => rfl) (fun _ _ => rfl) (fun _ _ => rfl) fun H9 s9 eDd => ?_⟩
    have x9 := s9 _ _ x8
    have Dx : Dd ≠ x := fun e => by rw [← e, nDd] at x8; cases x8
    refine ⟨.ref x, rfl, x, C, dx, _, rfl, x9, Z.cls, Z.np, (show 3 < 1000 by decide), ?_⟩
    refine q N _ (fun b o n e => ?_) Nx ⟨Dd, upd_same, ?_⟩ ?_
    · rw [upd_ne n]
      exact s9 _ _ (b8 _ _ n e)
    · rw [upd_ne Dx]
      exact eDd
    · obtain ⟨o, e, r⟩ := fz8
      exact ⟨o, by rw [upd_ne Nx]; exact s9 _ _ e, r⟩
end
end Ks
set_option Elab.async false
set_option linter.all false
set_option maxRecDepth 100000
set_option maxHeartbeats 4000000
namespace Ks
open PySem PySem.Spec PyProof.Rows L2 Gd Kx
theorem scGk : FnScope ["self"] ["self"] (defScope (cS 2)) := ⟨rfl, rfl, rfl, by decide +kernel, rfl, by decide +kernel, by decide +kernel⟩
theorem scGc : FnScope ["self"] ["self"] (defScope (cS 3)) := ⟨rfl, rfl, rfl, by decide +kernel, rfl, by decide +kernel, by decide +kernel⟩
theorem scGr : FnScope ["self"] ["self"] (defScope (cS 4)) := ⟨rfl, rfl, rfl, by decide +kernel, rfl, by decide +kernel, by decide +kernel⟩
theorem scGn : FnScope ["self"] ["self"] (defScope (cS 5)) := ⟨rfl, rfl, rfl, by decide +kernel, rfl, by decide +kernel, by decide +kernel⟩
theorem scOf : FnScope ["self", "kind", "constructor"] ["self", "kind"] (defScope (cS 6)) := ⟨rfl, rfl, rfl, by decide +kernel, rfl, by decide +kernel, by decide +kernel⟩
theorem scCo : FnScope ["self", "name"] ["self", "name"] (defScope (cS 7)) := ⟨rfl, rfl, rfl, by decide +kernel, rfl, by decide +kernel, by decide +kernel⟩
theorem scPl : FnScope ["self", "name"] ["self", "name"] (defScope (cS 8)) := ⟨rfl, rfl, rfl, by decide +kernel, rfl, by decide +kernel, by decide +kernel⟩
theorem scLn : FnScope ["self"] ["self"] (defScope (cS 11)) := ⟨rfl, rfl, rfl, by decide +kernel, rfl, by decide +kernel, by decide +kernel⟩
theorem scCn : FnScope ["self", "value"] ["self", "value"] (defScope (cS 12)) := ⟨rfl, rfl, rfl, by decide +kernel, rfl, by decide +kernel, by decide +kernel⟩
section
variable {P : Program} {w : World} {K : PySem.W.Frag} {mg : Str → Option Value} {base : Heap} {C : Addr}
/-- an instance with the fields of a schema -/
def Raw (C : Addr) (H : Hp) (a k c n : Addr) : Prop := ∃ (dx : Addr) (ts : List Str), InS C H a dx k c n ts ∧ FzT H n (ts.map V.str)
theorem Raw.keep {C : Addr} {H H' : Hp} {a k c n : Addr} (h : Raw C H a k c n) (s : Same H H') : Raw C H' a k c n := by
  obtain ⟨dx, ts, h1, h2⟩ := h
  exact ⟨dx, ts, h1.keep s, h2.keep s⟩
def spGk (C : Addr) : Sp := fun vs H Q _ => ∃ a k c n : Addr, vs = [.ref a] ∧ Raw C H a k c n ∧ Q (.ref k) H
def spGc (C : Addr) : Sp := fun vs H Q _ => ∃ a k c n : Addr, vs = [.ref a] ∧ Raw C H a k c n ∧ Q (.ref c) H
def spGn (C : Addr) : Sp := fun vs H Q _ => ∃ a k c n : Addr, vs = [.ref a] ∧ Raw C H a k c n ∧ Q (.ref n) H
def spGr (C : Addr) : Sp := fun vs H Q _ => ∃ (a k c n : Addr) (z : Str) (r : List Str), vs = [.ref a] ∧ Raw C H a k c n ∧ StT H k (z :: r) ∧ Q (.str z) H
theorem ok_gk {f : Addr} {fd : FuncData} (F : Fun K "kinds" "Schema.kinds" (cS 2) f fd) (Z : SCl K C) : FnOk P w K mg base CX0 1 f fd ["self"] (spGk C) := by
  refine F.ok scGk (fun vs H Q E h => ?_) (fun cv A ou s H vs Q E hr h => ?_)
  · obtain ⟨a, k, c, n, rfl, _⟩ := h
    rfl
  obtain ⟨a, k, c, n, rfl, ⟨dx, ts0, ⟨dp, e, ed⟩, fz0⟩, q⟩ := h
  exact ⟨_, pss_one (ps_ret (pe_fld (pv 0) rfl)), .ref a, rfl, a, C, dx, _, _, rfl, e, Z.cls, Z.nk, scF_k, q⟩
theorem ok_gc {f : Addr} {fd : FuncData} (F : Fun K "constructors" "Schema.constructors" (cS 3) f fd) (Z : SCl K C) : FnOk P w K mg base CX0 1 f fd ["self"] (spGc C) := by
  refine F.ok scGc (fun vs H Q E h => ?_) (fun cv A ou s H vs Q E hr h => ?_)
  · obtain ⟨a, k, c, n, rfl, _⟩ := h
    rfl
  obtain ⟨a, k, c, n, rfl, ⟨dx, ts0, ⟨dp, e, ed⟩, fz0⟩, q⟩ := h
  exact ⟨_, pss_one (ps_ret (pe_fld (pv 0) rfl)), .ref a, rfl, a, C, dx, _, _, rfl, e, Z.cls, Z.nc, scF_c, q⟩
theorem ok_gn {f : Addr} {fd : FuncData} (F : Fun K "names" "Schema.names" (cS 5) f fd) (Z : SCl K C) : FnOk P w K mg base CX0 1 f fd ["self"] (spGn C) := by
  refine F.ok scGn (fun vs H Q E h => ?_) (fun cv A ou s H vs Q E hr h => ?_)
  · obtain ⟨a, k, c, n, rfl, _⟩ := h
    rfl
  obtain ⟨a, k, c, n, rfl, ⟨dx, ts0, ⟨dp, e, ed⟩, fz0⟩, q⟩ := h
  exact ⟨_, pss_one (ps_ret (pe_fld (pv 0) rfl)), .ref a, rfl, a, C, dx, _, _, rfl, e, Z.cls, Z.nn, scF_n, q⟩
theorem ok_gr {f : Addr} {fd : FuncData} (F : Fun K "root" "Schema.root" (cS 4) f fd) (Z : SCl K C) : FnOk P w K mg base CX0 1 f fd ["self"] (spGr C) := by
  refine F.ok scGr (fun vs H Q E h => ?_) (fun cv A ou s H vs Q E hr h => ?_)
  · obtain ⟨a, k, c, n, z, r, rfl, _⟩ := h
    rfl
  obtain ⟨a, k, c, n, z, r, rfl, ⟨dx, ts0, ⟨dp, e, ed⟩, fz0⟩, hk, q⟩ := h
  exact ⟨_, pss_one (ps_ret (pe_ix ix_tup (pe_fld (pv 0) rfl) pe_int (fun _ _ => rfl))), .ref a, rfl, a, C, dx, _, _, rfl, e, Z.cls, Z.nk, scF_k, k, _, _, V.str z, rfl, rfl, SqT.of hk, atI_nat (j := 0) (v := V.str z) rfl, q⟩
def spLn (C : Addr) : Sp := fun vs H Q _ => ∃ (a k c n : Addr) (xs : List V), vs = [.ref a] ∧ Raw C H a k c n ∧ H c = some (.tup xs) ∧ Q (.int xs.length) H
theorem ok_ln {f : Addr} {fd : FuncData} (F : Fun K "__len__" "Schema.__len__" (cS 11) f fd) (T : TS0 mg) (Z : SCl K C) : FnOk P w K mg base CX0 1 f fd ["self"] (spLn C) := by
  refine F.ok scLn (fun vs H Q E h => ?_) (fun cv A ou s H vs Q E hr h => ?_)
  · obtain ⟨a, k, c, n, xs, rfl, _⟩ := h
    rfl
  obtain ⟨a, k, c, n, xs, rfl, ⟨dx, ts0, ⟨dp, e, ed⟩, fz0⟩, hc, q⟩ := h
  exact ⟨_, pss_one (ps_ret (pe_callB call_len_seq (by rfl) T.len PySem.boot_len (pa_cons (pe_fld (pv 0) rfl) pa_nil))), .ref a, rfl, a, C, dx, _, _, rfl, e, Z.cls, Z.nc, scF_c, c, xs, rfl, .inr (SqT.of hc), q⟩
def spCn (K : PySem.W.Frag) (C : Addr) : Sp := fun vs H Q _ => ∃ (a k c n : Addr) (v : V) (ts : List Str) (b : Bool), vs = [.ref a, v] ∧ Raw C H a k c n ∧ FzT H n (ts.map V.str) ∧ OneOf K H v ts b ∧ Q (.bl b) H
theorem ok_cn {f fo : Addr} {fd fdo : FuncData} (F : Fun K "__contains__" "Schema.__contains__" (cS 12) f fd) (Z : SCl K C)
    (GO : FnOk P w K mg base CX0 1 fo fdo ["value", "names"] (spOne K)) (ko : PySem.W.keepIn K (.ref fo) = true) (bO : Binds K fdo ["value", "names"] []) (gO : mg "_is_one_of" = some (.ref fo)) : FnOk P w K mg base CX0 2 f fd ["self", "value"] (spCn K C) := by
  refine F.ok scCn (fun vs H Q E h => ?_) (fun cv A ou s H vs Q E hr h => ?_)
  · obtain ⟨a, k, c, n, v, ts, b, rfl, _⟩ := h
    rfl
  obtain ⟨a, k, c, n, v, ts, b, rfl, ⟨dx, ts0, ⟨dp, e, ed⟩, fz0⟩, hn, o, q⟩ := h
  exact ⟨_, pss_one (ps_ret (pe_call GO hr (by rfl) gO ko bO .nil pass0 (pa_cons (pv 1) (pa_cons (pe_fld (pv 0) rfl) pa_nil)))), v, rfl, .ref a, rfl, a, C, dx, _, _, rfl, e, Z.cls, Z.nn, scF_n, v, n, ts, b, rfl, hn.sq, o, q⟩
/-- the place of a name -/
def spPl (C : Addr) : Sp := fun vs H Q _ => ∃ (a k c n : Addr) (ts : List Str) (z : Str) (j : Nat), vs = [.ref a, .str z] ∧ Raw C H a k c n ∧ FzT H n (ts.map V.str) ∧ ts.Nodup ∧ ts[j]? = some z ∧ Q (.int (j : Nat)) H
theorem ok_pl {f fo : Addr} {fd fdo : FuncData} (F : Fun K "place" "Schema.place" (cS 8) f fd) (Z : SCl K C)
    (GO : FnOk P w K mg base CX0 1 fo fdo ["value", "names"] (spOne K)) (ko : PySem.W.keepIn K (.ref fo) = true) (bO : Binds K fdo ["value", "names"] []) (gO : mg "_is_one_of" = some (.ref fo)) : FnOk P w K mg base CX0 2 f fd ["self", "name"] (spPl C) := by
  refine F.ok scPl (fun vs H Q E h => ?_) (fun cv A ou s H vs Q E hr h => ?_)
  · obtain ⟨a, k, c, n, ts, z, j, rfl, _⟩ := h
    rfl
  obtain ⟨a, k, c, n, ts, z, j, rfl, ⟨dx, ts0, ⟨dp, e, ed⟩, fz0⟩, hn, nd, hj, q⟩ := h
  refine ⟨_, pss_cons (ps_if (pt_not (pt_val (pe_call GO hr (by rfl) gO ko bO .nil pass0 (pa_cons (pv 1) (pa_cons (pe_fld (pv 0) rfl) pa_nil))))) pss_never pss_nil)
    (pss_one (ps_ret (pe_dget (hu_of hr) (pe_fld (pv 0) rfl) (pv 1) (fun _ _ => rfl)))), ?_⟩
  refine ⟨.str z, rfl, .ref a, rfl, a, C, dx, _, _, rfl, e, Z.cls, Z.nn, scF_n, .str z, n, ts, true, rfl, hn.sq, .inl ⟨z, rfl, (decide_eq_true (List.mem_of_getElem? hj)).symm⟩, true, rfl, iteF ?_⟩
  have ets := fz_inj fz0 hn
  subst ets
  exact ⟨.ref a, rfl, a, C, dx, _, _, rfl, e, Z.cls, Z.np, scF_p, .str z, rfl, dp, _, rfl, (by have := DGet.k (k := Sum.inr z) ed; rw [plc_val nd hj] at this; exact this), q⟩
/-- a constructor by its name -/
def spCo (C : Addr) : Sp := fun vs H Q _ => ∃ (a k c n : Addr) (ts : List Str) (xs : List V) (z : Str) (j : Nat) (x : V), vs = [.ref a, .str z] ∧ Raw C H a k c n ∧ FzT H n (ts.map V.str) ∧ ts.Nodup ∧ ts[j]? = some z ∧ H c = some (.tup xs) ∧ xs[j]? = some x ∧ Q x H
theorem ok_co {f fp : Addr} {fd fdp : FuncData} (F : Fun K "constructor" "Schema.constructor" (cS 7) f fd) (Z : SCl K C)
    (GP : FnOk P w K mg base CX0 2 fp fdp ["self", "name"] (spPl C)) (mP : Meth K C "place" fp) (bP : Binds K fdp ["self", "name"] []) : FnOk P w K mg base CX0 3 f fd ["self", "name"] (spCo C) := by
  refine F.ok scCo (fun vs H Q E h => ?_) (fun cv A ou s H vs Q E hr h => ?_)
  · obtain ⟨a, k, c, n, ts, xs, z, j, x, rfl, _⟩ := h
    rfl
  obtain ⟨a, k, c, n, ts, xs, z, j, x, rfl, ⟨dx, ts0, ⟨dp, e, ed⟩, fz0⟩, hn, nd, hj, hc, hx, q⟩ := h
  refine ⟨_, pss_one (ps_ret (pe_ix ix_tup (pe_fld (pv 0) rfl) (pe_meth (pv 0) Z.cls mP GP hr bP .nil pass0 (pa_cons (pv 1) pa_nil)) (fun _ _ => rfl))), ?_⟩
  exact ⟨.ref a, rfl, a, C, dx, _, _, rfl, e, Z.cls, Z.nc, scF_c, .ref a, rfl, a, dx, _, rfl, e, rfl, .str z, rfl, a, k, c, n, ts, z, j, rfl, ⟨dx, ts0, ⟨dp, e, ed⟩, fz0⟩, hn, nd, hj, c, xs, _, x, rfl, rfl, SqT.of hc, atI_nat hx, q⟩
end
end Ks
set_option Elab.async false
set_option linter.all false
set_option maxRecDepth 100000
set_option maxHeartbeats 4000000
namespace Ks
open PySem PySem.Spec PyProof.Rows L2 Gd Kx
/-! ### kinds and constructors as plain data -/
def dSs (ss : List Str) : PyData := .tuple (ss.map .str)
def dRw (r : Rw) : PyData := .tuple [.str r.1, .str r.2.1, dSs r.2.2]
def dRs (rs : List Rw) : PyData := .tuple (rs.map dRw)
section
variable {K : PySem.W.Frag} {H : Hp}
theorem dp_strs : ∀ ss : List Str, DpAll K H (ss.map V.str) (ss.map PyData.str)
  | [] => .nil
  | s :: r => .cons (.str s) (dp_strs r)
theorem dp_st {a : Addr} {ss : List Str} (h : SqT K H a (ss.map V.str)) : Dp K H (.ref a) (dSs ss) := .tup h (dp_strs ss)
theorem dp_row {x : V} {r : Rw} (h : RowV H x r) : Dp K H x (dRw r) := by
  obtain ⟨b, f, rfl, h1, h2⟩ := h
  exact .tup (SqT.of h1) (.cons (.str _) (.cons (.str _) (.cons (dp_st (SqT.of h2)) .nil)))
theorem dp_rws : ∀ {xs : List V} {rs : List Rw}, Paired (RowV H) xs rs → DpAll K H xs (rs.map dRw)
  | _, _, .nil => .nil
  | _, _, .cons h t => .cons (dp_row h) (dp_rws t)
theorem dp_rs {c : Addr} {rs : List Rw} (h : RowsT H c rs) : Dp K H (.ref c) (dRs rs) := by
  obtain ⟨xs, e, p⟩ := h
  exact .tup (SqT.of e) (dp_rws p)
end
theorem eqvAll_map {α : Type} [DecidableEq α] {d : α → PyData} (h : ∀ x y : α, PyData.eqv (d x) (d y) = decide (x = y)) : ∀ xs ys : List α, PyData.eqvAll (xs.map d) (ys.map d) = decide (xs = ys)
  | [], [] => rfl
  | [], y :: ys => rfl
  | x :: xs, [] => rfl
  | x :: xs, y :: ys => by
    show (PyData.eqv (d x) (d y) && PyData.eqvAll (xs.map d) (ys.map d)) = _
    rw [h, eqvAll_map h xs ys, Bool.eq_iff_iff]
    simp
theorem eqv_str (x y : Str) : PyData.eqv (.str x) (.str y) = decide (x = y) := by
  show (x == y) = _
  rw [Bool.eq_iff_iff]
  simp
theorem eqv_ss (a b : List Str) : PyData.eqv (dSs a) (dSs b) = decide (a = b) := eqvAll_map eqv_str a b
theorem eqv_rw (a b : Rw) : PyData.eqv (dRw a) (dRw b) = decide (a = b) := by
  show (PyData.eqv (.str a.1) (.str b.1) && (PyData.eqv (.str a.2.1) (.str b.2.1) && (PyData.eqv (dSs a.2.2) (dSs b.2.2) && true))) = _
  rw [eqv_str, eqv_str, eqv_ss, Bool.eq_iff_iff]
  obtain ⟨a1, a2, a3⟩ := a
  obtain ⟨b1, b2, b3⟩ := b
  simp
theorem eqv_rs (a b : List Rw) : PyData.eqv (dRs a) (dRs b) = decide (a = b) := eqvAll_map eqv_rw a b
theorem inN_ok {c : Nat} (h : inN c = true) : c < 0x110000 := by
  have m : c ∈ signs.cps.toList := of_decide_eq_true h
  have all : ∀ d ∈ signs.cps.toList, d < 0x110000 := by decide +kernel
  exact all c m
theorem nm_ok {z : Str} (h : nmS z = true) : PyData.strOk z = true := by
  unfold PyData.strOk
  rw [← Array.all_toList]
  unfold nmS at h
  cases ec : z.cps.toList with
  | nil => rfl
  | cons c r =>
    rw [ec, nmL_cons, Bool.and_eq_true_iff] at h
    exact List.all_eq_true.mpr fun d hd => decide_eq_true (inN_ok (List.all_eq_true.mp h.2 d hd))
theorem lay_all : ∀ {ds : List PyData}, (∀ d ∈ ds, d.canLay0 = true) → PyData.canLayAll0 ds = true
  | [], _ => rfl
  | d :: r, h => by
    show (PyData.canLay0 d && PyData.canLayAll0 r) = true
    rw [h d (List.mem_cons_self ..), lay_all fun x hx => h x (List.mem_cons_of_mem _ hx)]
    rfl
theorem dep_all {n : Nat} : ∀ {ds : List PyData}, (∀ d ∈ ds, d.depth ≤ n) → PyData.depthAll ds ≤ n + 1
  | [], _ => by show 0 ≤ _; omega
  | d :: r, h => by
    have a := h d (List.mem_cons_self ..)
    have b := dep_all fun x hx => h x (List.mem_cons_of_mem _ hx)
    rw [PyData.depthAll]
    omega
theorem lay_ss {ss : List Str} (h : ∀ s ∈ ss, nmS s = true) : (dSs ss).canLay0 = true ∧ (dSs ss).depth ≤ 3 := by
  refine ⟨lay_all fun d hd => ?_, ?_⟩
  · obtain ⟨s, hs, rfl⟩ := List.mem_map.mp hd
    exact nm_ok (h s hs)
  · have := dep_all (n := 1) (ds := ss.map PyData.str) fun d hd => by
      obtain ⟨s, hs, rfl⟩ := List.mem_map.mp hd
      rw [PyData.depth]
      omega
    unfold dSs
    rw [PyData.depth]
    omega
theorem lay_rw {ks : List Str} (hk : ∀ s ∈ ks, nmS s = true) {r : Rw} (g : RwOk ks r) : (dRw r).canLay0 = true ∧ (dRw r).depth ≤ 5 := by
  have e := lay_ss (ss := r.2.2) fun s hs => hk s (g.f s hs)
  have all : ∀ d ∈ [PyData.str r.1, .str r.2.1, dSs r.2.2], d.canLay0 = true ∧ d.depth ≤ 3 := by
    intro d hd
    simp only [List.mem_cons, List.not_mem_nil, or_false] at hd
    rcases hd with rfl | rfl | rfl
    · exact ⟨nm_ok g.n, by rw [PyData.depth]; omega⟩
    · exact ⟨nm_ok (hk _ g.k), by rw [PyData.depth]; omega⟩
    · exact e
  refine ⟨lay_all fun d hd => (all d hd).1, ?_⟩
  have := dep_all (n := 3) fun d hd => (all d hd).2
  unfold dRw
  rw [PyData.depth]
  omega
theorem Good.shK {m : Md} (g : Good m) : SeqAt.shaped (dSs m.ks) = true := by
  obtain ⟨h1, h2⟩ := lay_ss g.kn
  unfold SeqAt.shaped
  rw [h1, decide_eq_true (by omega)]
  rfl
theorem Good.shR {m : Md} (g : Good m) : SeqAt.shaped (dRs m.rs) = true := by
  have all : ∀ d ∈ m.rs.map dRw, d.canLay0 = true ∧ d.depth ≤ 5 := fun d hd => by
    obtain ⟨r, hr, rfl⟩ := List.mem_map.mp hd
    exact lay_rw g.kn (g.row hr)
  have d := dep_all (n := 5) fun d hd => (all d hd).2
  unfold SeqAt.shaped
  have e : (dRs m.rs).depth ≤ 64 := by
    unfold dRs
    rw [PyData.depth]
    omega
  rw [show (dRs m.rs).canLay0 = true from lay_all fun d hd => (all d hd).1, decide_eq_true e]
  rfl
mutual
theorem dp_keep {K : PySem.W.Frag} {H H' : Hp} (s : Same H H') : ∀ (d : PyData) (v : V), Dp K H v d → Dp K H' v d
  | .none, _, h => by cases h; exact .non
  | .bool b, _, h => by cases h; exact .bl b
  | .int i, _, h => by cases h; exact .int i
  | .str x, _, h => by cases h; exact .str x
  | .list ds, _, h => by
    cases h with
    | lst h1 h2 => exact .lst (s.seq h1) (dp_keepAll s ds _ h2)
  | .tuple ds, _, h => by
    cases h with
    | tup h1 h2 => exact .tup (SqT.ext h1 s) (dp_keepAll s ds _ h2)
  | .dict _, _, h => by cases h
theorem dp_keepAll {K : PySem.W.Frag} {H H' : Hp} (s : Same H H') : ∀ (ds : List PyData) (vs : List V), DpAll K H vs ds → DpAll K H' vs ds
  | [], _, h => by cases h; exact .nil
  | d :: ds, _, h => by
    cases h with
    | cons h1 h2 => exact .cons (dp_keep s d _ h1) (dp_keepAll s ds _ h2)
end
structure SB (n b : Nat) (d : PyData) : Prop where
  sh : d.showable = true
  nd : d.hasDict = false
  dp : d.depth ≤ n
  ln : d.shown.length ≤ b
theorem SB.mono {n b n' b' : Nat} {d : PyData} (h : SB n b d) (hn : n ≤ n') (hb : b ≤ b') : SB n' b' d := ⟨h.sh, h.nd, Nat.le_trans h.dp hn, Nat.le_trans h.ln hb⟩
theorem sb_sh {n b : Nat} : ∀ {ds : List PyData}, (∀ d ∈ ds, SB n b d) → PyData.showableAll ds = true
  | [], _ => rfl
  | d :: r, h => by rw [PyData.showableAll, (h d (List.mem_cons_self ..)).sh, sb_sh fun x hx => h x (List.mem_cons_of_mem _ hx)]; rfl
theorem sb_nd {n b : Nat} : ∀ {ds : List PyData}, (∀ d ∈ ds, SB n b d) → PyData.hasDictAll ds = false
  | [], _ => rfl
  | d :: r, h => by rw [PyData.hasDictAll, (h d (List.mem_cons_self ..)).nd, sb_nd fun x hx => h x (List.mem_cons_of_mem _ hx)]; rfl
theorem sb_dp {n b : Nat} : ∀ {ds : List PyData}, (∀ d ∈ ds, SB n b d) → PyData.depthAll ds ≤ n + 1
  | [], _ => by show 0 ≤ _; omega
  | d :: r, h => by
    have a := (h d (List.mem_cons_self ..)).dp
    have c := sb_dp fun x hx => h x (List.mem_cons_of_mem _ hx)
    rw [PyData.depthAll]
    omega
theorem sb_list {n b c : Nat} {ds : List PyData} (h : ∀ d ∈ ds, SB n b d) (hl : ds.length ≤ c) : SB (n + 2) (2 + c * (b + 2)) (.list ds) := by
  refine ⟨?_, ?_, ?_, ?_⟩
  · rw [PyData.showable]
    exact sb_sh h
  · rw [PyData.hasDict]
    exact sb_nd h
  · have := sb_dp h
    rw [PyData.depth]
    omega
  · rw [PyData.shown]
    have := listText_le (ts := PyData.shownAll ds) (b := b) (by
      rw [shownAll_map]
      intro t ht
      obtain ⟨d, hd, rfl⟩ := List.mem_map.mp ht
      exact (h d hd).ln)
    rw [shownAll_map, List.length_map] at this
    have z : ds.length * (b + 2) ≤ c * (b + 2) := Nat.mul_le_mul_right _ hl
    rw [shownAll_map]
    omega
theorem join_le (sep : Str) (b : Nat) : ∀ ts : List Str, (∀ t ∈ ts, t.length ≤ b) → (Str.join sep ts).length ≤ ts.length * (b + sep.length)
  | [], _ => by show 0 ≤ _; omega
  | [x], h => by
    have := h x (List.mem_cons_self ..)
    show x.length ≤ 1 * (b + sep.length)
    omega
  | x :: y :: r, h => by
    have a := h x (List.mem_cons_self ..)
    have ih := join_le sep b (y :: r) fun t ht => h t (List.mem_cons_of_mem _ ht)
    show (x ++ sep ++ Str.join sep (y :: r)).length ≤ _
    rw [Str.length_append, Str.length_append, List.length_cons, Nat.add_mul, Nat.one_mul]
    omega
theorem sb_tup {n b c : Nat} {ds : List PyData} (h : ∀ d ∈ ds, SB n b d) (hl : ds.length ≤ c) : SB (n + 2) (3 + c * (b + 2)) (.tuple ds) := by
  refine ⟨?_, ?_, ?_, ?_⟩
  · rw [PyData.showable]
    exact sb_sh h
  · rw [PyData.hasDict]
    exact sb_nd h
  · have := sb_dp h
    rw [PyData.depth]
    omega
  · rw [PyData.shown]
    have := join_le (Str.ofString ", ") b (PyData.shownAll ds) (by
      rw [shownAll_map]
      intro t ht
      obtain ⟨d, hd, rfl⟩ := List.mem_map.mp ht
      exact (h d hd).ln)
    have l2 : (Str.ofString ", ").length = 2 := by decide +kernel
    have l1 : (Str.ofString "(").length = 1 := by decide +kernel
    have l3 : ((if (PyData.shownAll ds).length == 1 then ",)" else ")" : String) : Str).length ≤ 2 := by split <;> decide +kernel
    rw [l2] at this
    have e : (PyData.shownAll ds).length = ds.length := by rw [shownAll_map, List.length_map]
    rw [e] at this
    have z : ds.length * (b + 2) ≤ c * (b + 2) := Nat.mul_le_mul_right _ hl
    show (Str.ofString "(" ++ Str.join (Str.ofString ", ") (PyData.shownAll ds) ++ ((if (PyData.shownAll ds).length == 1 then ",)" else ")" : String) : Str)).length ≤ _
    rw [Str.length_append, Str.length_append]
    omega
theorem sb_str {z : Str} {l : Nat} (h : nmS z = true) (hl : z.length ≤ l) : SB 1 (10 * l + 2) (.str z) := by
  refine ⟨rfl, rfl, by rw [PyData.depth]; omega, ?_⟩
  have ok : ∀ c ∈ z.cps.toList, c < 16 ^ 8 := by
    have := nm_ok h
    unfold PyData.strOk at this
    rw [← Array.all_toList] at this
    intro c hc
    have := of_decide_eq_true (List.all_eq_true.mp this c hc)
    omega
  have := StrLaws.reprText_len z ok
  rw [PyData.shown]
  omega
theorem sb_nm {z : Str} (h : nmS z = true) : SB 1 82 (.str z) := sb_str h (nm_len h).2
theorem sb_ss {ss : List Str} {c : Nat} (h : ∀ s ∈ ss, nmS s = true) (hl : ss.length ≤ c) : SB 3 (3 + c * 84) (dSs ss) :=
  sb_tup (n := 1) (b := 82) (fun d hd => by obtain ⟨s, hs, rfl⟩ := List.mem_map.mp hd; exact sb_nm (h s hs)) (by rw [List.length_map]; exact hl)
theorem Good.sbK {m : Md} (g : Good m) : SB 3 339 (dSs m.ks) := sb_ss g.kn g.k4
theorem Good.sbR1 {m : Md} (g : Good m) {r : Rw} (hr : r ∈ m.rs) : SB 5 774 (dRw r) := by
  have rk := g.row hr
  refine (sb_tup (n := 3) (b := 255) (c := 3) (ds := [.str r.1, .str r.2.1, dSs r.2.2]) ?_ (Nat.le_refl 3)).mono (by decide) (by decide)
  intro d hd
  simp only [List.mem_cons, List.not_mem_nil, or_false] at hd
  rcases hd with rfl | rfl | rfl
  · exact (sb_nm (g.rn r hr)).mono (by decide) (by decide)
  · exact (sb_nm (g.kn _ (g.rk r hr))).mono (by decide) (by decide)
  · exact sb_ss (c := 3) (fun s hs => g.kn s (g.fk r hr s hs)) (g.f3 r hr)
theorem Good.sbR {m : Md} (g : Good m) : SB 7 4659 (dRs m.rs) :=
  sb_tup (n := 5) (b := 774) (c := 6) (fun d hd => by obtain ⟨r, hr, rfl⟩ := List.mem_map.mp hd; exact g.sbR1 hr) (by rw [List.length_map]; exact g.r6)
theorem Good.sbN {m : Md} (g : Good m) {rs : List Rw} (h : ∀ r ∈ rs, r ∈ m.rs) (hl : rs.length ≤ 6) : SB 3 507 (dSs (rs.map (·.1))) :=
  sb_ss (c := 6) (fun s hs => by obtain ⟨r, hr, rfl⟩ := List.mem_map.mp hs; exact g.rn r (h r hr)) (by rw [List.length_map]; exact hl)
end Ks
set_option Elab.async false
set_option linter.all false
set_option maxRecDepth 100000
set_option maxHeartbeats 4000000
/-! try: body, except (A, B, C) as n: suite, the three own classes -/
namespace Gd
open PySem PySem.Spec PyProof.Rows L2
theorem fly_more {h h' B : Heap} {l : List Env} {e : Addr} {Z : Obj → Prop} (k : ∀ b o, h.get? b = some o → h'.get? b = some o) (f : HandSPX.FlyingZ B l e Z h) : HandSPX.FlyingZ B l e Z h' := by
  obtain ⟨f1, f2, f3, oe, vs, T, oT, ts, g1, g2, g3, g4, g5, g6, g7, g8, g9⟩ := f
  exact ⟨fun b o q => k b o (f1 b o q), f2, f3.of_keeps fun b o q _ => ⟨o, k b o q, rfl⟩, oe, vs, T, oT, ts, k _ _ g1, g2, g3, g4, g5, g6, k _ _ g7, g8, g9⟩
/-- what such a clause wishes of an exception of the body -/
def wTup (K : PySem.W.Frag) (n : Nat) (c1 c2 c3 : Value) (i : Nat) (ts : Addr → Value → Option Addr → TS) (Wout : WX) (D : Ends) : WX := fun cls d σ H =>
  ∃ b, PySem.W.exmAny K cls [c1, c2, c3] = some b ∧ (b = true → ∀ a, H a = none → σ.length = n → ts a cls d ⟨fun τ G => D.nx (τ.set i none) G, D.rt, fun τ G => D.bk (τ.set i none) G, fun τ G => D.ct (τ.set i none) G⟩ (σ.set i (some (.ref a))) H) ∧ (b = false → Wout cls d σ H)
section
variable {X : Cx} {x1 x2 x3 n : Str} {c1 c2 c3 : Value} {i k : Nat} {body suite : List Stmt} {b₀ : Stmt} {p1 p2 p3 tp pos hpos : Pos} {tb : WX → TS} {ts : Addr → Value → Option Addr → TS} {Wout : WX}
theorem ps_try3 (hs : X.stack = X.env :: X.outer) (hf : X.env.frame = some X.env.locals) (hN : X.N.Nodup) (hi : X.N[i]? = some n) (hln : X.env.kindOf n = some .local)
    (g1 : Gl X x1) (m1 : X.mg x1 = some c1) (g2 : Gl X x2) (m2 : X.mg x2 = some c2) (g3 : Gl X x3) (m3 : X.mg x3 = some c3) (tk : Takes X Wout)
    (hb : ∀ (W : WX) (pn : List (Addr × Obj)) (xe : Value → Shared → Prop), Takes (X.tr pn xe) W → PassesOwn (model X.prog X.w) X.A X.env xe → PSs (X.tr pn xe) body (tb W))
    (hsu : ∀ (a : Addr) (oe : Obj) (cls : Value) (d : Option Addr) (pn : List (Addr × Obj)), Zc cls d oe → (∃ vs, oe.data = .fields vs) → PSs (X.suite a ((a, oe) :: pn)) (b₀ :: suite) (ts a cls d))
    (d1 : (x1 == ("__debug__" : Str)) = false := by decide) (d2 : (x2 == ("__debug__" : Str)) = false := by decide) (d3 : (x3 == ("__debug__" : Str)) = false := by decide) :
    PS X (.Try body [.ExceptHandler (some (.Tuple [.Name x1 p1, .Name x2 p2, .Name x3 p3] k tp)) (some n) (b₀ :: suite) hpos] [] [] pos) (fun D σ H => tb (wTup X.K X.N.length c1 c2 c3 i ts Wout D) D σ H) := by
  constructor
  intro pins s σ H D I0 h0
  have okX := I0.ok
  have frX : X.A.frames = some (X.env :: X.outer) := by rw [okX.frames, hs]
  have locN : Loc X.env.scope n := .inl hln
  refine wpAny_Try_except ?_
  refine wpAny_mono ((hb (wTup X.K X.N.length c1 c2 c3 i ts Wout D) (X.pn ++ pins) (fun e t1 => wpAny (model X.prog X.w) X.A (noteFrame e X.env) (fun _ t2 => wpAny (model X.prog X.w) X.A (setFlight e none) (fun _ t3 =>
    wpAny (model X.prog X.w) X.A (handleBy e X.env [.ExceptHandler (some (.Tuple [.Name x1 p1, .Name x2 p2, .Name x3 p3] k tp)) (some n) (b₀ :: suite) hpos]) (SP X pins D) X.xe t3) X.xe t2) X.xe t1) (fun u z xx => ?_) PassesOwn.looking).run [] s σ H D (I0.toTry _) h0) (fun f s1 hsp => ?_) (fun e s1 he => he)
  · obtain ⟨a, B, y, pins2, τ, G, cls, d, rfl, J0, nb, up, sky, na, os, ag, b, hb1, hyes, hno⟩ := xx
    have J : Inv X pins τ G y := J0.ofTry okX
    have sky2 : Sky B (X.env :: X.outer) a (Zc cls d) X.env.locals z.heap := by rw [← hs]; exact sky
    show wpAny (model X.prog X.w) X.A (noteFrame (.ref a) X.env) _ _ _
    refine Sky.land Zc.steady frX hf sky2 fun h3 fl3 up3 => ?_
    -- the three classes make a tuple
    have kp : ∀ b o, h3.get? b = some o → (h3.push { cls := .type "tuple", data := .seq [c1, c2, c3].toArray }).get? b = some o := fun b o e => Heap.get?_push_of_some _ e
    have fl4 := fly_more kp fl3
    have up4 : y.heap.UpToSlots (h3.push { cls := .type "tuple", data := .seq [c1, c2, c3].toArray }) := (up.trans up3).trans (Heap.UpToSlots.of_keeps kp)
    have J3 : Inv X pins τ G { z with heap := h3 } := J.landed nb fl3.1 (up.trans up3) os ag
    have J4 : Inv X pins τ G { z with heap := h3.push { cls := .type "tuple", data := .seq [c1, c2, c3].toArray } } := J.landed nb fl4.1 up4 os ag
    obtain ⟨oe3, vs3, he3, hz3, hd3⟩ := fl3.there
    have off : ∀ {g : Heap} {o : Obj} {vs : Array Value}, g.FunFrames B (X.env :: X.outer) → g.get? a = some o → o.data = .fields vs → a ∉ frs (X.env :: X.outer) := by
      intro g o vs ff e dd hm
      obtain ⟨_, o2, e2, hnf⟩ := ff.mem hm
      rw [e] at e2
      cases e2
      exact hnf _ dd
    have nfr := off fl3.2.2.1 he3 hd3
    have nL : a ≠ X.env.locals := fun q => nfr (List.mem_filterMap.mpr ⟨X.env, List.mem_cons_self, by rw [hf, q]⟩)
    have nF : a ∉ X.fs := fun hm => by
      obtain ⟨e, he, q⟩ := List.mem_filterMap.mp hm
      exact nfr (List.mem_filterMap.mpr ⟨e, List.mem_cons_of_mem _ he, q⟩)
    have S3 := J3.suite he3 hd3 na nL nF
    refine wpAny_handleBy_cons (codeAny_handlers_test ?_) (by intro q; cases q)
    have he4 := kp _ _ he3
    have LT : PySem.W.Looks (model X.prog X.w) (h3.push { cls := .type "tuple", data := .seq [c1, c2, c3].toArray }) (typeOf (.ref a)) cls := fun A Q E t kk q => wpAny_typeOf_ref (kk _ _ he4) (by rw [hz3.1]; exact q)
    have LM := PySem.W.exm_tup3 (M := model X.prog X.w) J4.kIn LT (tp := h3.objs.size) (Heap.get?_push_size _ rfl) hb1
    have evalT : ∀ {Q : Value → Shared → Prop} {E : Value → Shared → Prop}, Q (.ref h3.objs.size) { z with heap := h3.push { cls := .type "tuple", data := .seq [c1, c2, c3].toArray } } →
        wpAny (model X.prog X.w) (X.A.mark (some (.ref a))) (eval (.Tuple [.Name x1 p1, .Name x2 p2, .Name x3 p3] k tp) X.env) Q E { z with heap := h3 } := by
      intro Q E q
      refine wpAny_Tuple_spliced ?_
      refine Calls.spliced_cons (ld_glob (X := X.suite a ((a, oe3) :: (X.pn ++ pins))) S3 g1 m1 ?_ d1)
      refine Calls.spliced_cons (ld_glob (X := X.suite a ((a, oe3) :: (X.pn ++ pins))) S3 g2 m2 ?_ d2)
      refine Calls.spliced_cons (ld_glob (X := X.suite a ((a, oe3) :: (X.pn ++ pins))) S3 g3 m3 ?_ d3)
      exact Calls.spliced_nil ⟨by rw [sizeLine_eq]; exact (by decide : 3 ≤ 16777216), q⟩
    refine evalT (LM.here ?_)
    cases b with
    | true =>
      refine codeAny_handlers_suite_as ?_
      refine HandSPX.lands_againZ fl4 fun h5 fl5 up5 => ?_
      have J5 : Inv X pins τ G { z with heap := h5 } := J.landed nb fl5.1 (up4.trans up5) os ag
      obtain ⟨oe5, vs5, he5, hz5, hd5⟩ := fl5.there
      have S5 := J5.suite he5 hd5 na nL nF
      refine store_ok (X := X.suite a ((a, oe5) :: (X.pn ++ pins))) (v := .ref a) S5 hN hi locN rfl (fun s6 S6 => ?_) (.inr hln)
      refine wpAny_mono ((hsu a oe5 cls d (X.pn ++ pins) hz5 ⟨_, hd5⟩).run [] s6 _ G _ S6 (hyes rfl a na J.len)) (fun f s7 hsp => ?_) (fun _ _ q => False.elim q)
      have leave : ∀ {τ7 : L2.St} {G7 : Hp} {Q : Shared → Prop}, Inv (X.suite a ((a, oe5) :: (X.pn ++ pins))) [] τ7 G7 s7 → (∀ s8, Inv X pins (τ7.set i none) G7 s8 → Q s8) →
          wpAny (model X.prog X.w) X.A (do bindName X.env n .none; unbindBehindTheSuite X.env n hpos) (fun _ s8 => Q s8) X.xe s7 := fun {τ7 G7 Q} S7 hq => gone_ok (S7.unsuite okX) hN hi hln hq
      cases f with
      | ret u =>
        obtain ⟨v7, τ7, G7, S7, r7, q7⟩ := hsp
        exact leave S7 fun s8 J8 => ⟨_, _, _, J8, r7, q7⟩
      | next =>
        obtain ⟨τ7, G7, S7, q7⟩ := hsp
        exact leave S7 fun s8 J8 => ⟨_, _, J8, q7⟩
      | brk =>
        obtain ⟨τ7, G7, S7, q7⟩ := hsp
        exact leave S7 fun s8 J8 => ⟨_, _, J8, q7⟩
      | cont =>
        obtain ⟨τ7, G7, S7, q7⟩ := hsp
        exact leave S7 fun s8 J8 => ⟨_, _, J8, q7⟩
    | false =>
      show wpAny _ X.A (handleBy (.ref a) X.env []) _ _ _
      refine wpAny_handleBy_nil ?_
      obtain ⟨_, _, _, oe, vs, T, oT, ts2, hea, hza, hda, hv1, _⟩ := id fl4
      unfold PySem.passOn
      refine wpAny_bind (wpAny_field hea hda hv1 ?_)
      rw [if_neg (show ¬ ((Value.ref T == Value.none) = true) from by simp)]
      have on : wpAny (model X.prog X.w) X.A (setFlight (.ref a) X.env.frame) (fun _ s8 => wpAny (model X.prog X.w) X.A (throw (.ref a) : Sem Flow) (SP X pins D) X.xe s8) X.xe { z with heap := h3.push { cls := .type "tuple", data := .seq [c1, c2, c3].toArray } } := by
        rw [hf]
        refine HandSPX.setFlight_upZ fl4 fun h5 hh5 up5 => wpAny_throw (tk _ _ ?_)
        exact ⟨a, B, y, pins, τ, G, cls, d, rfl, J, nb, up4.trans up5, .inr (.inr (by rw [hs]; exact hh5)), na, os, ag, hno rfl⟩
      first
        | exact wpAny_bind (wpAny_pure (wpAny_bind on))
        | exact wpAny_bind on
  · cases f with
    | ret u =>
      obtain ⟨v, τ, G, J0, r, q⟩ := hsp
      exact ⟨v, τ, G, J0.ofTry okX, r, q⟩
    | next =>
      obtain ⟨τ, G, J0, q⟩ := hsp
      exact wpAny_execs_nil ⟨τ, G, J0.ofTry okX, q⟩
    | brk =>
      obtain ⟨τ, G, J0, q⟩ := hsp
      exact ⟨τ, G, J0.ofTry okX, q⟩
    | cont =>
      obtain ⟨τ, G, J0, q⟩ := hsp
      exact ⟨τ, G, J0.ofTry okX, q⟩
end
end Gd
set_option Elab.async false
set_option linter.all false
set_option maxRecDepth 100000
set_option maxHeartbeats 4000000
/-! the exception that is handled, handed to a def: its class asked, its field read; repr of any plain thing -/
namespace Gd
open PySem PySem.Spec PyProof.Rows L2
/-! ### repr(x), x plain data of any kind -/
def rShowV (K : PySem.W.Frag) : List V → Hp → VK → Prop := fun xs H Q => ∃ (v : V) (d : PyData), xs = [v] ∧ Dp K H v d ∧ d.showable = true ∧ d.hasDict = false ∧ d.depth ≤ 60 ∧ d.shown.length ≤ sizeLine ∧ Q (.str d.shown) H
theorem call_showV {X : Cx} (hG : X.A.guards = some []) (hu : X.A.units + 64 < cLine) : CallR X (.builtin "repr") (rShowV X.K) := by
  intro pins s σ H xs us Q I r h
  obtain ⟨v, d, rfl, hd, hs, hn, hz, hl, q⟩ := h
  obtain ⟨u, rfl, ru⟩ := vals1 r
  cases hd with
  | non =>
    cases (show u = Value.none from ru)
    exact PySem.P.repr_of_none ⟨.str "None", H, I.tok _, ⟨_, rfl⟩, q⟩
  | bl b =>
    cases (show u = Value.bool b from ru)
    refine PySem.P.repr_of_bool ?_
    cases b with
    | true => exact ⟨.str "True", H, I.tok _, ⟨_, rfl⟩, q⟩
    | false => exact ⟨.str "False", H, I.tok _, ⟨_, rfl⟩, q⟩
  | int i =>
    obtain ⟨t, rfl⟩ := (show ∃ t, u = Value.int i t from ru)
    refine PySem.P.repr_of_int ?_ ⟨.str (toString i), H, I.tok _, ⟨_, rfl⟩, q⟩
    rw [PyData.showable] at hs
    exact of_decide_eq_true hs
  | str z =>
    obtain ⟨t, rfl⟩ := (show ∃ t, u = Value.str z t from ru)
    exact PySem.P.repr_of_str ⟨.str (reprText z), H, I.tok _, ⟨_, rfl⟩, q⟩ hl
  | lst h1 h2 => exact call_show hG hu pins s σ H _ _ Q I r ⟨_, _, rfl, .lst h1 h2, hs, hn, hz, hl, q⟩
  | tup h1 h2 => exact call_show hG hu pins s σ H _ _ Q I r ⟨_, _, rfl, .tup h1 h2, hs, hn, hz, hl, q⟩
/-! ### the exception that is handled -/
/-- its object is known and stays: of the class C, its dict at d -/
def Pnd (X : Cx) (a C d : Addr) : Prop := ∃ oe : Obj, (a, oe) ∈ X.pn ∧ Zc (.ref C) (some d) oe ∧ ∃ vs, oe.data = .fields vs
theorem Pnd.obj {X : Cx} {pins : List (Addr × Obj)} {σ : L2.St} {H : Hp} {s : Shared} {a C d : Addr} {fs : List (Str × V)} (p : Pnd X a C d) (I : Inv X pins σ H s) (e : H d = some (.xd fs)) :
    ∃ (ox od : Obj) (mA : Str → Option Value), PySem.W.InstAt s.heap a ox C (some od) ∧ (∀ name, PySem.W.lookIn name od = some (mA name)) ∧ ∀ f, RelO (fs.lookup f) (mA f) := by
  obtain ⟨oe, hm, hz, vs, hd⟩ := p
  obtain ⟨ha, _⟩ := I.pin (a, oe) (List.mem_append_left _ hm)
  obtain ⟨mA, hns, hr⟩ := (show ObjOk X.prog X.w H s.heap d (.xd fs) from I.hok d _ e)
  obtain ⟨od, ho, hl⟩ := lookIn_ns hns
  exact ⟨oe, od, mA, ⟨ha, hz.1, by unfold PySem.W.notCls; rw [hd] <;> rfl, by rw [hz.2]; exact ho⟩, hl, hr⟩
/-- isinstance(e, c) -/
def rIsP (X : Cx) : List V → Hp → VK → Prop := fun xs H Q => ∃ (a C d : Addr) (fs : List (Str × V)) (c : V) (u : Value) (b : Bool), xs = [.ref a, c] ∧ Pnd X a C d ∧ H d = some (.xd fs) ∧ ClsV c u ∧ XC X.K C ∧ PySem.W.kitOne X.K (.ref C) u = some b ∧ Q (.bl b) H
theorem call_isP {X : Cx} : CallR X (.builtin "isinstance") (rIsP X) := by
  intro pins s σ H xs us Q I r h
  obtain ⟨a, C, d, fs, c, u, b, rfl, pn, ed, k, T, e, q⟩ := h
  obtain ⟨u1, u2, rfl, r1, r2⟩ := vals2 r
  have e2 := k.eq r2
  subst e2
  have e1 : u1 = Value.ref a := r1
  subst e1
  have hcl : (PySem.W.clsIn X.K C).isSome = true := by
    obtain ⟨cd, hc, _⟩ := PySem.W.any_some T.hd
    rw [hc]
    rfl
  obtain ⟨ox, od, mA, J, hl, rel⟩ := pn.obj I ed
  exact PySem.W.kia_one (PySem.W.kitx_exc hcl T.ga T.gg T.sB T.ca T.cn T.ct T.mo) I.kIn J e (fun z => nomatch z) fun tk => ⟨.bl b, H, I.tok tk, rfl, q⟩
/-- e.f -/
def tFp (X : Cx) (f : Str) (te : TE) : TE := fun σ H Q => te σ H fun x H1 => ∃ (a C d : Addr) (fs : List (Str × V)) (v : V), x = .ref a ∧ Pnd X a C d ∧ XC X.K C ∧ PySem.W.findIn X.K (.ref C) f = some none ∧ H1 d = some (.xd fs) ∧ fs.lookup f = some v ∧ Q v H1
theorem pe_fp {X : Cx} {e : Expr} {te : TE} {pos : Pos} {f : Str} (he : PE X e te) (hb : attributeBase e f X.env (eval e X.env) = eval e X.env := by rfl) : PE X (.Attribute e f pos) (tFp X f te) := by
  constructor
  intro pins s σ H Q I h
  refine attr_of hb (thn (he.run pins s σ H _ I h) fun u s1 z => ?_)
  obtain ⟨x, H1, I1, rx, a, C, d, fs, v, ex, pn, T, hno, ed, l, q⟩ := z
  subst ex
  have eu : u = Value.ref a := rx
  subst eu
  obtain ⟨ox, od, mA, J, hl, rel⟩ := pn.obj I1 ed
  obtain ⟨u2, hu, ru⟩ := RelO.some_of (v := v) (o := mA f) (by rw [← l]; exact rel f)
  exact HandSPX.exc_get I1.kIn J T.ga T.gg T.sB (PySem.W.findObj_own T.hd hno rfl (by rw [hl, hu])) (handed_of ru) ⟨v, H1, I1.tok _, ru, q⟩
/-! ### a def that gets it -/
abbrev SpE : Type := Value → Option Addr → Hp → VK → Prop
structure FnE (P : Program) (w : World) (K : PySem.W.Frag) (mg : Str → Option Value) (base : Heap) (k : Nat) (f : Addr) (fd : FuncData) (y : Str) (sp : SpE) : Prop where
  run : ∀ (A : Around) (ou : List Env) (s : Shared) (H : Hp) (gs : Args) (p : Addr × Obj) (cls : Value) (d : Option Addr) (Q : VK), A.guards = some [] → L2H.RoomH k A → L2H.PinOk ou H s p → Zc cls d p.2 → (∃ vs, p.2.data = .fields vs) → Env0 P w K mg base A ou s H →
    BindsTo s fd gs [(y, .ref p.1)] → sp cls d H Q → codeAny (model P w) A (.call (.ref f) gs) (CR CX0 ou P w H s Q E0) s
theorem okE {P : Program} {w : World} {K : PySem.W.Frag} {mg : Str → Option Value} {base : Heap} {x qn y : Str} {st : Stmt} {f : Addr} {fd : FuncData} {N : List Str} {k : Nat} {sp : SpE} (F : Fun K x qn st f fd) (S : FnScope N [y] (defScope st))
    (hb : ∀ (cv : Value) (A : Around) (ou : List Env) (s : Shared) (H : Hp) (p : Addr × Obj) (cls : Value) (d : Option Addr) (Q : VK), A.guards = some [] → L2H.RoomH k (A.deeper (envOfC qn (defScope st) s.heap.objs.size f cv)) → Zc cls d p.2 → (∃ vs, p.2.data = .fields vs) → sp cls d H Q →
      ∃ t, PSs (L2H.cxH CX0 P w K mg base N qn (defScope st) f cv A ou s H E0 p) (defBody st) t ∧ t { nx := fun _ H' => Q .non H', rt := Q } (start N [.ref p.1]) H) : FnE P w K mg base (k + 1) f fd y sp := by
  obtain ⟨oc, od, kV, dc, pm, an, cv, ct, osl, rfl, lk, hc⟩ := F.ex
  constructor
  intro A ou s H gs p cls d Q hG hR hP hz hf e0 hB hS
  have inK : K.In s.heap := e0.mod.kin.keeps (fun b o e => (e0.bs b o e).left)
  have noL : s.heap.NoLimit := e0.mod.nolimit.keeps (fun b o e => (e0.bs b o e).left)
  have kinds : ∀ q ∈ [(y, Value.ref p.1)], (defScope st).names.lookup q.1 = some .local ∨ ((defScope st).names.lookup q.1 = some .cell ∧ ((cellsFrom (s.heap.objs.size + 1) (defScope st).names []).lookup q.1).isSome = true) := by
    intro q hq
    rw [List.mem_singleton.mp hq]
    cases S.par y (List.mem_singleton.mpr rfl) with
    | inl q => exact .inl q
    | inr q => exact .inr ⟨q, PySem.W.cellsFrom_some _ _ _ (.inl q)⟩
  refine codeAny_call_function hR.depth (inK _ _ lk) rfl S.co S.gen rfl (PySem.W.codeRec_of inK hc) (hB _ _ _ _ ?_)
  refine wpAny_newFunctionEnv_cells S.kind kinds fun ev he s2 y2 => ?_
  subst he
  refine ⟨noL.keeps y2.toInCall.keep, codeAny_func ?_⟩
  obtain ⟨t, ht, hq⟩ := hb cv A ou s H p cls d Q hG (hR.deeper _) hz hf hS
  have J0 : Inv (L2H.cxH CX0 P w K mg base N qn (defScope st) f cv A ou s H E0 p) [] (start N [.ref p.1]) H s2 := L2H.inv_startH (ps := [y]) (us := [.ref p.1]) S hP e0 rfl (.cons rfl .nil) y2
  refine wpAny_mono (ht.run [] s2 (start N [.ref p.1]) H _ J0 hq) (fun fl s3 h3 => ?_) fun _ _ z => z
  have fin : ∀ {τ : L2.St} {H' : Hp} {v : V} {u : Value}, Inv (L2H.cxH CX0 P w K mg base N qn (defScope st) f cv A ou s H E0 p) [] τ H' s3 → RelV v u → Q v H' → CE ou P w H s Q u s3 := by
    intro τ H' v u J rv q
    exact ⟨v, H', J.os, J.bare, J.base, J.hok, rv, q⟩
  match fl, h3 with
  | .ret u, ⟨v, τ, H', J, rv, q⟩ => exact fin J rv q
  | .next, ⟨τ, H', J, q⟩ => exact fin (v := V.non) (u := Value.none) J rfl q
  | .brk, ⟨_, _, _, q⟩ => exact False.elim q
  | .cont, ⟨_, _, _, q⟩ => exact False.elim q
/-- f(e) in the suite that handles e -/
theorem pe_callE {X : Cx} {a : Addr} {oe : Obj} {cls : Value} {d : Option Addr} {pn : List (Addr × Obj)} {k i : Nat} {f : Addr} {fd : FuncData} {x n y : Str} {sp : SpE} {p1 p2 pos : Pos} (F : FnE X.prog X.w X.K X.mg X.base k f fd y sp) (hG : X.A.guards = some []) (hR : L2H.RoomH k X.A)
    (hz : Zc cls d oe) (hf : ∃ vs, oe.data = .fields vs) (hg : Gl X x) (hm : X.mg x = some (.ref f)) (hk : PySem.W.keepIn X.K (.ref f) = true) (hb : Binds X.K fd [y] []) (hN : X.N[i]? = some n) (hv : Vis X.env.scope n)
    (hdb : (x == ("__debug__" : Str)) = false := by decide) (hd : (n == ("__debug__" : Str)) = false := by decide) (hcd : (n == ("__classdict__" : Str)) = false := by decide) :
    PE (X.suite a ((a, oe) :: pn)) (.Call (.Name x p1) [.Name n p2] [] pos) (fun σ H Q => σ[i]? = some (some (.ref a)) ∧ sp cls d H Q) := by
  constructor
  intro pins s σ H Q I h
  obtain ⟨hs, hsp⟩ := h
  refine wpAny_Call_Name_kw (ld_glob I hg hm ?_ hdb)
  refine PySem.W.callWith_K (h₀ := X.base) I.ok.mod.kin hk ?_ (by rfl) (by rfl)
  refine Calls.spliced_cons (thn ((pe_var (X := X.suite a ((a, oe) :: pn)) (pos := p2) (i := i) hN hv hd hcd).run pins s σ H (fun v H1 => v = .ref a ∧ H1 = H) I ⟨.ref a, hs, rfl, rfl⟩) fun u s1 z => ?_)
  obtain ⟨v, H1, I1, r1, ev, eH⟩ := z
  subst ev eH
  have eu : u = Value.ref a := r1
  subst eu
  refine Calls.spliced_nil ⟨I1.kIn, ?_⟩
  have P1 := I1.pin (a, oe) (List.mem_append_left _ List.mem_cons_self)
  have hpin : L2H.PinOk X.stack H1 s1 (a, oe) := ⟨P1.1, P1.2.1, fun hm => (List.mem_cons.mp (I1.stkSub a hm)).elim P1.2.2.1 P1.2.2.2.1, P1.2.2.2.2⟩
  have b := hb s1 [.ref a] I1.kIn rfl
  rw [List.append_nil] at b
  refine wpAny_call (codeAny_mono (F.run (X.A.mark (some (.ref a))) X.stack s1 H1 ⟨[.ref a], []⟩ (a, oe) cls d Q hG ⟨hR.dp, hR.un⟩ hpin hz hf I1.env0 b hsp) fun r s' hq => ?_)
  match r, hq with
  | .error e, hq => exact (show False from hq).elim
  | .ok (.ret u), hq => exact I1.after hq
  | .ok .next, hq => exact False.elim hq
  | .ok .brk, hq => exact False.elim hq
  | .ok .cont, hq => exact False.elim hq
end Gd
set_option Elab.async false
set_option linter.all false
set_option maxRecDepth 100000
set_option maxHeartbeats 4000000
/-! a def that calls what it got, catches three classes, and has another def say what was caught -/
namespace Gd
open PySem PySem.Spec PyProof.Rows L2 LamX
abbrev nTold : List Str := ["_law_act", "_law_told_here", "_law_e"]
def TTold3 (K : PySem.W.Frag) (c1 c2 c3 : Value) (sp : SpE) : (XK → Hp → VK → Prop) → Hp → VK → Prop := fun tl H Q =>
  tl (fun cls d H' => ∃ b, PySem.W.exmAny K cls [c1, c2, c3] = some b ∧ (b = true → sp cls d H' Q) ∧ (b = false → False)) H
    (fun v H' => ∃ v', (some (some v) : Option (Option V)) = some (some v') ∧ ([V.str "given", v'].length ≤ sizeLine ∧ ∀ p, H' p = none → Q (.ref p) (upd H' p (.lst [.str "given", v']))))
theorem told3 {X : Cx} {x q : Str} {sg : Scope} {g fs : Addr} {c1 c2 c3 : Value} {cdg : Value} {fds : FuncData} {sp : SpE} {k j1 j2 : Nat} {p1 p2 p3 p4 p5 p6 p7 p8 p9 p10 p11 p12 p13 p14 p15 p16 p17 p18 : Pos} (S : FnScope nTold ["_law_act"] sg)
    (le : sg.names.lookup ("_law_e" : Str) = some .local) (lt : sg.names.lookup ("_law_told_here" : Str) = some .local)
    (g1 : sg.names.lookup ("TreeError" : Str) = some .globalImplicit) (m1 : X.mg "TreeError" = some c1) (g2 : sg.names.lookup ("StateError" : Str) = some .globalImplicit) (m2 : X.mg "StateError" = some c2) (g3 : sg.names.lookup ("LimitError" : Str) = some .globalImplicit) (m3 : X.mg "LimitError" = some c3)
    (gs : sg.names.lookup ("_law_sort" : Str) = some .globalImplicit) (ms : X.mg "_law_sort" = some (.ref fs)) (F : FnE X.prog X.w X.K X.mg X.base k fs fds "_law_e" sp) (ks : PySem.W.keepIn X.K (.ref fs) = true) (bs : Binds X.K fds ["_law_e"] []) (hG : X.A.guards = some []) (hR : Room (k + 1) X.A) :
    GivesTo X nTold x sg g cdg [.Try [.Assign [.Name "_law_told_here" p1] (.Call (.Name "_law_act" p2) [] [] p3) p4] [.ExceptHandler (some (.Tuple [.Name "TreeError" p5, .Name "StateError" p6, .Name "LimitError" p7] j1 p8)) (some "_law_e") [.Return (some (.Call (.Name "_law_sort" p9) [.Name "_law_e" p10] [] p11)) p12] p13] [] [] p14,
      .Return (some (.List [.Constant (.str "given") j2 p15, .Name "_law_told_here" p16] p17)) p18] "_law_act" q (TTold3 X.K c1 c2 c3 sp) := by
  intro f c' s H Q tl act hc h
  have rm : Room k (X.A.deeper (envOfC x sg s.heap.objs.size g cdg)) := hR.deeper _
  refine ⟨_, pss_cons (ps_try3 (X := (cxOf C8.CX0 X.prog X.w X.K X.mg X.base nTold x sg g cdg X.A X.stack s H C8.E0).nox) (i := 2) (n := "_law_e") (c1 := c1) (c2 := c2) (c3 := c3)
      (tb := fun W D σ H => ∃ Ech : XK, (∀ cls d σ' H', Ech cls d H' → W cls d σ' H') ∧ σ[0]? = some (some (.ref f)) ∧ H c' = some (CodeO c' q) ∧ tl Ech H fun v H' => D.nx (σ.set 1 (some v)) H')
      rfl rfl S.nd rfl le g1 m1 g2 m2 g3 m3 LamX.takes0 (fun W pn xe tk _ => ?_) (fun a oe cls d pn hz hf => pss_one (ps_ret (pe_callE (n := "_law_e") (i := 2) F hG ⟨rm.dp, rm.un⟩ hz hf gs ms ks bs rfl (.inl le))))) (pss_one (ps_ret (pe_lst (pa_cons pe_str (pa_cons (pe_var (i := 1) rfl (.inl lt)) pa_nil))))), ?_⟩
  · refine ⟨fun pins s' σ H' D I h' => ?_⟩
    obtain ⟨Ech, hW, h1, h2, h3⟩ := h'
    have hp := act W pn xe Ech p2 p3 tk hW
    have hq := pss_one (ps_set (i := 1) (pos := p4) (pos' := p1) S.nd rfl (.inl lt) hp)
    exact hq.run pins s' σ H' D I ⟨h1, h2, h3⟩
  · refine ⟨_, fun cls d σ' H' z => ?_, rfl, hc, h⟩
    obtain ⟨b, e1, e2, e3⟩ := z
    exact ⟨b, e1, fun hb a na hl => ⟨by rw [List.getElem?_set_self (by rw [hl]; exact (by decide : 2 < 3))], e2 hb⟩, fun hb => (e3 hb).elim⟩
end Gd
set_option Elab.async false
set_option linter.all false
set_option maxRecDepth 100000
set_option maxHeartbeats 4000000
/-! a law's end with tables of code objects, over promises that hold while no repr is under way -/
namespace Gd
open PySem PySem.Spec PyProof.Rows L2 LamX
theorem law_goT {P : Program} {w : World} {K : PySem.W.Frag} {mg mb : Str → Option Value} {k : Nat} {fa a : Addr} {cs : List (Addr × Addr)} {fd : FuncData} {x : Str} {sp : Sp} {s1 : Shared} {vs : List Value} {ns : List Int}
    (KX : K.In s1.heap) (hm : s1.heap.Ns mainGlobals mg) (hb : s1.heap.Ns builtinsNs mb) (hbb : ∀ x : Str, x ≠ "__name__" → mb x = bootBuiltins x) (hlim : s1.heap.NoLimit) (hg : s1.gens = #[])
    (ct : ∀ p ∈ cs, s1.heap.get? p.2 = some { cls := .none, data := .fields #[] }) (cK : ∀ p ∈ cs, K.lookup p.2 = none) (cd : ∀ p ∈ cs, PySem.W.CodeHd s1.heap p.1 p.2)
    (bi : ∃ bm ob, mg "__builtins__" = some (.ref bm) ∧ bm ≠ builtinsNs ∧ s1.heap.get? bm = some ob ∧ ob.cls = .type "module" ∧ ob.dict = some builtinsNs ∧ ob.data = .plain)
    (ha : s1.heap.get? a = some { cls := .type "list", data := .seq vs.toArray }) (hi : IntsAre vs ns) (hl : ns.length ≤ sizeLine) (hR : Room k callerA)
    (F : ∀ base : Heap, K.In base → base.Ns mainGlobals mg → (∀ p ∈ cs, TabB base mg p.1 p.2) → Pr P w K mg base CX0 k fa fd [x] sp) (hbind : ∀ (s : Shared) (u : Value), BindsTo s fd ⟨[u], []⟩ [(x, u)])
    (hsp : ∀ H : Hp, (∀ p ∈ cs, H p.2 = some (.tbl #[])) → SqL K H a (ns.map V.int) → sp [.ref a] H (fun v _ => v = .bl true) fun _ _ _ => False) :
    codeAny (model P w) callerA (.call (.ref fa) ⟨[.ref a], []⟩) (fun r s' => r = .ok (.ret (.bool true)) ∧ OldK s1.heap s'.heap ∧ s'.os = s1.os ∧ AllBare s'.gens) s1 := by
  have rv := vals_ints hi
  have main : ∀ H : Hp, (∀ b, H b = none ∨ (b = a ∧ ∃ ob xs, H b = some (.frz ob (.lst xs))) ∨ ((∃ p ∈ cs, b = p.2) ∧ H b = some (.tbl #[]))) → (∀ p ∈ cs, H p.2 = some (.tbl #[])) → SqL K H a (ns.map V.int) → HOk P w H s1.heap → (H a ≠ none → K.lookup a = none) →
      codeAny (model P w) callerA (.call (.ref fa) ⟨[.ref a], []⟩) (fun r s' => r = .ok (.ret (.bool true)) ∧ OldK s1.heap s'.heap ∧ s'.os = s1.os ∧ AllBare s'.gens) s1 := by
    intro H hO hT hS hok ok
    have none_of : ∀ {b : Addr} {o : Obj}, s1.heap.get? b = some o → o.data ≠ .seq vs.toArray 0 → o.data ≠ .fields #[] → H b = none := by
      intro b o e n1 n2
      rcases hO b with z | ⟨rfl, _⟩ | ⟨⟨p, hp, rfl⟩, _⟩
      · exact z
      · rw [ha] at e
        cases e
        exact absurd rfl n1
      · rw [ct p hp] at e
        cases e
        exact absurd rfl n2
    have stay : ∀ {b : Addr} {o : Obj}, s1.heap.get? b = some o → H b = none → (hidT s1.heap H).get? b = some o := fun e n => hidT_get e n
    have ns_of : ∀ {b : Addr} {m : Str → Option Value}, s1.heap.Ns b m → (hidT s1.heap H).Ns b m := by
      rintro b m ⟨o, es, ep, e, d, r⟩
      exact ⟨o, es, ep, stay e (none_of e (by rw [d]; intro z; cases z) (by rw [d]; intro z; cases z)), d, r⟩
    have inK : K.In (hidT s1.heap H) := by
      intro b o e
      refine stay (KX b o e) ?_
      rcases hO b with z | ⟨rfl, z⟩ | ⟨⟨p, hp, rfl⟩, _⟩
      · exact z
      · obtain ⟨ob, xs, z⟩ := z
        rw [ok (by rw [z]; simp)] at e
        cases e
      · rw [cK p hp] at e
        cases e
    have tb : ∀ p ∈ cs, TabB (hidT s1.heap H) mg p.1 p.2 := by
      intro p hp
      obtain ⟨o, xs, file, tf, flags, tg, inF, text, tt, e1, e2, e3, e4, r⟩ := cd p hp
      have n2 : xs ≠ #[] := fun z => by rw [z] at e4; cases e4
      have gne : mainGlobals ≠ p.2 := fun z => by
        obtain ⟨o', es, ep, e, d, _⟩ := hm
        rw [z, ct p hp] at e
        cases e
        cases d
      refine ⟨⟨o, xs, file, tf, flags, tg, inF, text, tt, stay e1 (none_of e1 (by rw [e3]; intro z; cases z) (by rw [e3]; intro z; injection z with z; exact n2 z)), e2, e3, e4, r⟩, ?_, gne⟩
      obtain ⟨bm, ob, b1, b2, b3, b4, b5, b6⟩ := bi
      refine ⟨bm, ob, b1, b2, ?_, ?_, stay b3 (none_of b3 (by rw [b6]; intro z; cases z) (by rw [b6]; intro z; cases z)), b4, b5, b6⟩
      · rintro rfl
        obtain ⟨o', es, ep, e, d, _⟩ := hm
        rw [b3] at e
        cases e
        rw [b6] at d
        cases d
      · rintro rfl
        rw [ct p hp] at b3
        cases b3
        cases b6
    obtain ⟨mc, l1, l2⟩ := hlim
    have hM : Mod K mg (hidT s1.heap H) := ⟨inK, ns_of hm, ⟨mb, ns_of hb, hbb⟩, ⟨mc, ns_of l1, l2⟩⟩
    have e0 : Env0 P w K mg (hidT s1.heap H) callerA [] s1 H :=
      ⟨rfl, hM, fun b o e => of_hidT e, Nat.le_of_eq (hidT_size _ _), trivial, fun b z => by simp [frs] at z, hok, .of_eq hg⟩
    refine codeAny_mono ((F _ inK (ns_of hm) tb).go callerA [] s1 H ⟨[.ref a], []⟩ [.ref a] [.ref a] _ _ rfl hR e0 (hbind s1 (.ref a)) (.cons rfl .nil) (hsp H hT hS)) fun r s2 h => ?_
    match r, h with
    | .error e, h => exact False.elim h
    | .ok .next, h => exact False.elim h
    | .ok .brk, h => exact False.elim h
    | .ok .cont, h => exact False.elim h
    | .ok (.ret u), ⟨v, H', os, bare, un, hok', r', q⟩ =>
      have q' : v = .bl true := q
      subst q'
      have r2 : u = Value.bool true := r'
      subst r2
      refine ⟨rfl, ⟨fun b o e => ?_, fun b o e => ?_⟩, os, bare⟩
      · rcases hO b with z | ⟨rfl, ob, xs, z⟩ | ⟨⟨p, hp, rfl⟩, z⟩
        · exact .inl (un.keep b o e z (by simp [frs]) (by simp))
        · have z2 := un.frzs b ob _ z
          have g1 := (hok b _ z).1
          have g2 := (hok' b _ z2).1
          rw [e] at g1
          cases g1
          exact .inl g2
        · obtain ⟨more, z2⟩ := un.tbls _ _ z
          obtain ⟨oc, xs, _, _, _, _, _, _, _, e1, e2, e3, e4, _⟩ := cd p hp
          rw [ct p hp] at e
          cases e
          refine .inr (.inl ⟨⟨p.1, oc, xs, e1, e2, e3, e4⟩, rfl, #[], more, rfl, ?_⟩)
          have := hok' p.2 _ z2
          exact this
      · exact un.there b o e (by simp)
  have cta : ∀ p ∈ cs, p.2 ≠ a := fun p hp z => by
    have := ct p hp
    rw [z, ha] at this
    cases this
  cases hk : K.lookup a with
  | some o =>
    have e := KX a o hk
    rw [ha] at e
    cases e
    refine main (fun b => if b ∈ cs.map (·.2) then some (.tbl #[]) else none) (fun b => ?_) (fun p hp => if_pos (List.mem_map.mpr ⟨p, hp, rfl⟩)) (.inr ⟨_, vs.toArray, _, hk, rfl, rfl, rfl, by rw [List.size_toArray, hi.length]; exact hl, by simpa using rv⟩) (fun b u z => ?_) (fun z => absurd (if_neg fun h => by obtain ⟨p, hp, e⟩ := List.mem_map.mp h; exact cta p hp e) z)
    · by_cases hb : b ∈ cs.map (·.2)
      · obtain ⟨p, hp, e⟩ := List.mem_map.mp hb
        exact .inr (.inr ⟨⟨p, hp, e.symm⟩, if_pos hb⟩)
      · exact .inl (if_neg hb)
    · by_cases hb : b ∈ cs.map (·.2)
      · cases (if_pos hb).symm.trans z
        obtain ⟨p, hp, rfl⟩ := List.mem_map.mp hb
        exact ct p hp
      · cases (if_neg hb).symm.trans z
  | none =>
    have nta : ∀ {b}, b = a → ¬ b ∈ cs.map (·.2) := fun e h => by
      obtain ⟨p, hp, z⟩ := List.mem_map.mp h
      exact cta p hp (z.trans e)
    have at_ : (fun b => if b = a then some (HO.frz { cls := .type "list", data := .seq vs.toArray } (.lst (ns.map V.int))) else if b ∈ cs.map (·.2) then some (.tbl #[]) else none) a = some (HO.frz { cls := .type "list", data := .seq vs.toArray } (.lst (ns.map V.int))) := if_pos rfl
    refine main (fun b => if b = a then some (HO.frz { cls := .type "list", data := .seq vs.toArray } (.lst (ns.map V.int))) else if b ∈ cs.map (·.2) then some (.tbl #[]) else none) (fun b => ?_) (fun p hp => ?_) (.inl (.inr ⟨_, at_⟩)) (fun b u z => ?_) fun _ => hk
    · by_cases hb : b = a
      · exact .inr (.inl ⟨hb, _, _, if_pos hb⟩)
      · by_cases hc : b ∈ cs.map (·.2)
        · obtain ⟨p, hp, e⟩ := List.mem_map.mp hc
          exact .inr (.inr ⟨⟨p, hp, e.symm⟩, (if_neg hb).trans (if_pos hc)⟩)
        · exact .inl ((if_neg hb).trans (if_neg hc))
    · exact (if_neg (cta p hp)).trans (if_pos (List.mem_map.mpr ⟨p, hp, rfl⟩))
    · by_cases hb : b = a
      · subst hb
        cases at_.symm.trans z
        exact ⟨ha, by rw [List.length_map]; exact hl, vs, _, rv, ha⟩
      · by_cases hc : b ∈ cs.map (·.2)
        · cases ((if_neg hb).trans (if_pos hc)).symm.trans z
          obtain ⟨p, hp, rfl⟩ := List.mem_map.mp hc
          exact ct p hp
        · cases ((if_neg hb).trans (if_neg hc)).symm.trans z
/-- what is to be known of the law's def -/
def LawT (l : PySem.W.OpenLaw) (w : World) (K : PySem.W.Frag) (k n : Nat) (x : Str) (mg : Str → Option Value) (fa : Addr) (h : Heap) : Prop :=
  ∃ (fd : FuncData) (cs : List (Addr × Addr)) (sp : Sp), (∀ p ∈ cs, h.get? p.2 = some { cls := .none, data := .fields #[] }) ∧ (∀ p ∈ cs, K.lookup p.2 = none) ∧ (∀ p ∈ cs, PySem.W.CodeHd h p.1 p.2) ∧
    (∀ (s : Shared) (u : Value), BindsTo s fd ⟨[u], []⟩ [(x, u)]) ∧
    (∀ (H : Hp) (a : Addr) (ns : List Int), ns.length ≤ n → (∀ p ∈ cs, H p.2 = some (.tbl #[])) → SqL K H a (ns.map V.int) → sp [.ref a] H (fun v _ => v = .bl true) fun _ _ _ => False) ∧
    ∀ base : Heap, K.In base → base.Ns mainGlobals mg → (∀ p ∈ cs, TabB base mg p.1 p.2) → Pr l.prog w K mg base CX0 k fa fd [x] sp
theorem walk_goT {l : PySem.W.OpenLaw} {n k : Nat} {q : Program} {loose : List Str} {XP : (Str → Option Value) → Heap → Prop} {YP : World → Heap → Prop} {d : DefRec} {x : Str}
    (hn : l.most = some n) (hn2 : n ≤ sizeLine) (hdf : d.params.defaults = []) (hR : Room k callerA)
    (F : ∀ (w : World) (mg : Str → Option Value) (fa : Addr) (h : Heap), YP w h → h.Ns mainGlobals mg → mg d.name = some (.ref fa) → ∃ K : PySem.W.Frag, K.In h ∧ LawT l w K k n x mg fa h) :
    PySem.W.WalkO q loose XP YP l.row.toRowW d [] (fun f vs => PySem.call f vs) := by
  refine Att.attach_call hn hdf fun w s0 s1 mg mb fa o pm cd doc a vs ns G Y ho hd hcd hmg hobj hints hlen hg => ?_
  obtain ⟨K, KX, fd, cs, sp, h1, h2, h3, hb, hsp, hF⟩ := F w mg fa _ Y G.T.g hmg
  have bi : ∃ bm ob, mg "__builtins__" = some (.ref bm) ∧ bm ≠ builtinsNs ∧ s1.heap.get? bm = some ob ∧ ob.cls = .type "module" ∧ ob.dict = some builtinsNs ∧ ob.data = .plain := by
    obtain ⟨_, _, _, _, _, _, _, _, _, _, z, _⟩ := G.T
    exact z
  exact law_goT KX G.T.g G.T.b G.T.builtins G.T.nolimit hg h1 h2 h3 bi hobj hints (Nat.le_trans hlen hn2) hR hF hb fun H hT hS => hsp H a ns hlen hT hS
end Gd
set_option Elab.async false
set_option linter.all false
set_option maxRecDepth 100000
set_option maxHeartbeats 4000000
namespace Ks
open PySem PySem.Spec PyProof.Rows L2 Gd Kx
/-- rows that are right, and behind them at most one whose kind is none -/
structure Pre (ks : List Str) (pre : List Rw) (o : Option Rw) : Prop where
  r1 : 1 ≤ (pre ++ o.toList).length
  r6 : (pre ++ o.toList).length ≤ 6
  ok : ∀ r ∈ pre, RwOk ks r
  rd : ((pre ++ o.toList).map (·.1)).Nodup
  bad : ∀ r, o = some r → nmS r.1 = true ∧ r.2.1 ∉ ks
theorem Pre.which {ks : List Str} {pre : List Rw} {o : Option Rw} (g : Pre ks pre o) {i : Nat} {r : Rw} (h : (pre ++ o.toList)[i]? = some r) : (r.2.1 ∈ ks ∧ RwOk ks r ∧ i < pre.length) ∨ (r.2.1 ∉ ks ∧ i = pre.length ∧ o = some r) := by
  by_cases hi : i < pre.length
  · rw [List.getElem?_append_left hi] at h
    have := g.ok r (List.mem_of_getElem? h)
    exact .inl ⟨this.k, this, hi⟩
  · rw [List.getElem?_append_right (by omega)] at h
    cases o with
    | none => cases h
    | some x =>
      have e : i - pre.length = 0 := by
        have := (List.getElem?_eq_some_iff.mp h).1
        simp at this
        omega
      rw [e] at h
      cases h
      exact .inr ⟨(g.bad r rfl).2, by omega, rfl⟩
theorem Pre.name {ks : List Str} {pre : List Rw} {o : Option Rw} (g : Pre ks pre o) {i : Nat} {r : Rw} (h : (pre ++ o.toList)[i]? = some r) : nmS r.1 = true := by
  rcases g.which h with ⟨_, k, _⟩ | ⟨_, _, k⟩
  · exact k.n
  · exact (g.bad r k).1
theorem Pre.kind {ks : List Str} {pre : List Rw} {o : Option Rw} (g : Pre ks pre o) {i : Nat} {r : Rw} (h : (pre ++ o.toList)[i]? = some r) : RwOk ks r ∨ r.2.1 ∉ ks := by
  rcases g.which h with ⟨_, k, _⟩ | ⟨k, _⟩
  · exact .inl k
  · exact .inr k
section
variable {P : Program} {w : World} {K : PySem.W.Frag} {mg : Str → Option Value} {base : Heap} {C : Addr}
def spIsD : Sp := fun vs H Q _ => ∃ (x : V) (a : Addr) (ks : List Str) (r : Rw), vs = [x, .ref a] ∧ StT H a ks ∧ RowV H x r ∧ nmS r.1 = true ∧ (RwOk ks r ∨ r.2.1 ∉ ks) ∧ ∀ H', Same H H' → Q (.bl (decide (r.2.1 ∈ ks))) H'
theorem ok_isD {f fi fo : Addr} {fd fdi fdo : FuncData} (F : Fun K "_is_constructor" "_is_constructor" sIsC f fd) (T : TS0 mg)
    (GI : FnOk P w K mg base CX0 1 fi fdi ["value"] (spIs K)) (ki : PySem.W.keepIn K (.ref fi) = true) (bI : Binds K fdi ["value"] []) (gI : mg "is_name" = some (.ref fi))
    (GO : FnOk P w K mg base CX0 1 fo fdo ["value", "names"] (spOne K)) (ko : PySem.W.keepIn K (.ref fo) = true) (bO : Binds K fdo ["value", "names"] []) (gO : mg "_is_one_of" = some (.ref fo)) :
    FnOk P w K mg base CX0 2 f fd ["value", "kinds"] spIsD := by
  obtain ⟨t3, m3⟩ := T.mfi
  refine F.ok scIsC (fun vs H Q E h => ?_) (fun cv A ou s H vs Q E hr h => ?_)
  · obtain ⟨x, a, ks, r, rfl, _⟩ := h
    rfl
  obtain ⟨x, a, ks, r, rfl, hs, ⟨b, fa, rfl, hb, hf⟩, gn, gk, q⟩ := h
  refine ⟨_, pss_cons (ps_if (PW.pt (pw_or (pt_not (pt_val (pe_callB call_isi (by rfl) T.isi boot_isinstance (pa_cons (pv 0) (pa_cons (pe_bltn (v := .ty "tuple") (by rfl) T.tup boot_tuple rfl) pa_nil)))))
        (pw_or1 (pt_cmpR op_ne (pe_callB call_len_seq (by rfl) T.len PySem.boot_len (pa_cons (pv 0) pa_nil)) pe_int (nomark _))))) (pss_one (ps_ret pe_bl)) pss_nil)
    (pss_cons (ps_asg (pv 0) (pg_tup (by rfl) (pgs_cons (pg_name (i := 2) scIsC.nd rfl (.inl rfl)) (pgs_cons (pg_name (i := 3) scIsC.nd rfl (.inl rfl)) (pgs_cons (pg_name (i := 4) scIsC.nd rfl (.inl rfl)) pgs_nil)))))
    (pss_cons (ps_if (PW.pt (pw_or (pt_not (pt_val (pe_call GI hr (by rfl) gI ki bI .nil pass0 (pa_cons (pv 2) pa_nil)))) (pw_or1 (pt_not (pt_val (pe_call GO hr (by rfl) gO ko bO .nil pass0 (pa_cons (pv 3) (pa_cons (pv 1) pa_nil)))))))) (pss_one (ps_ret pe_bl)) pss_nil)
    (pss_cons (ps_if (PW.pt (pw_or (pt_not (pt_val (pe_callB call_isi (by rfl) T.isi boot_isinstance (pa_cons (pv 4) (pa_cons (pe_bltn (v := .ty "tuple") (by rfl) T.tup boot_tuple rfl) pa_nil)))))
        (pw_or1 (pt_cmpR op_gt (pe_callB call_len_seq (by rfl) T.len PySem.boot_len (pa_cons (pv 4) pa_nil)) (pe_glob (v := .int 3) (by rfl) m3 ⟨_, rfl⟩) (nomark _))))) (pss_one (ps_ret pe_bl)) pss_nil)
    (pss_one (ps_ret (pe_callB (cr_all rfl) (by rfl) T.all boot_all (pa_cons (pe_lc (own := [("field", 5)]) (g := gName 5) (tt := tYes) rfl scIsC.nd (pi_tup (pv 4)) (blkOk_by (own := [("field", 5)]) (N := ["value", "kinds", "name", "kind", "fields", "field"]) (sc := defScope sIsC) (by decide +kernel))
      (fun _ _ _ _ _ => pg_name (i := 5) scIsC.nd rfl (Or.inl rfl)) (fun _ _ _ _ _ => pts_nil)
      (fun _ _ _ _ _ => asTE (te := tCall (spOne K) [] E0 (tCons (tVar 5) (tCons (tVar 1) tNil))) (pe_call GO hr (by rfl) gO ko bO .nil pass0 (pa_cons (pv 5) (pa_cons (pv 1) pa_nil))) rfl)) pa_nil))))))), ?_⟩
  refine ⟨.ref b, rfl, .ref b, .ty "tuple", _, _, true, rfl, .ty "tuple", .base (.tup hb), kit_ty (by decide +kernel), _, rfl, iteF ?_⟩
  refine ⟨.ref b, rfl, b, _, rfl, .inr (SqT.of hb), rfl, _, rfl, ?_⟩
  rw [show decide (V.int ((([V.str r.1, .str r.2.1, .ref fa] : List V).length : Nat) : Int) = V.int 3) = true from decide_eq_true rfl]
  refine iteF ?_
  refine ⟨.ref b, rfl, b, _, rfl, SqT.of hb, rfl, _, _, rfl, _, _, rfl, _, _, rfl, rfl, ?_⟩
  refine ⟨.str r.1, rfl, .str r.1, rfl, .inl ⟨r.1, rfl, by have := (nm_len gn).2; omega, fun H2 s2 => ?_⟩⟩
  rw [gn]
  have hs2 : StT H2 a ks := s2 _ _ hs
  have hf2 : H2 fa = _ := s2 _ _ hf
  rcases gk with g | ng
  rotate_left
  · refine ⟨true, rfl, iteF ⟨.str r.2.1, rfl, .ref a, rfl, .str r.2.1, a, ks, false, rfl, SqT.of hs2, .inl ⟨r.2.1, rfl, (decide_eq_false ng).symm⟩, false, rfl, iteT ?_⟩⟩
    have q2 := q H2 s2
    rw [decide_eq_false ng] at q2
    exact q2
  rw [decide_eq_true g.k] at q
  refine ⟨true, rfl, iteF ⟨.str r.2.1, rfl, .ref a, rfl, .str r.2.1, a, ks, true, rfl, SqT.of hs2, .inl ⟨r.2.1, rfl, (decide_eq_true g.k).symm⟩, true, rfl, iteF ?_⟩⟩
  refine ⟨.ref fa, rfl, .ref fa, .ty "tuple", _, _, true, rfl, .ty "tuple", .base (.tup hf2), kit_ty (by decide +kernel), _, rfl, iteF ?_⟩
  refine ⟨.ref fa, rfl, fa, _, rfl, .inr (SqT.of hf2), _, _, rfl, rfl, _, rfl, ?_⟩
  have gl := g.l
  rw [decide_eq_false (show ¬ ((r.2.2.map V.str).length : Int) > 3 by rw [List.length_map]; omega)]
  refine iteF ?_
  refine ⟨.ref fa, rfl, fa, rfl, ⟨_, SqT.of hf2⟩, fun D nD => lc_funT (K := K) (a := fa) (xs := r.2.2.map V.str) (ys := List.replicate r.2.2.length (V.bl true)) (fun _ => rfl) nD (SqT.of hf2) (by rw [List.length_map]; omega) (by rw [List.length_map, List.length_replicate]) (fun i x y H3 hx hy s3 q => ?_) fun H3 s3 eD => ?_⟩
  · intro k
    rw [List.getElem?_map] at hx
    cases e : r.2.2[i]? with
    | none => rw [e] at hx; cases hx
    | some z =>
      rw [e] at hx
      cases hx
      have ey : y = V.bl true := by
        have := List.mem_of_getElem? hy
        exact (List.mem_replicate.mp this).2
      subst ey
      exact ⟨.str z, rfl, .ref a, rfl, .str z, a, ks, true, rfl, SqT.of (s3 _ _ hs2), .inl ⟨z, rfl, (decide_eq_true (g.f z (List.mem_of_getElem? e))).symm⟩, k H3 fun _ _ e => e⟩
  · refine ⟨D, List.replicate r.2.2.length true, rfl, SqL.of (by rw [eD, List.map_replicate]), ?_⟩
    rw [show (List.replicate r.2.2.length true).all id = true from List.all_eq_true.mpr fun x hx => by rw [(List.mem_replicate.mp hx).2]; rfl]
    exact q H3 (s2.trans s3)
def spCd (C : Addr) : Sp := fun vs H Q E => ∃ (c a : Addr) (ks : List Str) (pre : List Rw) (o : Option Rw), vs = [.ref c, .ref a] ∧ StT H a ks ∧ RowsT H c (pre ++ o.toList) ∧ Pre ks pre o ∧
  (o = none → ∀ H', Same H H' → Q .non H') ∧ (o.isSome = true → ∀ d H', Same H H' → H' d = some (.xd [("index", .int (pre.length : Nat))]) → E (.ref C) (some d) H')
theorem ok_cd {f fi : Addr} {fd fdi : FuncData} (F : Fun K "_check_constructors" "_check_constructors" sCc f fd) (T : TS0 mg)
    (GI : FnOk P w K mg base CX0 2 fi fdi ["value", "kinds"] spIsD) (ki : PySem.W.keepIn K (.ref fi) = true) (bI : Binds K fdi ["value", "kinds"] []) (gI : mg "_is_constructor" = some (.ref fi)) (O : One P w K mg base "InvalidConstructors" "index" C) (ty : PySem.W.typeIn K (.ref C) = some (.type "type")) :
    FnOk P w K mg base (CX P w) 3 f fd ["constructors", "kinds"] (spCd C) := by
  obtain ⟨t6, m6⟩ := T.mco
  refine F.okX scCc (fun vs H Q E h => ?_) (fun cv A ou s H vs Q E hr h => ?_)
  · obtain ⟨c, a, ks, pre, o, rfl, _⟩ := h
    rfl
  obtain ⟨c, a, ks, pre, o, rfl, hs, ⟨xs, hc, hp⟩, g, q, qE⟩ := h
  have ln : xs.length = (pre ++ o.toList).length := Paired.length hp
  refine ⟨_, pss_cons (ps_if (PW.pt (pw_or (pt_not (pt_val (pe_callB call_isi (by rfl) T.isi boot_isinstance (pa_cons (pv 0) (pa_cons (pe_bltn (v := .ty "tuple") (by rfl) T.tup boot_tuple rfl) pa_nil)))))
        (pw_or1 (pt_not (pt_chain op_le op_le pe_int (pe_callB call_len_seq (by rfl) T.len PySem.boot_len (pa_cons (pv 0) pa_nil)) (pe_glob (v := .int 6) (by rfl) m6 ⟨_, rfl⟩)))))) pss_never pss_nil)
    (pss_cons (ps_set (i := 2) scCc.nd rfl (.inl rfl) (pe_lst pa_nil))
    (pss_one (ps_for PassesOwn.leaving rfl (pi_enT (by rfl) T.enu (pa_cons (pv 0) pa_nil)) (pg_tup rfl (pgs_cons (pg_name (i := 3) scCc.nd rfl (.inl rfl)) (pgs_cons (pg_name (i := 4) scCc.nd rfl (.inl rfl)) pgs_nil)))
      (pss_cons (ps_if (PW.pt (pw_or (pt_not (pt_val (pe_call GI hr (by rfl) gI ki bI .nil pass0 (pa_cons (pv 4) (pa_cons (pv 1) pa_nil))))) (pw_or1 (pt_cmpR op_in_seq (pe_ix ix_tup (pv 4) pe_int (fun _ _ => rfl)) (pv 2) (by rfl))))) (pss_one (ps_raise rfl (takes_of rfl rfl rfl rfl) (pmk_one O ty hr (by rfl) (pv 3)))) pss_nil)
      (pss_one (ps_expr (pe_bm PySem.F.plainAttrs_list PySem.F.slot_list_append PySem.F.type_list_append mt_append (pv 2) (pa_cons (pe_ix ix_tup (pv 4) pe_int (fun _ _ => rfl)) pa_nil)))))))), ?_⟩
  refine ⟨.ref c, rfl, .ref c, .ty "tuple", _, _, true, rfl, .ty "tuple", .base (.tup hc), kit_ty (by decide +kernel), _, rfl, iteF ?_⟩
  refine ⟨.ref c, rfl, c, _, rfl, .inr (SqT.of hc), _, _, rfl, rfl, _, rfl, ?_⟩
  have r1 := g.r1
  have r6 := g.r6
  rw [decide_eq_true (show (1 : Int) ≤ ((xs.length : Nat) : Int) by omega)]
  refine iteT ⟨_, _, rfl, rfl, _, rfl, ?_⟩
  rw [decide_eq_true (show ((xs.length : Nat) : Int) ≤ 6 by omega)]
  refine iteF ⟨(by show 0 ≤ sizeLine; exact Nat.zero_le _), fun L nL => ?_⟩
  refine ⟨.ref c, rfl, c, _, rfl, SqT.of (same_new nL _ _ hc), for_enT (K := K) (t := c) (xs := xs) (fun i σ H' => ∃ o3 o4 : Option V, σ = [some (.ref c), some (.ref a), some (.ref L), o3, o4] ∧ Same H H' ∧ H' L = some (.lst ((((pre ++ o.toList).take i).map (·.1)).map V.str)) ∧ i ≤ pre.length) ⟨none, none, rfl, same_new nL, upd_same, Nat.zero_le _⟩ (fun i σ H' _ p => ?_) ?_ ?_⟩
  · obtain ⟨_, _, _, s1, _⟩ := p
    exact SqT.of (s1 _ _ hc)
  · rintro i x σ H1 p hx ⟨o3, o4, rfl, s1, eL, _⟩ np
    obtain ⟨r, hr2, b, fa, rfl, hb, hf⟩ := rows_at hp hx
    have hi : i < (pre ++ o.toList).length := (List.getElem?_eq_some_iff.mp hr2).1
    have s2 : Same H1 (upd H1 p (.tup [.int (i : Nat), .ref b])) := same_new np
    refine ⟨p, _, rfl, SqT.of upd_same, rfl, ?_⟩
    have sA := s1.trans s2
    refine ⟨_, _, rfl, _, _, rfl, rfl, .ref b, rfl, .ref a, rfl, .ref b, a, ks, r, rfl, sA _ _ hs, ⟨b, fa, rfl, sA _ _ hb, sA _ _ hf⟩, g.name hr2, g.kind hr2, fun H2 s3 => ?_⟩
    rcases g.which hr2 with ⟨hk, _, hip⟩ | ⟨hk, ei, eo⟩
    rotate_left
    · rw [decide_eq_false hk]
      refine ⟨false, rfl, iteT ?_⟩
      refine ⟨.int (i : Nat), rfl, fun d H3 s4 _ e3 => ?_⟩
      rw [ei] at e3
      exact qE (by rw [eo]; rfl) d H3 (s1.trans (s2.trans (s3.trans s4))) e3
    rw [decide_eq_true hk]
    refine ⟨true, rfl, iteF ?_⟩
    have sB := sA.trans s3
    have eL2 := s3 _ _ (s2 _ _ eL)
    have hb2 := sB _ _ hb
    refine ⟨.ref b, rfl, b, _, _, .str r.1, rfl, rfl, SqT.of hb2, rfl, .ref L, rfl, L, _, rfl, .inl (SqL.of eL2), rfl, all_flat _, _, rfl, ?_⟩
    rw [if_neg (by decide), inV_str, decide_eq_false (fun h => ?_)]
    · refine iteF ⟨.ref L, rfl, .inl ⟨rfl, _, SqL.of eL2⟩, .ref b, rfl, b, _, _, .str r.1, rfl, rfl, SqT.of hb2, rfl, L, _, _, rfl, rfl, eL2, ?_, _, _, rfl, same_upd sB nL, ?_, hip⟩
      · rw [List.length_map, List.length_map, List.length_take]
        exact small1000 (by omega)
      · rw [upd_same, List.take_add_one, hr2]
        simp
    · rw [List.map_take] at h
      obtain ⟨j, hj, ej⟩ := List.getElem_of_mem h
      rw [List.length_take, List.length_map] at hj
      rw [List.getElem_take] at ej
      have e2 : ((pre ++ o.toList).map (·.1))[j]? = ((pre ++ o.toList).map (·.1))[i]? := by
        rw [List.getElem?_eq_getElem (by rw [List.length_map]; omega), ej, List.getElem?_map, hr2]
        rfl
      have := (List.getElem?_inj (by rw [List.length_map]; omega) g.rd).mp e2
      omega
  · rintro σ H1 ⟨o3, o4, rfl, s1, _, le⟩
    rw [ln] at le
    cases o with
    | none => exact q rfl H1 s1
    | some _ => simp at le; omega
end
end Ks
set_option Elab.async false
set_option linter.all false
set_option maxRecDepth 100000
set_option maxHeartbeats 4000000
namespace Ks
open PySem PySem.Spec PyProof.Rows L2 Gd Kx
/-! the kinds that have a tree, filled in rounds -/
def stp (fl : List Str) (r : Rw) : List Str := if r.2.1 ∉ fl ∧ (r.2.2.all fun z => decide (z ∈ fl)) = true then fl ++ [r.2.1] else fl
def rds (rs : List Rw) : Nat → List Str
  | 0 => []
  | n + 1 => rs.foldl stp (rds rs n)
def fullOf (ks : List Str) (rs : List Rw) : List Str := rds rs ks.length
/-- the first kind without a tree -/
def emp (ks : List Str) (rs : List Rw) : Option Str := ks.find? fun k => !decide (k ∈ fullOf ks rs)
structure FullK (ks fl : List Str) : Prop where
  nd : fl.Nodup
  sub : ∀ x ∈ fl, x ∈ ks
theorem FullK.len {ks fl : List Str} (f : FullK ks fl) (g : ks.length ≤ 4) : fl.length ≤ 4 := Nat.le_trans (nd_le fl ks f.nd f.sub) g
theorem all_in {l fl : List Str} : (l.map fun z => decide (z ∈ fl)).all id = l.all fun z => decide (z ∈ fl) := by
  rw [List.all_map]
  rfl
theorem find_at {z : Str} {fl : List Str} : ∀ {ks : List Str} {j : Nat}, (∀ k ∈ ks.take j, k ∈ fl) → ks[j]? = some z → z ∉ fl → (ks.find? fun k => !decide (k ∈ fl)) = some z
  | [], _, _, h, _ => by cases h
  | x :: r, 0, _, h, n => by
    cases h
    rw [List.find?_cons, decide_eq_false n]
    rfl
  | x :: r, j + 1, p, h, n => by
    rw [List.find?_cons, decide_eq_true (p x (by rw [List.take_succ_cons]; exact List.mem_cons_self ..))]
    exact find_at (j := j) (fun k hk => p k (by rw [List.take_succ_cons]; exact List.mem_cons_of_mem _ hk)) h n
theorem find_no {fl ks : List Str} (h : ∀ k ∈ ks, k ∈ fl) : (ks.find? fun k => !decide (k ∈ fl)) = none := by
  rw [List.find?_eq_none]
  intro x hx
  rw [decide_eq_true (h x hx)]
  decide
section
variable {P : Program} {w : World} {K : PySem.W.Frag} {mg : Str → Option Value} {base : Heap} {C : Addr}
def spCtX (C : Addr) : Sp := fun vs H Q E => ∃ (a c : Addr) (ks : List Str) (rs : List Rw), vs = [.ref a, .ref c] ∧ StT H a ks ∧ RowsT H c rs ∧ ks.length ≤ 4 ∧ (∀ r ∈ rs, RwOk ks r) ∧
  (emp ks rs = none → ∀ H', Same H H' → Q .non H') ∧ (∀ z, emp ks rs = some z → ∀ d H', Same H H' → H' d = some (.xd [("kind", .str z)]) → E (.ref C) (some d) H')
theorem ok_ctX {f : Addr} {fd : FuncData} (F : Fun K "_check_trees" "_check_trees" sCt f fd) (T : TS0 mg) (O : One P w K mg base "EmptyKind" "kind" C) (ty : PySem.W.typeIn K (.ref C) = some (.type "type")) : FnOk P w K mg base (CX P w) 3 f fd ["kinds", "constructors"] (spCtX C) := by
  refine F.okX scCt (fun vs H Q E h => ?_) (fun cv A ou s H vs Q E hr h => ?_)
  · obtain ⟨c, a, ks, rs, rfl, _⟩ := h
    rfl
  obtain ⟨a, c, ks, rs, rfl, hs, ⟨xs, hc, hp⟩, k4, g, q, qE⟩ := h
  have ln : xs.length = rs.length := Paired.length hp
  refine ⟨_, pss_cons (ps_set (i := 2) scCt.nd rfl (.inr rfl) (pe_lst pa_nil))
    (pss_cons (ps_for PassesOwn.leaving rfl (pi_range1 rfl T.rng (pa_cons (pe_callB call_len_seq (by rfl) T.len PySem.boot_len (pa_cons (pv 0) pa_nil)) pa_nil)) (pg_name (i := 3) scCt.nd rfl (.inl rfl))
      (pss_one (ps_for PassesOwn.leaving rfl (pi_tup (pv 1)) (pg_name (i := 4) scCt.nd rfl (.inl rfl))
        (pss_cons (ps_par (i := 5) (j := 6) (by rfl) scCt.nd rfl rfl (by decide) rfl rfl (pa_cons (pe_ix ix_tup (pv 4) pe_int (fun _ _ => rfl)) (pa_cons (pe_ix ix_tup (pv 4) pe_int (fun _ _ => rfl)) pa_nil)) (by rfl))
        (pss_one (ps_if (PW.pt (pw_and (pt_cmpR op_notIn_seq (pv 5) (pv 2) (by rfl)) (pw_and1 (pt_val (pe_callB (cr_all rfl) (by rfl) T.all boot_all (pa_cons (pe_lc (own := [("field", 7)]) (g := gName 7) (tt := tYes) rfl scCt.nd (pi_tup (pv 6)) (blkOk_by (own := [("field", 7)]) (N := ["kinds", "constructors", "full", "_", "constructor", "kind", "fields", "field"]) (sc := defScope sCt) (by decide +kernel))
            (fun _ _ _ _ _ => pg_name (i := 7) scCt.nd rfl (Or.inl rfl)) (fun _ _ _ _ _ => pts_nil)
            (fun _ _ _ _ _ => asTE (te := tOp (rIn K false) (tVar 7) (tVar 2)) (pe_cmpR op_in_seq (pv 7) (pv 2) (by rfl)) rfl)) pa_nil))))))
          (pss_one (ps_expr (pe_bm PySem.F.plainAttrs_list PySem.F.slot_list_append PySem.F.type_list_append mt_append (pv 2) (pa_cons (pv 5) pa_nil)))) pss_nil))))))
    (pss_one (ps_for PassesOwn.leaving rfl (pi_tup (pv 0)) (pg_name (i := 5) scCt.nd rfl (.inl rfl)) (pss_one (ps_if (pt_cmpR op_notIn_seq (pv 5) (pv 2) (by rfl)) (pss_one (ps_raise rfl (takes_of rfl rfl rfl rfl) (pmk_one O ty hr (by rfl) (pv 5)))) pss_nil))))), ?_⟩
  refine ⟨(by show 0 ≤ sizeLine; exact Nat.zero_le _), fun L nL => ?_⟩
  refine ⟨.ref a, rfl, a, _, rfl, .inr (SqT.of (same_new nL _ _ hs)), _, rfl, ?_, ?_, for_range (fun i σ H' => ∃ (o3 o4 o5 o6 : Option V) (fl : List Str), σ = [some (.ref a), some (.ref c), some (.ref L), o3, o4, o5, o6, none] ∧ Same H H' ∧ H' L = some (.lst (fl.map V.str)) ∧ FullK ks fl ∧ fl = rds rs i)
    ⟨none, none, none, none, [], rfl, same_new nL, upd_same, ⟨.nil, fun x hx => by cases hx⟩, rfl⟩ ?_ ?_⟩
  · omega
  · rw [List.length_map]
    omega
  · rintro i σ H1 hi ⟨o3, o4, o5, o6, fl, rfl, s1, eL, fu, al⟩
    refine ⟨.ref c, rfl, c, rfl, ⟨_, SqT.of (s1 _ _ hc)⟩, for_tup (K := K) (a := c) (xs := xs) (fun j σ H' => ∃ (o4 o5 o6 : Option V) (fl : List Str), σ = [some (.ref a), some (.ref c), some (.ref L), some (.int (0 + (i : Int))), o4, o5, o6, none] ∧ Same H H' ∧ H' L = some (.lst (fl.map V.str)) ∧ FullK ks fl ∧ fl = (rs.take j).foldl stp (rds rs i))
      ⟨o4, o5, o6, fl, rfl, s1, eL, fu, al⟩ (fun j σ H' _ p => ?_) ?_ ?_⟩
    · obtain ⟨_, _, _, _, _, s2, _⟩ := p
      exact SqT.of (s2 _ _ hc)
    · clear eL fu al
      rintro j x σ H2 hx ⟨o4, o5, o6, fl, rfl, s2, eL, fu, al⟩
      obtain ⟨r, hr2, b, fa, rfl, hb, hf⟩ := rows_at hp hx
      have hrm := List.mem_of_getElem? hr2
      have hb2 := s2 _ _ hb
      have hf2 : StT H2 fa r.2.2 := s2 _ _ hf
      have l4 := fu.len k4
      have gf := (g r hrm).l
      refine ⟨.ref b, rfl, b, _, _, .str r.2.1, rfl, rfl, SqT.of hb2, rfl, .ref b, rfl, b, _, _, .ref fa, rfl, rfl, SqT.of hb2, rfl, _, _, rfl, ?_⟩
      have tk : stp fl r = (rs.take (j + 1)).foldl stp (rds rs i) := by
        rw [List.take_add_one, hr2, List.foldl_append, ← al]
        rfl
      refine ⟨.str r.2.1, rfl, .ref L, rfl, L, _, rfl, .inl (SqL.of eL), rfl, all_flat _, _, rfl, ?_⟩
      rw [if_pos rfl, inV_str]
      by_cases hk : r.2.1 ∈ fl
      · rw [decide_eq_true hk]
        refine iteF (iteF ?_)
        exact ⟨_, _, _, fl, rfl, s2, eL, fu, by rw [← tk, stp, if_neg (fun h => h.1 hk)]⟩
      · rw [decide_eq_false hk]
        refine iteT ?_
        refine ⟨.ref fa, rfl, fa, rfl, ⟨_, SqT.of hf2⟩, fun D nD => lc_funT (K := K) (a := fa) (xs := r.2.2.map V.str) (ys := (r.2.2.map fun z => decide (z ∈ fl)).map V.bl) (fun _ => rfl) nD (SqT.of hf2) (by rw [List.length_map]; omega) (by rw [List.length_map, List.length_map, List.length_map]) (fun n x y H3 hx hy s3 q => ?_) fun H3 s3 eD => ?_⟩
        · intro k
          rw [List.getElem?_map] at hx
          cases e : r.2.2[n]? with
          | none => rw [e] at hx; cases hx
          | some z =>
            rw [e] at hx
            cases hx
            rw [List.getElem?_map, List.getElem?_map, e] at hy
            cases hy
            refine ⟨.str z, rfl, .ref L, rfl, L, _, rfl, .inl (SqL.of (s3 _ _ eL)), rfl, all_flat _, ?_⟩
            rw [if_neg (by decide), inV_str]
            exact k H3 fun _ _ e => e
        · refine ⟨D, _, rfl, SqL.of eD, _, rfl, ?_⟩
          have eL3 := s3 _ _ eL
          have s4 := s2.trans s3
          cases hb : (r.2.2.map fun z => decide (z ∈ fl)).all id with
          | false =>
            refine iteF ⟨_, _, _, fl, rfl, s4, eL3, fu, ?_⟩
            rw [← tk, stp, if_neg (fun h => ?_)]
            rw [all_in, h.2] at hb
            cases hb
          | true =>
            refine iteT ⟨.ref L, rfl, .inl ⟨rfl, _, SqL.of eL3⟩, .str r.2.1, rfl, L, _, _, rfl, rfl, eL3, ?_, _, _, _, fl ++ [r.2.1], rfl, same_upd s4 nL, ?_, ⟨?_, ?_⟩, by rw [← tk, stp, if_pos ⟨hk, by rw [← all_in]; exact hb⟩]⟩
            · rw [List.length_map]
              exact small1000 (by omega)
            · rw [upd_same, List.map_append]
              rfl
            · rw [List.nodup_append]
              exact ⟨fu.nd, List.nodup_cons.mpr ⟨by simp, .nil⟩, fun x hx y hy e => hk (by rw [List.mem_singleton.mp hy] at e; rw [← e]; exact hx)⟩
            · intro x hx
              rcases List.mem_append.mp hx with z | z
              · exact fu.sub x z
              · rw [List.mem_singleton.mp z]
                exact (g r hrm).k
    · clear eL fu al
      rintro σ H2 ⟨o4, o5, o6, fl, rfl, s2, eL, fu, al⟩
      refine ⟨_, o4, o5, o6, fl, rfl, s2, eL, fu, ?_⟩
      rw [al, ln, List.take_length]
      rfl
  · rintro σ H1 ⟨o3, o4, o5, o6, fl, rfl, s1, eL, fu, al⟩
    have al2 : fl = fullOf ks rs := by rw [al, List.length_map]; rfl
    refine ⟨.ref a, rfl, a, rfl, ⟨_, SqT.of (s1 _ _ hs)⟩, for_tup (K := K) (a := a) (xs := ks.map V.str) (fun j σ H' => ∃ (o3 o4 o5 o6 : Option V), σ = [some (.ref a), some (.ref c), some (.ref L), o3, o4, o5, o6, none] ∧ H' = H1 ∧ ∀ k ∈ ks.take j, k ∈ fl) ⟨_, _, _, _, rfl, rfl, fun k hk => by rw [List.take_zero] at hk; cases hk⟩ (fun j σ H' _ p => ?_) ?_ ?_⟩
    · obtain ⟨_, _, _, _, _, rfl, _⟩ := p
      exact SqT.of (s1 _ _ hs)
    · rintro j x σ H2 hx ⟨o3, o4, o5, o6, rfl, rfl, pf⟩
      obtain ⟨z, hz, rfl⟩ : ∃ z, ks[j]? = some z ∧ x = V.str z := by
        rw [List.getElem?_map] at hx
        cases e : ks[j]? with
        | none => rw [e] at hx; cases hx
        | some z => rw [e] at hx; exact ⟨z, rfl, (Option.some.inj hx).symm⟩
      refine ⟨.str z, rfl, .ref L, rfl, L, _, rfl, .inl (SqL.of eL), rfl, all_flat _, _, rfl, ?_⟩
      rw [if_pos rfl, inV_str]
      by_cases hf : z ∈ fl
      · rw [decide_eq_true hf]
        refine iteF ⟨_, _, _, _, rfl, rfl, fun k hk => ?_⟩
        rw [List.take_add_one, hz] at hk
        rcases List.mem_append.mp hk with m | m
        · exact pf k m
        · have : k = z := by simpa using m
          rw [this]
          exact hf
      · rw [decide_eq_false hf]
        refine iteT ⟨.str z, rfl, fun d H3 s4 _ e3 => qE z ?_ d H3 (s1.trans s4) e3⟩
        rw [al2] at pf hf
        exact find_at pf hz hf
    · rintro σ H2 ⟨o3, o4, o5, o6, rfl, rfl, pf⟩
      refine q ?_ _ s1
      rw [List.length_map, List.take_length, al2] at pf
      exact find_no pf
end
end Ks
set_option Elab.async false
set_option linter.all false
set_option maxRecDepth 100000
set_option maxHeartbeats 4000000
namespace Ks
open PySem PySem.Spec PyProof.Rows L2 Gd Kx
structure KsOk (ks : List Str) : Prop where
  k1 : 1 ≤ ks.length
  k4 : ks.length ≤ 4
  kn : ∀ k ∈ ks, nmS k = true
  kd : ks.Nodup
theorem KsOk.good {ks : List Str} (h : KsOk ks) : Good ⟨ks, ks.map fun z => (z, z, [])⟩ where
  k1 := h.k1
  k4 := h.k4
  kn := h.kn
  kd := h.kd
  r1 := by rw [List.length_map]; exact h.k1
  r6 := by rw [List.length_map]; exact Nat.le_trans h.k4 (by decide)
  rn := fun r hr => by
    obtain ⟨z, hz, rfl⟩ := List.mem_map.mp hr
    exact h.kn z hz
  rd := by
    rw [List.map_map, show ((fun x : Rw => x.1) ∘ fun z => (z, z, [])) = id from rfl, List.map_id]
    exact h.kd
  rk := fun r hr => by
    obtain ⟨z, hz, rfl⟩ := List.mem_map.mp hr
    exact hz
  f3 := fun r hr => by
    obtain ⟨z, hz, rfl⟩ := List.mem_map.mp hr
    exact Nat.zero_le _
  fk := fun r hr => by
    obtain ⟨z, hz, rfl⟩ := List.mem_map.mp hr
    intro f hf
    cases hf
  tr := fun k hk => ⟨(k, k, []), List.mem_map.mpr ⟨k, hk, rfl⟩, rfl, rfl⟩
section
variable {P : Program} {w : World} {K : PySem.W.Frag} {mg : Str → Option Value} {base : Heap} {C CC CE : Addr}
def spIniX (C CC CE : Addr) : Sp := fun vs H Q E => ∃ (x dx k c : Addr) (ks : List Str) (pre : List Rw) (o : Option Rw), vs = [.ref x, .ref k, .ref c] ∧ H x = some (.ins C dx []) ∧ StT H k ks ∧ RowsT H c (pre ++ o.toList) ∧ KsOk ks ∧ Pre ks pre o ∧
  (o = none → emp ks pre = none → ∀ n H', But x H H' → n ≠ x → InS C H' x dx k c n (pre.map (·.1)) → FzT H' n ((pre.map (·.1)).map V.str) → Q .non H') ∧
  (o.isSome = true → ∀ d H', Same H H' → H' d = some (.xd [("index", .int (pre.length : Nat))]) → E (.ref CC) (some d) H') ∧
  (o = none → ∀ z, emp ks pre = some z → ∀ d H', Same H H' → H' d = some (.xd [("kind", .str z)]) → E (.ref CE) (some d) H')
theorem ok_iniX {f fk fc ft : Addr} {fd fdk fdc fdt : FuncData} (F : Fun K "__init__" "Schema.__init__" (cS 0) f fd) (T : TS0 mg) (Z : SCl K C)
    (GK : FnOk P w K mg base CX0 2 fk fdk ["kinds"] spCk) (kk : PySem.W.keepIn K (.ref fk) = true) (bK : Binds K fdk ["kinds"] []) (gK : mg "_check_kinds" = some (.ref fk))
    (GC : FnOk P w K mg base (CX P w) 3 fc fdc ["constructors", "kinds"] (spCd CC)) (kc : PySem.W.keepIn K (.ref fc) = true) (bC : Binds K fdc ["constructors", "kinds"] []) (gC : mg "_check_constructors" = some (.ref fc))
    (GT : FnOk P w K mg base (CX P w) 3 ft fdt ["kinds", "constructors"] (spCtX CE)) (kt : PySem.W.keepIn K (.ref ft) = true) (bT : Binds K fdt ["kinds", "constructors"] []) (gT : mg "_check_trees" = some (.ref ft)) :
    FnOk P w K mg base (CX P w) 4 f fd ["self", "kinds", "constructors"] (spIniX C CC CE) := by
  refine F.okX scIni (fun vs H Q E h => ?_) (fun cv A ou s H vs Q E hr h => ?_)
  · obtain ⟨x, dx, k, c, ks, pre, o, rfl, _⟩ := h
    rfl
  obtain ⟨x, dx, k, c, ks, pre, o, rfl, hx, hs, hc, gk, g, q, qC, qE⟩ := h
  have hr2 : Room 2 (A.deeper (envOfC "Schema.__init__" (defScope (cS 0)) s.heap.objs.size f cv)) := hr.mono (by decide)
  refine ⟨_, pss_cons (ps_expr (pe_call GK hr2 (by rfl) gK kk bK .nil pass0 (pa_cons (pv 1) pa_nil)))
    (pss_cons (ps_expr (pe_call GC hr (by rfl) gC kc bC .nil (passes_call (takes_of rfl rfl rfl rfl) (fun _ _ _ _ h => h)) (pa_cons (pv 2) (pa_cons (pv 1) pa_nil))))
    (pss_cons (ps_expr (pe_call GT hr (by rfl) gT kt bT .nil (passes_call (takes_of rfl rfl rfl rfl) (fun _ _ _ _ h => h)) (pa_cons (pv 1) (pa_cons (pv 2) pa_nil))))
    (pss_cons (ps_fld (pv 0) (pv 1) rfl)
    (pss_cons (ps_fld (pv 0) (pv 2) rfl)
    (pss_cons (ps_fld (pv 0) (pe_tupF (by rfl) T.tup (pe_lc (own := [("constructor", 3)]) (g := gName 3) (tt := tYes) rfl scIni.nd (pi_tup (pv 2)) (blkOk_by (own := [("constructor", 3)]) (N := nIni) (sc := defScope (cS 0)) (by decide +kernel))
      (fun _ _ _ _ _ => pg_name (i := 3) scIni.nd rfl (Or.inl rfl)) (fun _ _ _ _ _ => pts_nil) (fun _ _ _ _ _ => asTE (te := tOp (rIxT K) (tVar 3) (tC (.int 0))) (pe_ix ix_tup (pv 3) pe_int (fun _ _ => rfl)) rfl))) rfl)
    (pss_one (ps_fld (pv 0) (pe_dc (own := [("place", 4), ("name", 5)]) (g := gTup K 2 (gCons (gName 4) (gCons (gName 5) gNil))) (tt := tYes) (tk := tVar 5) (tv := tVar 4) rfl scIni.nd (pi_enT (by rfl) T.enu (pa_cons (pe_fld (pv 0) rfl) pa_nil)) (blkOk_by (own := [("place", 4), ("name", 5)]) (N := nIni) (sc := defScope (cS 0)) (by decide +kernel))
      (fun _ _ _ _ _ => pg_tup (by rfl) (pgs_cons (pg_name (i := 4) scIni.nd rfl (Or.inl rfl)) (pgs_cons (pg_name (i := 5) scIni.nd rfl (Or.inl rfl)) pgs_nil))) (fun _ _ _ _ _ => pts_nil) (fun _ _ _ _ _ => pv 5) (fun _ _ _ _ _ => pv 4)) rfl))))))), ?_⟩
  refine ⟨.ref k, rfl, k, ⟨ks, ks.map fun z => (z, z, [])⟩, rfl, hs, gk.good, fun H1 s1 => ?_⟩
  refine ⟨.ref c, rfl, .ref k, rfl, c, k, ks, pre, o, rfl, s1 _ _ hs, hc.keep s1, g, fun eo H2 s2 => ?_, fun eo d H2 s2 e2 => qC eo d H2 (s1.trans s2) e2⟩
  have s12 := s1.trans s2
  subst eo
  have g0 : pre ++ (none : Option Rw).toList = pre := List.append_nil _
  rw [g0] at hc
  refine ⟨.ref k, rfl, .ref c, rfl, k, c, ks, pre, rfl, s12 _ _ hs, hc.keep s12, gk.k4, g.ok, fun ee H3 s3 => ?_, fun z ee d H3 s3 e3 => qE rfl z ee d H3 (s12.trans s3) e3⟩
  have s13 := s12.trans s3
  refine ⟨.ref k, rfl, .ref x, rfl, x, C, dx, [], rfl, s13 _ _ hx, Z.cls, Z.nk, by decide, ?_⟩
  refine ⟨.ref c, rfl, .ref x, rfl, x, C, dx, _, rfl, upd_same, Z.cls, Z.nc, (show 1 < 1000 by decide), ?_⟩
  have hs' : H k = some (.tup (ks.map V.str)) := hs
  have kx : k ≠ x := fun e => by rw [e, hx] at hs'; cases hs'
  obtain ⟨xs, hc1, hp⟩ := hc
  have cx : c ≠ x := fun e => by rw [e, hx] at hc1; cases hc1
  have b5 : But x H (upd (upd H3 x (.ins C dx (putF "_kinds" (V.ref k) []))) x (.ins C dx (putF "_constructors" (V.ref c) (putF "_kinds" (V.ref k) [])))) := fun b o n e => by
    rw [upd_ne n, upd_ne n]
    exact s13 _ _ e
  have x5 : (upd (upd H3 x (.ins C dx (putF "_kinds" (V.ref k) []))) x (.ins C dx (putF "_constructors" (V.ref c) (putF "_kinds" (V.ref k) [])))) x = some (.ins C dx (putF "_constructors" (V.ref c) (putF "_kinds" (V.ref k) []))) := upd_same
  revert b5 x5
  generalize upd (upd H3 x (.ins C dx (putF "_kinds" (V.ref k) []))) x (.ins C dx (putF "_constructors" (V.ref c) (putF "_kinds" (V.ref k) []))) = H5
  intro b5 x5
  have hc5 := b5 _ _ cx hc1
  have r6 := g.r6
  rw [g0] at r6
  have ln : xs.length = pre.length := Paired.length hp
  refine ⟨.ref c, rfl, c, rfl, ⟨_, SqT.of hc5⟩, fun D nD => lc_funT (K := K) (a := c) (xs := xs) (ys := (pre.map (·.1)).map V.str) (fun _ => rfl) nD (SqT.of hc5) (by omega) (by rw [List.length_map, List.length_map, ln]) (fun n y z H6 hy hz s6 p => ?_) fun H6 s6 eD => ?_⟩
  · intro kk
    obtain ⟨r, hr2, b, fa, rfl, hb, hf⟩ := rows_at hp hy
    rw [List.getElem?_map, List.getElem?_map, hr2] at hz
    cases hz
    have bx : b ≠ x := fun e => by rw [e, hx] at hb; cases hb
    exact ⟨.ref b, rfl, b, _, _, .str r.1, rfl, rfl, SqT.of (s6 _ _ (b5 _ _ bx hb)), rfl, kk H6 fun _ _ e => e⟩
  · refine ⟨D, _, rfl, SqL.of eD, fun N H7 nN s7 fz => ?_⟩
    have x6 := s6 _ _ x5
    have Nx : N ≠ x := fun e => by rw [← e, nN] at x6; cases x6
    refine ⟨.ref x, rfl, x, C, dx, _, rfl, s7 _ _ x6, Z.cls, Z.nn, (show 2 < 1000 by decide), ?_⟩
    have fz8 : FzT (upd H7 x (.ins C dx (putF "_names" (V.ref N) (putF "_constructors" (V.ref c) (putF "_kinds" (V.ref k) []))))) N ((pre.map (·.1)).map V.str) := by
      obtain ⟨o, e, r⟩ := fz
      exact ⟨o, by rw [upd_ne Nx]; exact e, r⟩
    have b8 : But x H (upd H7 x (.ins C dx (putF "_names" (V.ref N) (putF "_constructors" (V.ref c) (putF "_kinds" (V.ref k) []))))) := fun b o n e => by
      rw [upd_ne n]
      exact s7 _ _ (s6 _ _ (b5 _ _ n e))
    have x8 : (upd H7 x (.ins C dx (putF "_names" (V.ref N) (putF "_constructors" (V.ref c) (putF "_kinds" (V.ref k) []))))) x = some (.ins C dx (putF "_names" (V.ref N) (putF "_constructors" (V.ref c) (putF "_kinds" (V.ref k) [])))) := upd_same
    revert fz8 b8 x8
    generalize upd H7 x (.ins C dx (putF "_names" (V.ref N) (putF "_constructors" (V.ref c) (putF "_kinds" (V.ref k) [])))) = H8
    intro fz8 b8 x8
    have prd : (pre.map (·.1)).Nodup := by have := g.rd; rwa [show pre ++ (none : Option Rw).toList = pre from List.append_nil _] at this
    refine ⟨.ref x, rfl, x, C, dx, _, _, rfl, x8, Z.cls, Z.nn, rfl, N, _, rfl, fz8.sq, fun Dd nDd => dc_places fz8 nDd prd (by rw [List.length_map]; omega) (fun _ _ => rfl) (fun _ _ => rfl) (fun _ _ => rfl) fun H9 s9 eDd => ?_⟩
    have x9 := s9 _ _ x8
    have Dx : Dd ≠ x := fun e => by rw [← e, nDd] at x8; cases x8
    refine ⟨.ref x, rfl, x, C, dx, _, rfl, x9, Z.cls, Z.np, (show 3 < 1000 by decide), ?_⟩
    refine q rfl ee N _ (fun b o n e => ?_) Nx ⟨Dd, upd_same, ?_⟩ ?_
    · rw [upd_ne n]
      exact s9 _ _ (b8 _ _ n e)
    · rw [upd_ne Dx]
      exact eDd
    · obtain ⟨o, e, r⟩ := fz8
      exact ⟨o, by rw [upd_ne Nx]; exact s9 _ _ e, r⟩
end
end Ks
set_option Elab.async false
set_option linter.all false
set_option maxRecDepth 100000
set_option maxHeartbeats 4000000
namespace Ks
open PySem PySem.Spec PyProof.Rows L2 Gd Kx
abbrev sSrt : Stmt := Kx.topS 34
theorem scSrt : FnScope ["_law_e"] ["_law_e"] (defScope sSrt) := ⟨rfl, rfl, rfl, by decide +kernel, rfl, by decide +kernel, by decide +kernel⟩
section
variable {P : Program} {w : World} {K : PySem.W.Frag} {mg : Str → Option Value} {base : Heap} {C CC CE : Addr}
def tE : List V := [.str "EmptyKind"]
/-- the word of an error -/
def spSrt (CC CE : Addr) : SpE := fun cls d H Q =>
  (∃ (x : Addr) (z : Str), cls = .ref CE ∧ d = some x ∧ H x = some (.xd [("kind", .str z)]) ∧ nmS z = true ∧ ∀ p H', Same H H' → H' p = some (.lst [.str "EmptyKind", .str (PyData.str z).shown]) → Q (.ref p) H') ∨
  (∃ (x : Addr) (i : Nat), cls = .ref CC ∧ d = some x ∧ H x = some (.xd [("index", .int (i : Nat))]) ∧ i < 7 ∧ ∀ p H', Same H H' → H' p = some (.lst [.str "InvalidConstructors", .str (PyData.int (i : Nat)).shown]) → Q (.ref p) H')
theorem sb_int7 : ∀ i : _root_.Fin 7, (PyData.int (i.1 : Nat)).showable = true ∧ (PyData.int (i.1 : Nat)).shown.length ≤ 1 := by decide +kernel
theorem ok_srt {f : Addr} {fd : FuncData} (F : Fun K "_law_sort" "_law_sort" sSrt f fd) (mi : mg "isinstance" = none) (mr : mg "repr" = none) (gE : mg "EmptyKind" = some (.ref CE)) (gC : mg "InvalidConstructors" = some (.ref CC)) (XE : XC K CE) (XCc : XC K CC)
    (nE : PySem.W.findIn K (.ref CE) "kind" = some none) (nC : PySem.W.findIn K (.ref CC) "index" = some none)
    (kE : PySem.W.kitOne K (.ref CE) (.ref CE) = some true) (kCE : PySem.W.kitOne K (.ref CC) (.ref CE) = some false) (kC : PySem.W.kitOne K (.ref CC) (.ref CC) = some true) : FnE P w K mg base 1 f fd "_law_e" (spSrt CC CE) := by
  refine okE F scSrt fun cv A ou s H p cls d Q hG hR hz hf h => ?_
  have hu : (A.deeper (envOfC "_law_sort" (defScope sSrt) s.heap.objs.size f cv)).units + 64 < cLine := by
    have := hR.un
    omega
  have hG2 : (A.deeper (envOfC "_law_sort" (defScope sSrt) s.heap.objs.size f cv)).guards = some [] := hG
  refine ⟨_, pss_cons (ps_if (pt_val (pe_callB call_isP (by rfl) mi boot_isinstance (pa_cons (pv 0) (pa_cons (pe_glob (v := .ref CE) (by rfl) gE rfl) pa_nil))))
      (pss_one (ps_ret (pe_lst (pa_cons pe_str (pa_cons (pe_callB (call_showV hG2 hu) (by rfl) mr boot_repr (pa_cons (pe_fp (f := "kind") (pv 0)) pa_nil)) pa_nil))))) pss_nil)
    (pss_cons (ps_if (pt_val (pe_callB call_isP (by rfl) mi boot_isinstance (pa_cons (pv 0) (pa_cons (pe_glob (v := .ref CC) (by rfl) gC rfl) pa_nil))))
      (pss_one (ps_ret (pe_lst (pa_cons pe_str (pa_cons (pe_callB (call_showV hG2 hu) (by rfl) mr boot_repr (pa_cons (pe_fp (f := "index") (pv 0)) pa_nil)) pa_nil))))) pss_nil)
    (pss_one (ps_ret (pe_lst (pa_cons pe_str pa_nil))))), ?_⟩
  rcases h with ⟨x, z, rfl, rfl, ex, nz, q⟩ | ⟨x, i, rfl, rfl, ex, hi, q⟩
  · have pn : Pnd (L2H.cxH CX0 P w K mg base ["_law_e"] "_law_sort" (defScope sSrt) f cv A ou s H E0 p) p.1 CE x := ⟨p.2, List.mem_singleton.mpr rfl, hz, hf⟩
    have sb := sb_nm nz
    refine ⟨.ref p.1, rfl, p.1, CE, x, _, .ref CE, .ref CE, true, rfl, pn, ex, .own _, XE, kE, _, rfl, iteT ?_⟩
    refine ⟨.ref p.1, rfl, p.1, CE, x, _, .str z, rfl, pn, XE, nE, ex, rfl, .str z, .str z, rfl, .str z, sb.sh, sb.nd, Nat.le_trans sb.dp (by decide), Nat.le_trans sb.ln (by decide), ?_⟩
    exact ⟨(by show 2 ≤ sizeLine; decide), fun L nL => q L _ (same_new nL) upd_same⟩
  · have pn : Pnd (L2H.cxH CX0 P w K mg base ["_law_e"] "_law_sort" (defScope sSrt) f cv A ou s H E0 p) p.1 CC x := ⟨p.2, List.mem_singleton.mpr rfl, hz, hf⟩
    have sb := sb_int7 ⟨i, hi⟩
    refine ⟨.ref p.1, rfl, p.1, CC, x, _, .ref CE, .ref CE, false, rfl, pn, ex, .own _, XCc, kCE, _, rfl, iteF ?_⟩
    refine ⟨.ref p.1, rfl, p.1, CC, x, _, .ref CC, .ref CC, true, rfl, pn, ex, .own _, XCc, kC, _, rfl, iteT ?_⟩
    refine ⟨.ref p.1, rfl, p.1, CC, x, _, .int (i : Nat), rfl, pn, XCc, nC, ex, rfl, .int (i : Nat), .int (i : Nat), rfl, .int _, sb.1, rfl, (by rw [PyData.depth]; decide), Nat.le_trans sb.2 (by decide), ?_⟩
    exact ⟨(by show 2 ≤ sizeLine; decide), fun L nL => q L _ (same_new nL) upd_same⟩
end
end Ks
set_option Elab.async false
set_option linter.all false
set_option maxRecDepth 100000
set_option maxHeartbeats 4000000
namespace Ks
open PySem PySem.Spec PyProof.Rows L2 Gd Kx
abbrev sEmp : Stmt := Kx.topS 35
abbrev nEmp : List Str := ["_law_kinds", "_law_rows", "_law_full", "_law_turn", "_law_row", "_law_left", "_law_field", "_law_kind"]
theorem scEmp : FnScope nEmp ["_law_kinds", "_law_rows"] (defScope sEmp) := ⟨rfl, rfl, rfl, by decide +kernel, rfl, by decide +kernel, by decide +kernel⟩
theorem asTT {X : Cx} {es : List Expr} {t t' : TT} (h : PTs X es t') (q : t' = t) : PTs X es t := q ▸ h
theorem at_zero (z : V) (r : List V) : atI (z :: r) 0 = some z := by
  unfold atI ixN
  simp
def dLs (ss : List Str) : PyData := .list (ss.map .str)
theorem eqv_ls (a b : List Str) : PyData.eqv (dLs a) (dLs b) = decide (a = b) := eqvAll_map eqv_str a b
theorem sh_ls {ss : List Str} (h : ∀ s ∈ ss, nmS s = true) : SeqAt.shaped (dLs ss) = true := by
  obtain ⟨h1, h2⟩ := lay_ss h
  have e1 : (dLs ss).canLay0 = (dSs ss).canLay0 := rfl
  have e2 : (dLs ss).depth = (dSs ss).depth := by
    unfold dLs dSs
    rw [PyData.depth, PyData.depth]
  unfold SeqAt.shaped
  rw [e1, h1, e2, decide_eq_true (by omega)]
  rfl
theorem picked_strs {p : Str → Bool} (ws : List Str) : picked (ws.map fun z => (p z, V.str z)) = (ws.filter p).map V.str := by
  unfold picked
  induction ws with
  | nil => rfl
  | cons r t ih =>
    cases h : p r <;> simp [h] <;> simpa using ih
section
variable {P : Program} {w : World} {K : PySem.W.Frag} {mg : Str → Option Value} {base : Heap}
def empS (ks : List Str) (rs : List Rw) : Str := (emp ks rs).getD (Str.ofString "")
def spEmp : Sp := fun vs H Q _ => ∃ (a c : Addr) (ks : List Str) (rs : List Rw), vs = [.ref a, .ref c] ∧ StT H a ks ∧ RowsT H c rs ∧ KsOk ks ∧ (∀ r ∈ rs, RwOk ks r) ∧ rs.length ≤ 6 ∧ ∀ H', Same H H' → Q (.str (empS ks rs)) H'
theorem ok_emp {f : Addr} {fd : FuncData} (F : Fun K "_law_empty" "_law_empty" sEmp f fd) (T : TS0 mg) : FnOk P w K mg base CX0 1 f fd ["_law_kinds", "_law_rows"] spEmp := by
  refine F.ok scEmp (fun vs H Q E h => ?_) (fun cv A ou s H vs Q E hr h => ?_)
  · obtain ⟨a, c, ks, rs, rfl, _⟩ := h
    rfl
  obtain ⟨a, c, ks, rs, rfl, hs, ⟨xs, hc, hp⟩, gk, g, r6, q⟩ := h
  have k4 := gk.k4
  have ln : xs.length = rs.length := Paired.length hp
  have hu := hr.units
  refine ⟨_, pss_cons (ps_set (i := 2) scEmp.nd rfl (.inr rfl) (pe_lst pa_nil))
    (pss_cons (ps_for PassesOwn.never rfl (pi_range1 rfl T.rng (pa_cons (pe_callB call_len_seq (by rfl) T.len PySem.boot_len (pa_cons (pv 0) pa_nil)) pa_nil)) (pg_name (i := 3) scEmp.nd rfl (.inl rfl))
      (pss_one (ps_for PassesOwn.never rfl (pi_tup (pv 1)) (pg_name (i := 4) scEmp.nd rfl (.inl rfl))
        (pss_one (ps_if (PW.pt (pw_and (pt_cmpR op_notIn_seq (pe_ix ix_tup (pv 4) pe_int (fun _ _ => rfl)) (pv 2) (by rfl)) (pw_and1 (pt_val (pe_callB (cr_all rfl) (by rfl) T.all boot_all (pa_cons (pe_lc (own := [("_law_field", 6)]) (g := gName 6) (tt := tYes) rfl scEmp.nd (pi_tup (pe_ix ix_tup (pv 4) pe_int (fun _ _ => rfl))) (blkOk_by (own := [("_law_field", 6)]) (N := nEmp) (sc := defScope sEmp) (by decide +kernel))
            (fun _ _ _ _ _ => pg_name (i := 6) scEmp.nd rfl (Or.inl rfl)) (fun _ _ _ _ _ => pts_nil)
            (fun _ _ _ _ _ => asTE (te := tOp (rIn K false) (tVar 6) (tVar 2)) (pe_cmpR op_in_seq (pv 6) (pv 2) (by rfl)) rfl)) pa_nil))))))
          (pss_one (ps_expr (pe_bm PySem.F.plainAttrs_list PySem.F.slot_list_append PySem.F.type_list_append mt_append (pv 2) (pa_cons (pe_ix ix_tup (pv 4) pe_int (fun _ _ => rfl)) pa_nil)))) pss_nil)))))
    (pss_cons (ps_setLc (i := 5) (own := [("_law_kind", 7)]) (g := gName 7) (tt := tTest (tOp (rIn K true) (tVar 7) (tVar 2))) (by rfl) scEmp.nd rfl rfl (sw_true rfl rfl rfl (by decide +kernel)) (pi_tup (pv 0))
        (blkOk_by (own := [("_law_kind", 7)]) (N := nEmp) (sc := defScope sEmp) (by decide +kernel)) (fun _ _ _ _ _ => pg_name (i := 7) scEmp.nd rfl (Or.inl rfl))
        (fun _ _ _ _ _ => asTT (pts_one (pt_cmpR op_notIn_seq (pv 7) (pv 2) (by rfl))) rfl) (fun _ _ _ _ _ => pv 7))
    (pss_one (ps_ret (pe_ifExp (pt_cmpR (op_neD hu) (pv 5) (pe_lst pa_nil) (nomark _)) (pe_ix ix_list (pv 5) pe_int (fun _ _ => rfl)) pe_str))))), ?_⟩
  refine ⟨(by show 0 ≤ sizeLine; exact Nat.zero_le _), fun L nL => ?_⟩
  refine ⟨.ref a, rfl, a, _, rfl, .inr (SqT.of (same_new nL _ _ hs)), _, rfl, ?_, ?_, for_range (fun i σ H' => ∃ (o3 o4 : Option V) (fl : List Str), σ = [some (.ref a), some (.ref c), some (.ref L), o3, o4, none, none, none] ∧ Same H H' ∧ H' L = some (.lst (fl.map V.str)) ∧ FullK ks fl ∧ fl = rds rs i)
    ⟨none, none, [], rfl, same_new nL, upd_same, ⟨.nil, fun x hx => by cases hx⟩, rfl⟩ ?_ ?_⟩
  · omega
  · rw [List.length_map]
    omega
  · rintro i σ H1 hi ⟨o3, o4, fl, rfl, s1, eL, fu, al⟩
    refine ⟨.ref c, rfl, c, rfl, ⟨_, SqT.of (s1 _ _ hc)⟩, for_tup (K := K) (a := c) (xs := xs) (fun j σ H' => ∃ (o4 : Option V) (fl : List Str), σ = [some (.ref a), some (.ref c), some (.ref L), some (.int (0 + (i : Int))), o4, none, none, none] ∧ Same H H' ∧ H' L = some (.lst (fl.map V.str)) ∧ FullK ks fl ∧ fl = (rs.take j).foldl stp (rds rs i))
      ⟨o4, fl, rfl, s1, eL, fu, al⟩ (fun j σ H' _ p => ?_) ?_ ?_⟩
    · obtain ⟨_, _, _, s2, _⟩ := p
      exact SqT.of (s2 _ _ hc)
    · clear eL fu al
      rintro j x σ H2 hx ⟨o4, fl, rfl, s2, eL, fu, al⟩
      obtain ⟨r, hr2, b, fa, rfl, hb, hf⟩ := rows_at hp hx
      have hrm := List.mem_of_getElem? hr2
      have hb2 := s2 _ _ hb
      have hf2 : StT H2 fa r.2.2 := s2 _ _ hf
      have l4 := fu.len k4
      have gf := (g r hrm).l
      have tk : stp fl r = (rs.take (j + 1)).foldl stp (rds rs i) := by
        rw [List.take_add_one, hr2, List.foldl_append, ← al]
        rfl
      refine ⟨.ref b, rfl, b, _, _, .str r.2.1, rfl, rfl, SqT.of hb2, rfl, .ref L, rfl, L, _, rfl, .inl (SqL.of eL), rfl, all_flat _, _, rfl, ?_⟩
      rw [if_pos rfl, inV_str]
      by_cases hk : r.2.1 ∈ fl
      · rw [decide_eq_true hk]
        refine iteF (iteF ?_)
        exact ⟨_, fl, rfl, s2, eL, fu, by rw [← tk, stp, if_neg (fun h => h.1 hk)]⟩
      · rw [decide_eq_false hk]
        refine iteT ?_
        refine ⟨.ref b, rfl, b, _, _, .ref fa, rfl, rfl, SqT.of hb2, rfl, fa, rfl, ⟨_, SqT.of hf2⟩, fun D nD => lc_funT (K := K) (a := fa) (xs := r.2.2.map V.str) (ys := (r.2.2.map fun z => decide (z ∈ fl)).map V.bl) (fun _ => rfl) nD (SqT.of hf2) (by rw [List.length_map]; omega) (by rw [List.length_map, List.length_map, List.length_map]) (fun n x y H3 hx hy s3 q => ?_) fun H3 s3 eD => ?_⟩
        · intro k
          rw [List.getElem?_map] at hx
          cases e : r.2.2[n]? with
          | none => rw [e] at hx; cases hx
          | some z =>
            rw [e] at hx
            cases hx
            rw [List.getElem?_map, List.getElem?_map, e] at hy
            cases hy
            refine ⟨.str z, rfl, .ref L, rfl, L, _, rfl, .inl (SqL.of (s3 _ _ eL)), rfl, all_flat _, ?_⟩
            rw [if_neg (by decide), inV_str]
            exact k H3 fun _ _ e => e
        · refine ⟨D, _, rfl, SqL.of eD, _, rfl, ?_⟩
          have eL3 := s3 _ _ eL
          have s4 := s2.trans s3
          cases hb : (r.2.2.map fun z => decide (z ∈ fl)).all id with
          | false =>
            refine iteF ⟨_, fl, rfl, s4, eL3, fu, ?_⟩
            rw [← tk, stp, if_neg (fun h => ?_)]
            rw [all_in, h.2] at hb
            cases hb
          | true =>
            refine iteT ⟨.ref L, rfl, .inl ⟨rfl, _, SqL.of eL3⟩, .ref b, rfl, b, _, _, .str r.2.1, rfl, rfl, SqT.of (s3 _ _ hb2), rfl, L, _, _, rfl, rfl, eL3, ?_, _, fl ++ [r.2.1], rfl, same_upd s4 nL, ?_, ⟨?_, ?_⟩, by rw [← tk, stp, if_pos ⟨hk, by rw [← all_in]; exact hb⟩]⟩
            · rw [List.length_map]
              exact small1000 (by omega)
            · rw [upd_same, List.map_append]
              rfl
            · rw [List.nodup_append]
              exact ⟨fu.nd, List.nodup_cons.mpr ⟨by simp, .nil⟩, fun x hx y hy e => hk (by rw [List.mem_singleton.mp hy] at e; rw [← e]; exact hx)⟩
            · intro x hx
              rcases List.mem_append.mp hx with z | z
              · exact fu.sub x z
              · rw [List.mem_singleton.mp z]
                exact (g r hrm).k
    · clear eL fu al
      rintro σ H2 ⟨o4, fl, rfl, s2, eL, fu, al⟩
      refine ⟨_, o4, fl, rfl, s2, eL, fu, ?_⟩
      rw [al, ln, List.take_length]
      rfl
  · rintro σ H1 ⟨o3, o4, fl, rfl, s1, eL, fu, al⟩
    have al2 : fl = fullOf ks rs := by rw [al, List.length_map]; rfl
    have l4 := fu.len k4
    refine ⟨.ref a, rfl, a, rfl, ⟨_, SqT.of (s1 _ _ hs)⟩, fun D nD => ?_⟩
    refine lc_selT (K := K) (a := a) (xs := ks.map V.str) (zs := ks.map fun z => (!decide (z ∈ fl), V.str z)) (fun _ => rfl) nD (SqT.of (s1 _ _ hs)) (by rw [List.length_map]; omega) (by rw [List.length_map, List.length_map]) (fun i x y H3 hx hy s3 p => ?_) (fun i x y H3 hx hy hb s3 p => ?_) fun H3 s3 eD => ?_
    · intro kk
      rw [List.getElem?_map] at hx hy
      cases ez : ks[i]? with
      | none => rw [ez] at hx; cases hx
      | some z =>
        rw [ez] at hx hy
        cases hx
        cases hy
        refine ⟨.str z, rfl, .ref L, rfl, L, _, rfl, .inl (SqL.of (s3 _ _ eL)), rfl, all_flat _, _, rfl, ?_⟩
        rw [if_pos rfl, inV_str]
        exact kk H3 fun _ _ e => e
    · intro kk
      rw [List.getElem?_map] at hx hy
      cases ez : ks[i]? with
      | none => rw [ez] at hx; cases hx
      | some z =>
        rw [ez] at hx hy
        cases hx
        cases hy
        exact ⟨.str z, rfl, kk H3 fun _ _ e => e⟩
    · rw [picked_strs] at eD
      refine ⟨.ref D, rfl, (by show 0 ≤ sizeLine; exact Nat.zero_le _), fun M nM => ?_⟩
      have sM := same_new (H := H3) (o := .lst []) nM
      have eD2 := sM _ _ eD
      refine ⟨dLs (ks.filter fun z => !decide (z ∈ fl)), dLs [], .lst (SqL.of eD2) (dp_strs _), .lst (SqL.of upd_same) .nil, sh_ls fun z hz => gk.kn z (List.mem_filter.mp hz).1, by decide +kernel, _, rfl, ?_⟩
      rw [eqv_ls]
      have ee : emp ks rs = (ks.filter fun z => !decide (z ∈ fl)).head? := by
        rw [al2, List.head?_filter]
        rfl
      cases ef : ks.filter fun z => !decide (z ∈ fl) with
      | nil =>
        rw [ef] at ee
        have e2 : empS ks rs = Str.ofString "" := by rw [empS, ee]; rfl
        rw [e2] at q
        exact iteF (q _ (s1.trans (s3.trans sM)))
      | cons z r =>
        rw [ef] at ee eD2
        have e2 : empS ks rs = z := by rw [empS, ee]; rfl
        rw [e2] at q
        exact iteT ⟨.ref D, rfl, D, _, _, .str z, rfl, rfl, SqL.of eD2, at_zero _ _, q _ (s1.trans (s3.trans sM))⟩
end
end Ks
set_option Elab.async false
set_option linter.all false
set_option maxRecDepth 100000
set_option maxHeartbeats 4000000
namespace Ks
open PySem PySem.Spec PyProof.Rows L2 Gd Kx
abbrev sFr : Stmt := Kx.topS 32
abbrev nFr : List Str := ["_law_taken", "_law_word_here", "_law_k"]
theorem scFr : FnScope nFr ["_law_taken"] (defScope sFr) := ⟨rfl, rfl, rfl, by decide +kernel, rfl, by decide +kernel, by decide +kernel⟩
def qk (k : Nat) : Str := Str.ofString "q" ++ ((toString (k : Int) : String) : Str)
def qs : List Str := (List.range 10).map qk
theorem qs_nd : qs.Nodup := by decide +kernel
theorem qk_len : ∀ k : _root_.Fin 10, ((toString ((k.1 : Nat) : Int) : String) : Str).length ≤ 3 := by decide +kernel
theorem fresh_some {ks : List Str} (h : ks.length ≤ 9) : ∃ z r, (qs.filter fun z => !decide (z ∈ ks)) = z :: r ∧ z ∉ ks := by
  cases e : qs.filter fun z => !decide (z ∈ ks) with
  | cons z r =>
    refine ⟨z, r, rfl, ?_⟩
    have := (List.mem_filter.mp (show z ∈ qs.filter fun z => !decide (z ∈ ks) by rw [e]; exact List.mem_cons_self ..)).2
    simpa using this
  | nil =>
    exfalso
    have all : ∀ x ∈ qs, x ∈ ks := fun x hx => by
      have := List.filter_eq_nil_iff.mp e x hx
      simpa using this
    have := nd_le qs ks qs_nd all
    have l : qs.length = 10 := by decide +kernel
    omega
section
variable {P : Program} {w : World} {K : PySem.W.Frag} {mg : Str → Option Value} {base : Heap}
def spFr : Sp := fun vs H Q _ => ∃ (a : Addr) (ks : List Str), vs = [.ref a] ∧ StT H a ks ∧ ks.length ≤ 9 ∧ ∀ z H', z ∉ ks → Same H H' → Q (.str z) H'
theorem ok_fr {f : Addr} {fd : FuncData} (F : Fun K "_law_fresh" "_law_fresh" sFr f fd) (ms : mg "str" = none) (mr : mg "range" = none) : FnOk P w K mg base CX0 1 f fd ["_law_taken"] spFr := by
  refine F.ok scFr (fun vs H Q E h => ?_) (fun cv A ou s H vs Q E hr h => ?_)
  · obtain ⟨a, ks, rfl, _⟩ := h
    rfl
  obtain ⟨a, ks, rfl, hs, k9, q⟩ := h
  refine ⟨_, pss_one (ps_ret (pe_ix ix_list (pe_lc (own := [("_law_word_here", 1)]) (g := gName 1) (tt := tTest (tOp (rIn K true) (tVar 1) (tVar 0))) rfl scFr.nd
      (pi_list (pe_lc (own := [("_law_k", 2)]) (g := gName 2) (tt := tYes) rfl scFr.nd (pi_range1 (by rfl) mr (pa_cons pe_int pa_nil)) (blkOk_by (own := [("_law_k", 2)]) (N := nFr) (sc := defScope sFr) (by decide +kernel))
        (fun _ _ _ _ _ => pg_name (i := 2) scFr.nd rfl (Or.inl rfl)) (fun _ _ _ _ _ => pts_nil)
        (fun _ _ _ _ _ => pe_op op_add_str pe_str (pe_callTy call_str_int (by rfl) ms boot_str (pa_cons (pv 2) pa_nil)))))
      (blkOk_by (own := [("_law_word_here", 1)]) (N := nFr) (sc := defScope sFr) (by decide +kernel))
      (fun _ _ _ _ _ => pg_name (i := 1) scFr.nd rfl (Or.inl rfl)) (fun _ _ _ _ _ => asTT (pts_one (pt_cmpR op_notIn_seq (pv 1) (pv 0) (by rfl))) rfl) (fun _ _ _ _ _ => pv 1)) pe_int (fun _ _ => rfl))), ?_⟩
  refine ⟨10, rfl, (by decide), (by decide), fun D nD => ?_⟩
  refine lc_rangeY (fun i H4 => Same H H4 ∧ H4 D = some (.lst (((List.range i).map qk).map V.str)) ∧ i ≤ 10) (fun _ => rfl) ⟨same_new nD, upd_same, by omega⟩ ?_ ?_
  · rintro i H4 hi ⟨s4, e4, _⟩
    have hi10 : i < 10 := by
      have : ((10 : Int)).toNat = 10 := rfl
      omega
    have n3 : (Str.ofString (toString (i : Int))).length ≤ 3 := qk_len ⟨i, hi10⟩
    refine ⟨_, rfl, _, rfl, ?_, _, _, rfl, rfl, ?_, _, e4, ?_, ?_, ?_, by omega⟩
    · have : ((0 : Int) + i).natAbs = i := by omega
      rw [this]
      exact Nat.lt_of_le_of_lt (Nat.log2_le_self i) (by omega)
    · rw [Int.zero_add]
      exact Nat.le_of_lt (small1000 (by show 1 + _ ≤ 1000; omega))
    · rw [List.length_map, List.length_map, List.length_range]
      exact small1000 (by omega)
    · intro b o e
      rw [upd_ne (ne_of_none e nD)]
      exact s4 _ _ e
    · rw [upd_same, List.range_succ, List.map_append, List.map_append, Int.zero_add]
      rfl
  · rintro H4 ⟨s4, e4, _⟩
    have e4' : H4 D = some (.lst (qs.map V.str)) := e4
    have hs4 : StT H4 a ks := s4 _ _ hs
    refine ⟨D, rfl, ⟨_, SqL.of e4'⟩, fun D2 nD2 => ?_⟩
    refine lc_selL (K := K) (a := D) (xs := qs.map V.str) (zs := qs.map fun z => (!decide (z ∈ ks), V.str z)) (fun _ => rfl) nD2 (SqL.of e4') (by decide) (by rw [List.length_map, List.length_map]) (fun i x y H5 hx hy s5 p => ?_) (fun i x y H5 hx hy hb s5 p => ?_) fun H5 s5 eD => ?_
    · intro kk
      rw [List.getElem?_map] at hx hy
      cases ez : qs[i]? with
      | none => rw [ez] at hx; cases hx
      | some z =>
        rw [ez] at hx hy
        cases hx
        cases hy
        refine ⟨.str z, rfl, .ref a, rfl, a, _, rfl, .inr (SqT.of (s5 _ _ hs4)), rfl, all_flat _, _, rfl, ?_⟩
        rw [if_pos rfl, inV_str]
        exact kk H5 fun _ _ e => e
    · intro kk
      rw [List.getElem?_map] at hx hy
      cases ez : qs[i]? with
      | none => rw [ez] at hx; cases hx
      | some z =>
        rw [ez] at hx hy
        cases hx
        cases hy
        exact ⟨.str z, rfl, kk H5 fun _ _ e => e⟩
    · rw [picked_strs] at eD
      obtain ⟨z, r, ef, nz⟩ := fresh_some k9
      rw [ef] at eD
      exact ⟨D2, _, _, .str z, rfl, rfl, SqL.of eD, at_zero _ _, q z H5 nz (s4.trans s5)⟩
end
end Ks
set_option Elab.async false
set_option linter.all false
set_option maxRecDepth 100000
set_option maxHeartbeats 4000000
namespace Ks
open PySem PySem.Spec PyProof.Rows L2 Gd Kx
abbrev sWds : Stmt := Kx.topS 31
abbrev sMdl : Stmt := Kx.topS 0
theorem scWds : FnScope ["_law_deal_here", "_law_many", "_law_found", "_law_k"] ["_law_deal_here", "_law_many"] (defScope sWds) := ⟨rfl, rfl, rfl, by decide +kernel, rfl, by decide +kernel, by decide +kernel⟩
section
variable {P : Program} {w : World} {K : PySem.W.Frag} {mg : Str → Option Value} {base : Heap}
def spWds : Sp := fun vs H Q _ => ∃ (p : Addr) (n : Nat), vs = [.ref p, .int (n : Nat)] ∧ DealAt H p ∧ n ≤ 40 ∧
  ∀ (q : Addr) (ts : List Str) (H' : Hp), DealAt H' p → Sb p H H' → H q = none → q ≠ p → H' q = some (.lst (ts.map V.str)) → (∀ z ∈ ts, nmS z = true) → ts.Nodup → ts.length = n → Q (.ref q) H'
theorem ok_wds {f fw : Addr} {fd fdw : FuncData} (F : Fun K "_law_words" "_law_words" sWds f fd) (mr : mg "range" = none)
    (GW : FnOk P w K mg base CX0 2 fw fdw ["_law_deal_here", "_law_taken"] spWord) (kw : PySem.W.keepIn K (.ref fw) = true) (bW : Binds K fdw ["_law_deal_here", "_law_taken"] []) (gW : mg "_law_word" = some (.ref fw)) : FnOk P w K mg base CX0 3 f fd ["_law_deal_here", "_law_many"] spWds := by
  refine F.ok scWds (fun vs H Q E h => ?_) (fun cv A ou s H vs Q E hr h => ?_)
  · obtain ⟨p, n, rfl, _⟩ := h
    rfl
  obtain ⟨p, n, rfl, hD, hn, k⟩ := h
  refine ⟨_, pss_cons (ps_set (i := 2) scWds.nd rfl (.inl rfl) (pe_lst pa_nil))
    (pss_cons (ps_for PassesOwn.never rfl (pi_range1 rfl mr (pa_cons (pv 1) pa_nil)) (pg_name (i := 3) scWds.nd rfl (.inl rfl))
      (pss_one (ps_expr (pe_bm PySem.F.plainAttrs_list PySem.F.slot_list_append PySem.F.type_list_append mt_append (pv 2) (pa_cons (pe_call GW hr (by rfl) gW kw bW .nil pass0 (pa_cons (pv 0) (pa_cons (pv 2) pa_nil))) pa_nil)))))
    (pss_one (ps_ret (pv 2)))), ?_⟩
  refine ⟨(by show 0 ≤ sizeLine; exact Nat.zero_le _), fun L nL => ?_⟩
  have Lp : L ≠ p := by
    obtain ⟨_, _, _, e, _⟩ := hD
    exact fun e2 => by rw [e2, e] at nL; cases nL
  refine ⟨_, rfl, _, rfl, ?_, ?_, for_range (n := n) (fun i σ H' => ∃ (o3 : Option V) (ts : List Str), σ = [some (.ref p), some (.int (n : Nat)), some (.ref L), o3] ∧ DealAt H' p ∧ Sb p H H' ∧ H' L = some (.lst (ts.map V.str)) ∧ (∀ z ∈ ts, nmS z = true) ∧ ts.Nodup ∧ ts.length = i)
    ⟨none, [], rfl, hD.keep (same_new nL), Sb.new nL, upd_same, fun z hz => (by cases hz), .nil, rfl⟩ ?_ ?_⟩
  · omega
  · omega
  · rintro i σ H1 hi ⟨o3, ts, rfl, D1, b1, eL, hz, nd, hl⟩
    refine ⟨.ref L, rfl, .inl ⟨rfl, _, SqL.of eL⟩, .ref p, rfl, .ref L, rfl, p, L, ts, rfl, D1, eL, Lp, by omega, fun z H2 nz ni D2 b2 => ?_⟩
    have eL2 := b2 L _ Lp eL
    refine ⟨L, _, _, rfl, rfl, eL2, ?_, some (.int (0 + (i : Int))), ts ++ [z], rfl, ?_, ?_, ?_, ?_, ?_, ?_⟩
    · rw [List.length_map]
      exact small1000 (by omega)
    · obtain ⟨x, y, c, e, l⟩ := D2
      exact ⟨x, y, c, by rw [upd_ne (fun e2 => Lp e2.symm)]; exact e, l⟩
    · intro b o nb e
      rw [upd_ne (ne_of_none e nL)]
      exact b2 b o nb (b1 b o nb e)
    · rw [upd_same, List.map_append]
      rfl
    · intro x hx
      rcases List.mem_append.mp hx with m | m
      · exact hz x m
      · rw [List.mem_singleton.mp m]
        exact nz
    · rw [List.nodup_append]
      exact ⟨nd, List.nodup_cons.mpr ⟨by simp, .nil⟩, fun x hx y hy e => ni (by rw [List.mem_singleton.mp hy] at e; rw [← e]; exact hx)⟩
    · rw [List.length_append, hl]
      rfl
  · rintro σ H1 ⟨o3, ts, rfl, D1, b1, eL, hz, nd, hl⟩
    exact ⟨.ref L, rfl, k L ts H1 D1 b1 nL Lp eL hz nd hl⟩
end
end Ks
set_option Elab.async false
set_option linter.all false
set_option maxRecDepth 100000
set_option maxHeartbeats 4000000
namespace Ks
open PySem PySem.Spec PyProof.Rows L2 Gd Kx
abbrev sDr : Stmt := Kx.topS 36
abbrev nDr : List Str := ["_law_deal_here", "_law_words_here", "_law_many", "_law_count", "_law_kinds", "_law_rows", "_law_k", "_law_fields", "_law_turn"]
theorem scDr : FnScope nDr ["_law_deal_here"] (defScope sDr) := ⟨rfl, rfl, rfl, by decide +kernel, rfl, by decide +kernel, by decide +kernel⟩
/-- what a changed deal leaves -/
theorem deal_ne {H : Hp} {p b : Addr} {xs : List V} (D : DealAt H p) (e : H b = some (.tup xs)) : b ≠ p := by
  obtain ⟨_, _, _, ep, _⟩ := D
  exact fun z => by rw [z, ep] at e; cases e
theorem RowV.sb {H H' : Hp} {p : Addr} {x : V} {r : Rw} (h : RowV H x r) (D : DealAt H p) (s : Sb p H H') : RowV H' x r := by
  obtain ⟨b, f, e, h1, h2⟩ := h
  have h2' : H f = some (.tup (r.2.2.map V.str)) := h2
  exact ⟨b, f, e, s _ _ (deal_ne D h1) h1, s _ _ (deal_ne D h2') h2'⟩
theorem RowV.but {H H' : Hp} {R : Addr} {x : V} {r : Rw} {ys : List V} (h : RowV H x r) (e : H R = some (.lst ys)) (s : Sb R H H') : RowV H' x r := by
  obtain ⟨b, f, ex, h1, h2⟩ := h
  have h2' : H f = some (.tup (r.2.2.map V.str)) := h2
  exact ⟨b, f, ex, s _ _ (fun z => by rw [z, e] at h1; cases h1) h1, s _ _ (fun z => by rw [z, e] at h2'; cases h2') h2'⟩
theorem paired_snoc {H : Hp} : ∀ {xs : List V} {rs : List Rw} {x : V} {r : Rw}, Paired (RowV H) xs rs → RowV H x r → Paired (RowV H) (xs ++ [x]) (rs ++ [r])
  | _, _, _, _, .nil, h => .cons h .nil
  | _, _, _, _, .cons a t, h => .cons a (paired_snoc t h)
/-- the rows so far, named from the fifth word on -/
structure RIv (ks ts : List Str) (rs : List Rw) : Prop where
  ok : ∀ r ∈ rs, RwOk ks r
  nm : rs.map (·.1) = (ts.drop 4).take rs.length
theorem RIv.snoc {ks ts : List Str} {rs : List Rw} {r : Rw} (h : RIv ks ts rs) (g : RwOk ks r) (e : (ts.drop 4)[rs.length]? = some r.1) : RIv ks ts (rs ++ [r]) := by
  refine ⟨fun x hx => ?_, ?_⟩
  · rcases List.mem_append.mp hx with m | m
    · exact h.ok x m
    · rw [List.mem_singleton.mp m]
      exact g
  · rw [List.map_append, h.nm, List.length_append, List.length_singleton, List.take_add_one, e]
    rfl
section
variable {P : Program} {w : World} {K : PySem.W.Frag} {mg : Str → Option Value} {base : Heap}
def spDr : Sp := fun vs H Q _ => ∃ p : Addr, vs = [.ref p] ∧ DealAt H p ∧ ∀ (b k c : Addr) (ks : List Str) (rs : List Rw) (H' : Hp), DealAt H' p → Sb p H H' → H' b = some (.tup [.ref k, .ref c]) → StT H' k ks → RowsT H' c rs → KsOk ks → Pre ks rs none → Q (.ref b) H'
theorem ok_dr {f fp fw : Addr} {fd fdp fdw : FuncData} (F : Fun K "_law_drawn" "_law_drawn" sDr f fd) (mr : mg "range" = none) (mt : mg "tuple" = none)
    (GP : FnOk P w K mg base CX0 1 fp fdp ["_law_deal_here", "_law_many"] spPick) (kp : PySem.W.keepIn K (.ref fp) = true) (bP : Binds K fdp ["_law_deal_here", "_law_many"] []) (gP : mg "_law_pick" = some (.ref fp))
    (GW : FnOk P w K mg base CX0 3 fw fdw ["_law_deal_here", "_law_many"] spWds) (kw : PySem.W.keepIn K (.ref fw) = true) (bW : Binds K fdw ["_law_deal_here", "_law_many"] []) (gW : mg "_law_words" = some (.ref fw)) :
    FnOk P w K mg base CX0 4 f fd ["_law_deal_here"] spDr := by
  refine F.ok scDr (fun vs H Q E h => ?_) (fun cv A ou s H vs Q E hr h => ?_)
  · obtain ⟨p, rfl, _⟩ := h
    rfl
  obtain ⟨p, rfl, hD, k⟩ := h
  have hr1 : Room 1 (A.deeper (envOfC "_law_drawn" (defScope sDr) s.heap.objs.size f cv)) := hr.mono (by decide)
  refine ⟨_, pss_cons (ps_set (i := 1) scDr.nd rfl (.inl rfl) (pe_call GW hr (by rfl) gW kw bW .nil pass0 (pa_cons (pv 0) (pa_cons pe_int pa_nil))))
    (pss_cons (ps_asg (pe_tup (pa_cons (pe_op op_add pe_int (pe_call GP hr1 (by rfl) gP kp bP .nil pass0 (pa_cons (pv 0) (pa_cons pe_int pa_nil))))
        (pa_cons (pe_op op_add pe_int (pe_call GP hr1 (by rfl) gP kp bP .nil pass0 (pa_cons (pv 0) (pa_cons pe_int pa_nil)))) pa_nil))) (pg_tup (by rfl) (pgs_cons (pg_name (i := 2) scDr.nd rfl (.inr rfl)) (pgs_cons (pg_name (i := 3) scDr.nd rfl (.inl rfl)) pgs_nil))))
    (pss_cons (ps_asg (pe_tup (pa_cons (pe_tupleOf (by rfl) mt (pe_slice sl_list (pv 1) po_none (po_some (pv 2)))) (pa_cons (pe_lst pa_nil) pa_nil))) (pg_tup (by rfl) (pgs_cons (pg_name (i := 4) scDr.nd rfl (.inr rfl)) (pgs_cons (pg_name (i := 5) scDr.nd rfl (.inl rfl)) pgs_nil))))
    (pss_cons (ps_for PassesOwn.never rfl (pi_range1 rfl mr (pa_cons (pv 3) pa_nil)) (pg_name (i := 6) scDr.nd rfl (.inl rfl))
      (pss_cons (ps_set (i := 7) scDr.nd rfl (.inl rfl) (pe_tupleOf (by rfl) mt (pe_lc (own := [("_law_turn", 8)]) (g := gName 8) (tt := tYes) rfl scDr.nd
          (pi_range1 rfl mr (pa_cons (pe_ix ix_list (pe_lst (pa_cons pe_int (pa_cons pe_int (pa_cons pe_int (pa_cons pe_int (pa_cons pe_int pa_nil)))))) (pe_call GP hr1 (by rfl) gP kp bP .nil pass0 (pa_cons (pv 0) (pa_cons pe_int pa_nil))) (fun _ _ => rfl)) pa_nil))
          (blkOk_by (own := [("_law_turn", 8)]) (N := nDr) (sc := defScope sDr) (by decide +kernel))
          (fun _ _ _ _ _ => pg_name (i := 8) scDr.nd rfl (Or.inl rfl)) (fun _ _ _ _ _ => pts_nil) (fun _ _ _ _ _ => asTE (te := tOp (rIxT K) (tVar 4) (tCall spPick [] E0 (tCons (tVar 0) (tCons (tVar 2) tNil)))) (pe_ix ix_tup (pv 4) (pe_call GP hr1 (by rfl) gP kp bP .nil pass0 (pa_cons (pv 0) (pa_cons (pv 2) pa_nil))) (fun _ _ => rfl)) rfl))))
      (pss_one (ps_expr (pe_bm PySem.F.plainAttrs_list PySem.F.slot_list_append PySem.F.type_list_append mt_append (pv 5) (pa_cons (pe_tup (pa_cons (pe_ix ix_list (pv 1) (pe_op op_add pe_int (pv 6)) (fun _ _ => rfl)) (pa_cons (pe_ix ix_tup (pv 4) (pe_call GP hr1 (by rfl) gP kp bP .nil pass0 (pa_cons (pv 0) (pa_cons (pv 2) pa_nil))) (fun _ _ => rfl)) (pa_cons (pv 7) pa_nil)))) pa_nil))))))
    (pss_one (ps_ret (pe_tup (pa_cons (pv 4) (pa_cons (pe_tupleOf (by rfl) mt (pv 5)) pa_nil)))))))), ?_⟩
  refine seq_join (fun σ G => ∃ (q : Addr) (ts : List Str), σ = [some (.ref p), some (.ref q), none, none, none, none, none, none, none] ∧ DealAt G p ∧ Sb p H G ∧ q ≠ p ∧ G q = some (.lst (ts.map V.str)) ∧ (∀ z ∈ ts, nmS z = true) ∧ ts.Nodup ∧ ts.length = 10) ?_ fun rest => ?_
  rotate_left
  · exact ⟨.ref p, rfl, p, 10, rfl, hD, by decide, fun q ts H2 D2 b2 nq qp eq hz nd hl => rest _ _ ⟨q, ts, rfl, D2, b2, qp, eq, hz, nd, hl⟩⟩
  rintro σ G0 ⟨q, ts, rfl, D0, b0, qp, eq0, hz, nd, hl⟩
  refine seq_join (fun σ G => ∃ (n m : Nat), 1 ≤ n ∧ n ≤ 4 ∧ 1 ≤ m ∧ m ≤ 6 ∧ σ = [some (.ref p), some (.ref q), some (.int (n : Nat)), some (.int (m : Nat)), none, none, none, none, none] ∧ DealAt G p ∧ Sb p G0 G) ?_ fun rest => ?_
  rotate_left
  · refine ⟨.ref p, rfl, p, 4, rfl, D0, by decide, by decide, fun d1 H1 l1 u1 D1 b1 => ⟨_, _, rfl, rfl, .ref p, rfl, p, 6, rfl, D1, by decide, by decide, fun d2 H2 l2 u2 D2 b2 => ⟨_, _, rfl, rfl, (by show 2 ≤ sizeLine; decide), fun T nT => ?_⟩⟩⟩
    refine ⟨T, _, rfl, SqT.of upd_same, rfl, _, _, rfl, _, _, rfl, rfl, ?_⟩
    have sT : Same H2 (upd H2 T (.tup [.int (1 + d1), .int (1 + d2)])) := same_new nT
    refine rest _ _ ⟨(1 + d1).toNat, (1 + d2).toNat, by omega, by omega, by omega, by omega, ?_, D2.keep sT, b1.trans (b2.trans (.of sT))⟩
    rw [Int.toNat_of_nonneg (by omega), Int.toNat_of_nonneg (by omega)]
    rfl
  rintro σ G ⟨n, m, n1, n4, m1, m6, rfl, DG, bG0⟩
  have bG := b0.trans bG0
  have eq := bG0 _ _ qp eq0
  clear D0 b0 eq0 bG0
  -- the kinds
  refine seq_join (fun σ G' => ∃ kA R : Addr, σ = [some (.ref p), some (.ref q), some (.int (n : Nat)), some (.int (m : Nat)), some (.ref kA), some (.ref R), none, none, none] ∧ Same G G' ∧ StT G' kA (ts.take n) ∧ G R = none ∧ G' R = some (.lst [])) ?_ fun rest => ?_
  rotate_left
  · refine ⟨.ref q, rfl, .int (n : Nat), rfl, _, rfl, q, _, rfl, SqL.of eq, fun c nc => ?_⟩
    rw [cut_take (by rw [List.length_map]; omega), ← List.map_take]
    refine .inl ⟨c, _, rfl, SqL.of upd_same, fun kA nk => ⟨(by show 0 ≤ sizeLine; exact Nat.zero_le _), fun R nR => ⟨(by show 2 ≤ sizeLine; decide), fun T nT => ?_⟩⟩⟩
    have s1 := same_new (o := .lst ((ts.take n).map V.str)) nc
    have s2 := same_new (o := .tup ((ts.take n).map V.str)) nk
    have s3 := same_new (o := .lst []) nR
    have s4 := same_new (o := .tup [.ref kA, .ref R]) nT
    refine ⟨T, _, rfl, SqT.of upd_same, rfl, _, _, rfl, _, _, rfl, rfl, rest _ _ ⟨kA, R, rfl, s1.trans (s2.trans (s3.trans s4)), s4 _ _ (s3 _ _ upd_same), ?_, s4 _ _ upd_same⟩⟩
    cases e : G R with
    | none => rfl
    | some o => rw [s2 _ _ (s1 _ _ e)] at nR; cases nR
  rintro σ G1 ⟨kA, R, rfl, s1, ek, nR, eR⟩
  have Rp : R ≠ p := by
    obtain ⟨_, _, _, e, _⟩ := DG
    exact fun z => by rw [z, e] at nR; cases nR
  have nR0 : H R = none := bG.free Rp nR
  have qR : q ≠ R := fun z => by rw [z, nR] at eq; cases eq
  have D2 := DG.keep s1
  have eq2 := s1 _ _ eq
  have b2 := bG.trans (.of s1)
  clear s1 eq DG bG nR
  have kp0 : ∀ {H' : Hp}, DealAt H' p → StT H' kA (ts.take n) → kA ≠ p := fun D e => deal_ne D e
  have rv0 : RIv (ts.take n) ts [] := ⟨fun r hr => (by cases hr), rfl⟩
  -- rows
  refine seq_join (fun σ G' => ∃ (o6 o7 : Option V) (xs : List V) (rs : List Rw), σ = [some (.ref p), some (.ref q), some (.int (n : Nat)), some (.int (m : Nat)), some (.ref kA), some (.ref R), o6, o7, none] ∧ DealAt G' p ∧ Sb p H G' ∧ StT G' kA (ts.take n) ∧ G' R = some (.lst xs) ∧ Paired (RowV G') xs rs ∧ RIv (ts.take n) ts rs ∧ rs.length = m) ?_ fun rest => ?_
  rotate_left
  · refine ⟨.int (m : Nat), rfl, _, rfl, ?_, ?_, for_range (n := m) (fun i σ H' => ∃ (o6 o7 : Option V) (xs : List V) (rs : List Rw), σ = [some (.ref p), some (.ref q), some (.int (n : Nat)), some (.int (m : Nat)), some (.ref kA), some (.ref R), o6, o7, none] ∧ DealAt H' p ∧ Sb p H H' ∧ H' q = some (.lst (ts.map V.str)) ∧ StT H' kA (ts.take n) ∧ H' R = some (.lst xs) ∧ Paired (RowV H') xs rs ∧ RIv (ts.take n) ts rs ∧ rs.length = i)
      ⟨none, none, [], [], rfl, D2, b2, eq2, ek, eR, .nil, rv0, rfl⟩ ?_ ?_⟩
    · omega
    · omega
    · clear eR eq2 ek
      rintro i σ H4 hi ⟨o6, o7, xs, rs, rfl, D4, b4, eq4, ek4, eR, hp, ri, li⟩
      refine ⟨(by show 5 ≤ sizeLine; decide), fun L nL => ⟨.ref p, rfl, p, 5, rfl, D4.keep (same_new nL), by decide, by decide, fun d5 H5 l5 u5 D5 b5 => ?_⟩⟩
      have s5 : Same H4 (upd H4 L (.lst [V.int 0, .int 1, .int 1, .int 2, .int 3])) := same_new nL
      have Lp : L ≠ p := by
        obtain ⟨_, _, _, e, _⟩ := D4
        exact fun z => by rw [z, e] at nL; cases nL
      obtain ⟨sN, esN, hs3⟩ : ∃ sN : Nat, ([V.int 0, .int 1, .int 1, .int 2, .int 3])[d5.toNat]? = some (V.int sN) ∧ sN ≤ 3 := by
        have : d5 = 0 ∨ d5 = 1 ∨ d5 = 2 ∨ d5 = 3 ∨ d5 = 4 := by omega
        rcases this with rfl | rfl | rfl | rfl | rfl
        · exact ⟨0, rfl, by omega⟩
        · exact ⟨1, rfl, by omega⟩
        · exact ⟨1, rfl, by omega⟩
        · exact ⟨2, rfl, by omega⟩
        · exact ⟨3, rfl, by omega⟩
      refine ⟨L, _, d5, .int sN, rfl, rfl, SqL.of (b5 L _ Lp upd_same), at_of (j := d5.toNat) (by omega) esN, ?_⟩
      have b45 : Sb p H4 H5 := (Sb.of s5).trans b5
      have kp : kA ≠ p := kp0 D4 ek4
      have eq5 := b45 _ _ qp eq4
      have ek5 : StT H5 kA (ts.take n) := b45 _ _ kp ek4
      have eR5 := b45 _ _ Rp eR
      have hp5 := Paired.mapP hp fun x r z => RowV.sb z D4 b45
      have b5' := b4.trans b45
      clear b45 b5 s5 nL eR ek4 eq4 hp D4 b4 esN
      -- the fields
      refine ⟨_, rfl, ?_, ?_, fun D nD => lc_rangeY (n := sN) (fun j H' => DealAt H' p ∧ Sb p H5 H' ∧ ∃ fs : List Str, H' D = some (.lst (fs.map V.str)) ∧ fs.length = j ∧ ∀ x ∈ fs, x ∈ ts.take n) (fun _ => rfl)
        ⟨D5.keep (same_new nD), Sb.new nD, [], upd_same, rfl, fun x hx => (by cases hx)⟩ ?_ ?_⟩
      · omega
      · omega
      · rintro j H6 hj ⟨D6, b6, fs, eD, lf, hf⟩
        have Dp : D ≠ p := by
          obtain ⟨_, _, _, e, _⟩ := D6
          exact fun z => by rw [z, e] at eD; obtain ⟨_, _, _, e5, _⟩ := D5; rw [z, e5] at nD; cases nD
        refine ⟨.ref kA, rfl, .ref p, rfl, .int (n : Nat), rfl, p, n, rfl, D6, by omega, by omega, fun d7 H7 l7 u7 D7 b7 => ?_⟩
        have hd : d7.toNat < (ts.take n).length := by rw [List.length_take]; omega
        refine ⟨kA, _, d7, .str (ts.take n)[d7.toNat], rfl, rfl, SqT.of (b7 _ _ kp (b6 _ _ kp ek5)), at_of (j := d7.toNat) (by omega) (by rw [List.getElem?_map, List.getElem?_eq_getElem hd]; rfl), _, b7 _ _ Dp eD, ?_, ?_, ?_, fs ++ [(ts.take n)[d7.toNat]], ?_, ?_, ?_⟩
        · rw [List.length_map]
          exact small1000 (by omega)
        · obtain ⟨x, y, u, e, l⟩ := D7
          exact ⟨x, y, u, by rw [upd_ne Dp.symm]; exact e, l⟩
        · intro b o nb e
          rw [upd_ne (ne_of_none e nD)]
          exact b7 b o nb (b6 b o nb e)
        · rw [upd_same, List.map_append]
          rfl
        · rw [List.length_append, lf]
          rfl
        · intro x hx
          rcases List.mem_append.mp hx with m | m
          · exact hf x m
          · rw [List.mem_singleton.mp m]
            exact List.getElem_mem hd
      · rintro H6 ⟨D6, b6, fs, eD, lf, hf⟩
        refine .inl ⟨D, _, rfl, SqL.of eD, fun fA nf => ?_⟩
        have s7 : Same H6 (upd H6 fA (.tup (fs.map V.str))) := same_new nf
        have efA : upd H6 fA (.tup (fs.map V.str)) fA = some (.tup (fs.map V.str)) := upd_same
        have D7 := D6.keep s7
        have b57 : Sb p H5 (upd H6 fA (.tup (fs.map V.str))) := b6.trans (.of s7)
        revert efA D7 b57
        generalize upd H6 fA (.tup (fs.map V.str)) = H7
        intro efA D7 b57
        have eR7 := b57 _ _ Rp eR5
        obtain ⟨wn, ewn⟩ : ∃ wn, ts[4 + i]? = some wn := ⟨_, List.getElem?_eq_getElem (by omega)⟩
        refine ⟨.ref R, rfl, .inl ⟨rfl, _, SqL.of eR7⟩, .ref q, rfl, .int (0 + (i : Int)), rfl, _, _, rfl, rfl, q, _, _, .str wn, rfl, rfl, SqL.of (b57 _ _ qp eq5), ?_, .ref kA, rfl, .ref p, rfl, .int (n : Nat), rfl, p, n, rfl, D7, by omega, by omega, fun d8 H8 l8 u8 D8 b8 => ?_⟩
        · rw [show (4 : Int) + (0 + (i : Int)) = ((4 + i : Nat) : Int) by omega]
          exact atI_nat (by rw [List.getElem?_map, ewn]; rfl)
        have hd : d8.toNat < (ts.take n).length := by rw [List.length_take]; omega
        have b58 := b57.trans b8
        have fp' : fA ≠ p := deal_ne D7 efA
        have efA8 := b8 _ _ fp' efA
        have eR8 := b58 _ _ Rp eR5
        refine ⟨kA, _, d8, .str (ts.take n)[d8.toNat], rfl, rfl, SqT.of (b58 _ _ kp ek5), at_of (j := d8.toNat) (by omega) (by rw [List.getElem?_map, List.getElem?_eq_getElem hd]; rfl), .ref fA, rfl, ⟨(by show 3 ≤ sizeLine; decide), fun B nB => ?_⟩⟩
        have sB : Same H8 (upd H8 B (.tup [.str wn, .str (ts.take n)[d8.toNat], .ref fA])) := same_new nB
        have RB : B ≠ R := fun z => by rw [z, eR8] at nB; cases nB
        have RfA : fA ≠ R := fun z => by rw [z, eR8] at efA8; cases efA8
        have eR9 := sB _ _ eR8
        have lx : xs.length = rs.length := Paired.length hp5
        refine ⟨R, _, _, rfl, rfl, eR9, small1000 (by omega), some (.int (0 + (i : Int))), _, xs ++ [.ref B], rs ++ [(wn, (ts.take n)[d8.toNat], fs)], rfl, ?_, ?_, ?_, ?_, upd_same, paired_snoc (Paired.mapP hp5 fun x r z => ((RowV.sb z D5 b58).keep sB).but eR9 .set) ⟨B, fA, rfl, ?_, ?_⟩, ri.snoc ⟨hz _ (List.mem_of_getElem? ewn), List.getElem_mem hd, (by show fs.length ≤ 3; omega), hf⟩ ?_, ?_⟩
        · obtain ⟨x, y, u, e, l⟩ := D8.keep sB
          exact ⟨x, y, u, by rw [upd_ne Rp.symm]; exact e, l⟩
        · intro b o nb e
          rw [upd_ne (ne_of_none e nR0)]
          exact sB _ _ (b58 b o nb (b5' b o nb e))
        · rw [upd_ne qR]
          exact sB _ _ (b58 _ _ qp eq5)
        · show upd _ R _ kA = _
          rw [upd_ne (fun z => by have e : H5 kA = _ := ek5; rw [z, eR5] at e; cases e)]
          exact sB _ _ (b58 _ _ kp ek5)
        · rw [upd_ne RB, upd_same]
        · show upd _ R _ fA = _
          rw [upd_ne RfA]
          exact sB _ _ efA8
        · rw [List.getElem?_drop, li, ← ewn]
        · rw [List.length_append, li]
          rfl
    · rintro σ H4 ⟨o6, o7, xs, rs, rfl, D4, b4, eq4, ek4, eR, hp, ri, li⟩
      exact rest _ _ ⟨o6, o7, xs, rs, rfl, D4, b4, ek4, eR, hp, ri, li⟩
  clear eR ek eq2 D2 b2
  rintro σ G3 ⟨o6, o7, xs, rs, rfl, D3, b3, ek3, eR, hp, ri, lr⟩
  refine ⟨.ref kA, rfl, .ref R, rfl, .inl ⟨R, _, rfl, SqL.of eR, fun rA nrA => ⟨(by show 2 ≤ sizeLine; decide), fun M nM => ?_⟩⟩⟩
  have s1 := same_new (H := G3) (o := .tup xs) nrA
  have s2 := same_new (o := .tup [.ref kA, .ref rA]) nM
  have s3 := s1.trans s2
  refine k M kA rA (ts.take n) rs _ (D3.keep s3) (b3.trans (.of s3)) upd_same (s3 _ _ ek3) ⟨xs, s2 _ _ upd_same, Paired.mapP hp fun x r z => RowV.keep z s3⟩ ⟨?_, ?_, ?_, ?_⟩ ⟨?_, ?_, ri.ok, ?_, fun r hr => by cases hr⟩
  · rw [List.length_take]; omega
  · rw [List.length_take]; omega
  · exact fun z h => hz z (List.mem_of_mem_take h)
  · exact nd.sublist (List.take_sublist ..)
  · show 1 ≤ (rs ++ []).length
    rw [List.append_nil]; omega
  · show (rs ++ []).length ≤ 6
    rw [List.append_nil]; omega
  · rw [show rs ++ (none : Option Rw).toList = rs from List.append_nil _, ri.nm]
    exact (nd.sublist (List.drop_sublist ..)).sublist (List.take_sublist ..)
end
end Ks
set_option Elab.async false
set_option linter.all false
set_option maxRecDepth 100000
set_option maxHeartbeats 4000000
namespace Ks
open PySem PySem.Spec PyProof.Rows L2 Gd Kx LamX
/-! ### what a shown name is -/
def cpOk (c : Nat) : Bool := decide (c < 1114112)
theorem rch_ok : ∀ c ∈ signs.cps.toList, ∀ q ∈ [34, 39], (Builtin.Str.reprChar q c).all cpOk = true := by decide +kernel
theorem rfold_ok {q : Nat} (hq : q ∈ [34, 39]) : ∀ (l : List Nat) (out : Array Nat), (∀ c ∈ l, c ∈ signs.cps.toList) → out.all cpOk = true → (l.foldl (fun out c => out ++ (Builtin.Str.reprChar q c).toArray) out).all cpOk = true
  | [], _, _, h => h
  | c :: r, out, hl, h => by
    rw [List.foldl_cons]
    refine rfold_ok hq r _ (fun x hx => hl x (List.mem_cons_of_mem _ hx)) ?_
    rw [Array.all_append, h, Bool.true_and]
    have := rch_ok c (hl c (List.mem_cons_self ..)) q hq
    simpa using this
theorem rq_mem (z : Str) : reprQuote z ∈ [34, 39] := by
  unfold reprQuote
  split <;> decide
theorem rp_ok {z : Str} (h : nmS z = true) : PyData.strOk (reprText z) = true := by
  have hm : ∀ c ∈ z.cps.toList, c ∈ signs.cps.toList := by
    unfold nmS at h
    cases ec : z.cps.toList with
    | nil => intro c hc; cases hc
    | cons c r =>
      rw [ec, nmL_cons, Bool.and_eq_true_iff] at h
      intro d hd
      exact of_decide_eq_true (List.all_eq_true.mp h.2 d hd)
  have hq := rq_mem z
  have f := rfold_ok hq z.cps.toList #[reprQuote z] hm (by
    simp only [List.mem_cons, List.not_mem_nil, or_false] at hq
    rcases hq with e | e <;> rw [e] <;> decide +kernel)
  unfold PyData.strOk reprText
  rw [Array.all_push]
  rw [← Array.foldl_toList]
  have e : (fun x => decide (x < 1114112)) = cpOk := rfl
  rw [e, f, Bool.true_and]
  simp only [List.mem_cons, List.not_mem_nil, or_false] at hq
  rcases hq with e | e <;> rw [e] <;> decide
theorem sh_ok {ss : List Str} (h : ∀ s ∈ ss, PyData.strOk s = true) : SeqAt.shaped (dLs ss) = true := by
  have h1 : (dLs ss).canLay0 = true := lay_all fun d hd => by
    obtain ⟨s, hs, rfl⟩ := List.mem_map.mp hd
    exact h s hs
  have h2 : (dLs ss).depth ≤ 64 := by
    have := dep_all (n := 1) (ds := ss.map PyData.str) fun d hd => by
      obtain ⟨s, hs, rfl⟩ := List.mem_map.mp hd
      rw [PyData.depth]
      omega
    unfold dLs
    rw [PyData.depth]
    omega
  unfold SeqAt.shaped
  rw [h1, decide_eq_true h2]
  rfl
theorem ix7_ok : ∀ i : _root_.Fin 7, PyData.strOk (PyData.int (i.1 : Nat)).shown = true := by decide +kernel
theorem sh_EK {z : Str} (h : nmS z = true) : SeqAt.shaped (dLs [Str.ofString "EmptyKind", (PyData.str z).shown]) = true := sh_ok fun s hs => by
  simp only [List.mem_cons, List.not_mem_nil, or_false] at hs
  rcases hs with rfl | rfl
  · decide +kernel
  · exact rp_ok h
theorem sh_IC {i : Nat} (h : i < 7) : SeqAt.shaped (dLs [Str.ofString "InvalidConstructors", (PyData.int (i : Nat)).shown]) = true := sh_ok fun s hs => by
  simp only [List.mem_cons, List.not_mem_nil, or_false] at hs
  rcases hs with rfl | rfl
  · decide +kernel
  · exact ix7_ok ⟨i, h⟩
def dKR (ks : List Str) (rs : List Rw) : PyData := .list [dSs ks, dRs rs]
theorem sh_KR {ks : List Str} {rs : List Rw} (gk : KsOk ks) (g : ∀ r ∈ rs, RwOk ks r) : SeqAt.shaped (dKR ks rs) = true := by
  have l1 := lay_ss gk.kn
  have all : ∀ d ∈ rs.map dRw, d.canLay0 = true ∧ d.depth ≤ 5 := fun d hd => by
    obtain ⟨r, hr, rfl⟩ := List.mem_map.mp hd
    exact lay_rw gk.kn (g r hr)
  have d2 := dep_all (n := 5) fun d hd => (all d hd).2
  have l2 : (dRs rs).canLay0 = true := lay_all fun d hd => (all d hd).1
  have d3 : (dRs rs).depth ≤ 7 := by
    unfold dRs
    rw [PyData.depth]
    omega
  have all2 : ∀ d ∈ [dSs ks, dRs rs], d.canLay0 = true ∧ d.depth ≤ 7 := by
    intro d hd
    simp only [List.mem_cons, List.not_mem_nil, or_false] at hd
    rcases hd with rfl | rfl
    · exact ⟨l1.1, by omega⟩
    · exact ⟨l2, d3⟩
  have dp := dep_all (n := 7) fun d hd => (all2 d hd).2
  have e : (dKR ks rs).depth ≤ 64 := by
    unfold dKR
    rw [PyData.depth]
    omega
  unfold SeqAt.shaped
  rw [show (dKR ks rs).canLay0 = true from lay_all fun d hd => (all2 d hd).1, decide_eq_true e]
  rfl
theorem eqv_KR (ks : List Str) (rs : List Rw) : PyData.eqv (dKR ks rs) (dKR ks rs) = true := by
  show (PyData.eqv (dSs ks) (dSs ks) && (PyData.eqv (dRs rs) (dRs rs) && true)) = true
  rw [eqv_ss, eqv_rs, decide_eq_true rfl, decide_eq_true rfl]
  rfl
/-! ### the last element, and those before it -/
theorem at_last (xs : List V) (x : V) : atI (xs ++ [x]) (-1) = some x := by
  unfold atI ixN
  rw [if_neg (by decide), if_pos (by rw [List.length_append, List.length_singleton]; omega)]
  have : ((-1 : Int) + ((xs ++ [x]).length : Int)).toNat = xs.length := by rw [List.length_append, List.length_singleton]; omega
  show (xs ++ [x])[((-1 : Int) + ((xs ++ [x]).length : Int)).toNat]? = _
  rw [this, List.getElem?_append_right (Nat.le_refl _), Nat.sub_self]
  rfl
theorem cut_last (xs : List V) (x : V) : cutV (xs ++ [x]) none (some (-1)) = xs := by
  unfold cutV
  have e1 : HT.sIx (xs ++ [x]).length 0 none = 0 := rfl
  have e2 : HT.sIx (xs ++ [x]).length (xs ++ [x]).length (some (-1)) = xs.length := by
    unfold HT.sIx
    rw [List.length_append, List.length_singleton]
    simp
    omega
  rw [e1, e2, List.drop_zero, Nat.sub_zero, List.take_left]
theorem cut_last_ne (xs : List V) (x : V) : ¬ (HT.sIx (xs ++ [x]).length 0 none = 0 ∧ HT.sIx (xs ++ [x]).length (xs ++ [x]).length (some (-1)) = (xs ++ [x]).length) := by
  rintro ⟨_, h⟩
  unfold HT.sIx at h
  rw [List.length_append, List.length_singleton] at h
  simp at h
  omega
/-! ### tables of code stay -/
def SbN (p : Addr) (H H' : Hp) : Prop := ∀ b o, b ≠ p → (∀ ps : Array Value, o ≠ .tbl ps) → H b = some o → H' b = some o
theorem SbN.refl {p : Addr} {H : Hp} : SbN p H H := fun _ _ _ _ e => e
theorem SbN.trans {p : Addr} {H H1 H2 : Hp} (h : SbN p H H1) (h2 : SbN p H1 H2) : SbN p H H2 := fun b o n t e => h2 b o n t (h b o n t e)
theorem SbN.sb {p : Addr} {H H1 : Hp} (h : Sb p H H1) : SbN p H H1 := fun b o n _ e => h b o n e
theorem SbN.same {p : Addr} {H H1 : Hp} (h : Same H H1) : SbN p H H1 := fun b o _ _ e => h b o e
theorem SbN.ext {p : Addr} {H H1 : Hp} (h : ExtN H H1) : SbN p H H1 := fun b o _ t e => h b o e t
theorem tabs_sb {T : List (Addr × Str)} {p : Addr} {H H' : Hp} (t : Tabs T H) (D : DealAt H p) (s : Sb p H H') : Tabs T H' := by
  intro x hx
  obtain ⟨ps, e1, e2, e3⟩ := t x hx
  obtain ⟨_, _, _, ep, _⟩ := D
  refine ⟨ps, s _ _ (fun z => by rw [z, ep] at e1; cases e1) e1, e2, fun pos cv h => ?_⟩
  obtain ⟨c, ec, e4⟩ := e3 pos cv h
  exact ⟨c, ec, s _ _ (fun z => by rw [z, ep] at e4; cases e4) e4⟩
theorem deal_ext {p : Addr} {H H' : Hp} (D : DealAt H p) (e : ExtN H H') : DealAt H' p := by
  obtain ⟨x, y, c, ep, l⟩ := D
  exact ⟨x, y, c, e _ _ ep (fun _ z => by cases z), l⟩
theorem st_ext {a : Addr} {H H' : Hp} {ss : List Str} (h : StT H a ss) (e : ExtN H H') : StT H' a ss := e _ _ h fun _ z => by cases z
theorem row_ext {x : V} {H H' : Hp} {r : Rw} (h : RowV H x r) (e : ExtN H H') : RowV H' x r := by
  obtain ⟨b, f, ex, h1, h2⟩ := h
  exact ⟨b, f, ex, e _ _ h1 (fun _ z => by cases z), st_ext h2 e⟩
theorem rows_ext {a : Addr} {H H' : Hp} {rs : List Rw} (h : RowsT H a rs) (e : ExtN H H') : RowsT H' a rs := by
  obtain ⟨xs, e1, hp⟩ := h
  exact ⟨xs, e _ _ e1 (fun _ z => by cases z), Paired.mapP hp fun x r z => row_ext z e⟩
theorem rows_snoc_inv {H : Hp} : ∀ {pre : List Rw} {l : Rw} {xs : List V}, Paired (RowV H) xs (pre ++ [l]) → ∃ ys y, xs = ys ++ [y] ∧ Paired (RowV H) ys pre ∧ RowV H y l
  | [], l, _, .cons h .nil => ⟨[], _, rfl, .nil, h⟩
  | r :: pre, l, _, .cons h t => by
    obtain ⟨ys, y, rfl, hp, hy⟩ := rows_snoc_inv t
    exact ⟨_ :: ys, y, rfl, .cons h hp, hy⟩
/-- the rows but for the last one's kind -/
theorem Pre.bent {ks : List Str} {pre : List Rw} {l : Rw} {z : Str} (g : Pre ks (pre ++ [l]) none) (nz : z ∉ ks) : Pre ks pre (some (l.1, z, [])) where
  r1 := by simp
  r6 := by
    have := g.r6
    simp at this ⊢
    omega
  ok := fun r hr => g.ok r (List.mem_append_left _ hr)
  rd := by
    have := g.rd
    simpa using this
  bad := fun r e => by
    cases e
    exact ⟨(g.ok l (List.mem_append_right _ (List.mem_singleton.mpr rfl))).n, nz⟩
end Ks
set_option Elab.async false
set_option linter.all false
set_option maxRecDepth 100000
set_option maxHeartbeats 4000000
namespace Gd
open PySem PySem.Spec PyProof.Rows L2 LamX
section
variable {P : Program} {w : World} {K : PySem.W.Frag} {mg : Str → Option Value} {base : Heap}
/-- as okG, the code object told -/
theorem okGC {x qn : Str} {st : Stmt} {f c : Addr} {fd : FuncData} {N ps : List Str} {k : Nat} {sp : Sp} (F : Fun K x qn st f fd) (hcd : fd.code = .ref c) (S : FnScope N ps (defScope st)) (hl : ∀ us H Q E, sp us H Q E → us.length = ps.length)
    (hb : ∀ (A : Around) (ou : List Env) (s : Shared) (H : Hp) (vs : List V) (Q : VK) (E : XK), A.guards = some [] → Room k (A.deeper (envOfC qn (defScope st) s.heap.objs.size f (.ref c))) → sp vs H Q E →
      ∃ t, PSs (cxOf CX0 P w K mg base N qn (defScope st) f (.ref c) A ou s H E).nox (defBody st) t ∧ t { nx := fun _ H' => Q .non H', rt := Q } (start N vs) H) : Pr P w K mg base CX0 (k + 1) f fd ps sp := by
  obtain ⟨oc, od, kV, dc, pm, an, cv, ct, osl, rfl, lk, hc⟩ := F.ex
  cases (show cv = .ref c from hcd)
  refine pr_of lk hc S hl fun A ou s H vs Q E hG hR hS => ?_
  obtain ⟨t, h, q⟩ := hb A ou s H vs Q E hG hR hS
  exact ⟨t, h.nox, q⟩
end
end Gd
namespace Ks
open PySem PySem.Spec PyProof.Rows L2 Gd Kx LamX
abbrev sTl : Stmt := Kx.topS 33
abbrev sRgt : Stmt := Kx.topS 37
abbrev nRgt : List Str := ["_law_deal_here", "_law_turn", "_law_kinds", "_law_rows", "_law_empty_here", "_law_told_here", "_law_bad"]
theorem scRgt : FnScope nRgt ["_law_deal_here"] (defScope sRgt) := ⟨rfl, rfl, rfl, by decide +kernel, rfl, by decide +kernel, by decide +kernel⟩
theorem scTl : FnScope nTold ["_law_act"] (defScope sTl) := ⟨rfl, rfl, rfl, by decide +kernel, rfl, by decide +kernel, by decide +kernel⟩
/-- the name of the lambdas -/
def qLam : Str := (envOfC "_law_right" (defScope sRgt) 0 0 (.ref 0)).qual ++ Str.ofString "<lambda>"
/-- what is known of the errors -/
structure ER (K : PySem.W.Frag) (mg : Str → Option Value) (CC CE : Addr) : Prop where
  t : ∃ c1 c2 c3 : Value, mg "TreeError" = some c1 ∧ mg "StateError" = some c2 ∧ mg "LimitError" = some c3 ∧ PySem.W.exmAny K (.ref CE) [c1, c2, c3] = some true ∧ PySem.W.exmAny K (.ref CC) [c1, c2, c3] = some true
structure SQ (P : Program) (w : World) (K : PySem.W.Frag) (mg : Str → Option Value) (base : Heap) (C CC CE : Addr) : Prop where
  Z : SCl K C
  gC : mg "Schema" = some (.ref C)
  ini : ∃ f fd, Mk K C f ∧ FnOk P w K mg base (CX P w) 4 f fd ["self", "kinds", "constructors"] (spIniX C CC CE) ∧ Binds K fd ["self", "kinds", "constructors"] []
  gk : ∃ p f fd, PropOf K C "kinds" p f ∧ FnOk P w K mg base CX0 1 f fd ["self"] (spGk C) ∧ Binds K fd ["self"] []
  gc : ∃ p f fd, PropOf K C "constructors" p f ∧ FnOk P w K mg base CX0 1 f fd ["self"] (spGc C) ∧ Binds K fd ["self"] []
section
variable {P : Program} {w : World} {K : PySem.W.Frag} {mg : Str → Option Value} {base : Heap} {C CC CE : Addr}
/-- what told leaves -/
def ToldAt (C : Addr) (G : Hp) (L kA rA : Addr) (ks : List Str) (rs : List Rw) : Prop :=
  (emp ks rs = none ∧ ∃ x n : Addr, G L = some (.lst [.str "given", .ref x]) ∧ Raw C G x kA rA n) ∨ (∃ z, emp ks rs = some z ∧ nmS z = true ∧ G L = some (.lst [.str "EmptyKind", .str (PyData.str z).shown]))
theorem ToldAt.keep {C : Addr} {G G' : Hp} {L kA rA : Addr} {ks : List Str} {rs : List Rw} (h : ToldAt C G L kA rA ks rs) (s : Same G G') : ToldAt C G' L kA rA ks rs := by
  rcases h with ⟨e, x, n, e1, e2⟩ | ⟨z, e, nz, e1⟩
  · exact .inl ⟨e, x, n, s _ _ e1, e2.keep s⟩
  · exact .inr ⟨z, e, nz, s _ _ e1⟩
theorem nm_ne {z : Str} (h : nmS z = true) : z ≠ Str.ofString "" := fun e => by
  have := (nm_len h).1
  rw [e] at this
  exact absurd this (by decide +kernel)
theorem emp_mem {ks : List Str} {rs : List Rw} {z : Str} (h : emp ks rs = some z) : z ∈ ks := List.mem_of_find?_eq_some h
theorem pre_nil (rs : List Rw) : rs ++ (none : Option Rw).toList = rs := List.append_nil _
theorem mk_base {C x dx : Addr} {H : Hp} (nx : H x = none) (nd : H dx = none) : Same H (upd (upd H dx (.own x)) x (.ins C dx [])) := fun b o e => by
  rw [upd_ne (ne_of_none e nx), upd_ne (ne_of_none e nd)]
  exact e
theorem mk_same {C x dx : Addr} {H H' : Hp} (nx : H x = none) (nd : H dx = none) (h : But x (upd (upd H dx (.own x)) x (.ins C dx [])) H') : Same H H' := fun b o e => h b o (ne_of_none e nx) (mk_base nx nd _ _ e)
def spRgt (T : List (Addr × Str)) : Sp := fun vs H Q _ => ∃ p : Addr, vs = [.ref p] ∧ DealAt H p ∧ Tabs T H ∧ ∀ H', SbN p H H' → Tabs T H' → Q (.bl true) H'
theorem ok_rgt {f fd' fe ff ft fs c Pt : Addr} {fd dd de df dt ds : FuncData} (F : Fun K "_law_right" "_law_right" sRgt f fd) (hcd : fd.code = .ref c) (TB : TabB base mg c Pt) (T : TS0 mg) (mrep : mg "repr" = none) (S : SQ P w K mg base C CC CE) (R : ER K mg CC CE)
    (GD : FnOk P w K mg base CX0 4 fd' dd ["_law_deal_here"] spDr) (kD : PySem.W.keepIn K (.ref fd') = true) (bD : Binds K dd ["_law_deal_here"] []) (gD : mg "_law_drawn" = some (.ref fd'))
    (GE : FnOk P w K mg base CX0 1 fe de ["_law_kinds", "_law_rows"] spEmp) (kE : PySem.W.keepIn K (.ref fe) = true) (bE : Binds K de ["_law_kinds", "_law_rows"] []) (gE : mg "_law_empty" = some (.ref fe))
    (GF : FnOk P w K mg base CX0 1 ff df ["_law_taken"] spFr) (kF : PySem.W.keepIn K (.ref ff) = true) (bF : Binds K df ["_law_taken"] []) (gF : mg "_law_fresh" = some (.ref ff))
    (FT : Fun K "_law_told" "_law_told" sTl ft dt) (bT : Binds K dt ["_law_act"] []) (gT : mg "_law_told" = some (.ref ft))
    (FS : FnE P w K mg base 1 fs ds "_law_e" (spSrt CC CE)) (kS : PySem.W.keepIn K (.ref fs) = true) (bS : Binds K ds ["_law_e"] []) (gS : mg "_law_sort" = some (.ref fs)) :
    Pr P w K mg base CX0 8 f fd ["_law_deal_here"] (spRgt [(Pt, qLam)]) := by
  obtain ⟨oc, od, kV, dc, pm, an, cvT, ct, osl, rfl, lkT, hcT⟩ := FT.ex
  obtain ⟨c1, c2, c3, m1, m2, m3, xE, xC⟩ := R.t
  obtain ⟨Z, gC, ⟨fin, din, Min, Gin, Bin⟩, ⟨pgk, fgk, dgk, Pgk, Ggk, Bgk⟩, ⟨pgc, fgc, dgc, Pgc, Ggc, Bgc⟩⟩ := S
  refine okGC F hcd scRgt (fun vs H Q E h => ?_) (fun A ou s H vs Q E hG hr h => ?_)
  · obtain ⟨p, rfl, _⟩ := h
    rfl
  obtain ⟨p, rfl, hD, hT, q⟩ := h
  have hu := hr.units
  have hG2 : (A.deeper (envOfC "_law_right" (defScope sRgt) s.heap.objs.size f (.ref c))).guards = some [] := hG
  have hr1 : Room 1 (A.deeper (envOfC "_law_right" (defScope sRgt) s.heap.objs.size f (.ref c))) := hr.mono (by decide)
  have hr2 : Room 2 (A.deeper (envOfC "_law_right" (defScope sRgt) s.heap.objs.size f (.ref c))) := hr.mono (by decide)
  have hr4 : Room 4 (A.deeper (envOfC "_law_right" (defScope sRgt) s.heap.objs.size f (.ref c))) := hr.mono (by decide)
  have told : ∀ q : Str, GivesTo (cxOf CX0 P w K mg base nRgt "_law_right" (defScope sRgt) f (.ref c) A ou s H E).nox nTold "_law_told" (defScope sTl) ft cvT (defBody sTl) "_law_act" q (TTold3 K c1 c2 c3 (spSrt CC CE)) := fun q => told3 (X := (cxOf CX0 P w K mg base nRgt "_law_right" (defScope sRgt) f (.ref c) A ou s H E).nox) (x := "_law_told") (q := q) (g := ft) (cdg := cvT) scTl rfl rfl rfl m1 rfl m2 rfl m3 rfl gS FS kS bS hG2 hr2
  refine ⟨_, pss_cons (ps_for PassesOwn.never rfl (pi_range1 rfl T.rng (pa_cons pe_int pa_nil)) (pg_name (i := 1) scRgt.nd rfl (.inl rfl))
      (pss_cons (ps_asg (pe_call GD hr4 (by rfl) gD kD bD .nil pass0 (pa_cons (pv 0) pa_nil)) (pg_tup (by rfl) (pgs_cons (pg_name (i := 2) scRgt.nd rfl (.inr rfl)) (pgs_cons (pg_name (i := 3) scRgt.nd rfl (.inr rfl)) pgs_nil))))
      (pss_cons (ps_set (i := 4) scRgt.nd rfl (.inl rfl) (pe_call GE hr1 (by rfl) gE kE bE .nil pass0 (pa_cons (pv 2) (pa_cons (pv 3) pa_nil))))
      (pss_cons (ps_set (i := 5) scRgt.nd rfl (.inl rfl) (pe_lamcall (T := [(Pt, qLam)]) (k := 5) (t := fun E => tMake C (spIniX C CC CE) [] E (tCons (tVar 2) (tCons (tVar 3) tNil))) (by rfl) gT FT.kp lkT hcT bT scTl rfl (.inl rfl) (told _) TB rfl (List.mem_singleton.mpr rfl) (fun p hp _ => by rw [List.mem_singleton.mp hp]; rfl) hr (lamS_by (sc := defScope sRgt) (by decide +kernel)) rfl (fun _ _ _ _ _ => rfl)
          (fun A' ou' s' H' E' f' c' hR' => pe_make Min Gin hR' (by rfl) gC Bin .nil (passes_call (takes_of rfl rfl rfl rfl) (fun _ _ _ _ h => h)) (pa_cons (pv 2) (pa_cons (pv 3) pa_nil)))))
      (pss_cons (ps_if (PW.pt (pw_and (pt_cmpR op_ne (pv 4) pe_str (nomark _)) (pw_and1 (pt_cmpR (op_neD hu) (pv 5) (pe_lst (pa_cons pe_str (pa_cons (pe_callB (call_showV hG2 hu) (by rfl) mrep boot_repr (pa_cons (pv 4) pa_nil)) pa_nil))) (nomark _))))) (pss_one (ps_ret pe_bl)) pss_nil)
      (pss_cons (ps_if (PW.pt (pw_and (pt_cmpR op_eq (pv 4) pe_str (nomark _)) (pw_and1 (pt_cmpR op_ne (pe_ix ix_list (pv 5) pe_int (fun _ _ => rfl)) pe_str (nomark _))))) (pss_one (ps_ret pe_bl)) pss_nil)
      (pss_cons (ps_if (PW.pt (pw_and (pt_cmpR op_eq (pv 4) pe_str (nomark _)) (pw_and1 (pt_cmpR (op_neD hu) (pe_lst (pa_cons (pe_prop (pe_ix ix_list (pv 5) pe_int (fun _ _ => rfl)) Z.cls Pgk Ggk hr2 Bgk .nil pass0 (by rfl)) (pa_cons (pe_prop (pe_ix ix_list (pv 5) pe_int (fun _ _ => rfl)) Z.cls Pgc Ggc hr2 Bgc .nil pass0 (by rfl)) pa_nil))) (pe_lst (pa_cons (pv 2) (pa_cons (pv 3) pa_nil))) (nomark _))))) (pss_one (ps_ret pe_bl)) pss_nil)
      (pss_cons (ps_set (i := 6) scRgt.nd rfl (.inr rfl) (pe_op op_catA (pe_slice sl_tup (pv 3) po_none (po_some (pe_un un_neg pe_int))) (pe_tup (pa_cons (pe_tup (pa_cons (pe_ix ix_tup (pe_ix ix_tup (pv 3) (pe_un un_neg pe_int) (fun _ _ => rfl)) pe_int (fun _ _ => rfl)) (pa_cons (pe_call GF hr1 (by rfl) gF kF bF .nil pass0 (pa_cons (pv 2) pa_nil)) (pa_cons (pe_tup pa_nil) pa_nil)))) pa_nil))))
      (pss_one (ps_if (pt_cmpR (op_neD hu) (pe_lamcall (T := [(Pt, qLam)]) (k := 5) (t := fun E => tMake C (spIniX C CC CE) [] E (tCons (tVar 2) (tCons (tVar 6) tNil))) (by rfl) gT FT.kp lkT hcT bT scTl rfl (.inl rfl) (told _) TB rfl (List.mem_singleton.mpr rfl) (fun p hp _ => by rw [List.mem_singleton.mp hp]; rfl) hr (lamS_by (sc := defScope sRgt) (by decide +kernel)) rfl (fun _ _ _ _ _ => rfl)
          (fun A' ou' s' H' E' f' c' hR' => pe_make Min Gin hR' (by rfl) gC Bin .nil (passes_call (takes_of rfl rfl rfl rfl) (fun _ _ _ _ h => h)) (pa_cons (pv 2) (pa_cons (pv 6) pa_nil)))) (pe_lst (pa_cons pe_str (pa_cons (pe_callB (call_showV hG2 hu) (by rfl) mrep boot_repr (pa_cons (pe_op op_sub (pe_callB call_len_seq (by rfl) T.len PySem.boot_len (pa_cons (pv 3) pa_nil)) pe_int) pa_nil)) pa_nil))) (nomark _)) (pss_one (ps_ret pe_bl)) pss_nil))))))))))
    (pss_one (ps_ret pe_bl)), ?_⟩
  refine ⟨6, rfl, by decide, by decide, for_range (n := 6) (fun i σ H' => ∃ o1 o2 o3 o4 o5 o6 : Option V, σ = [some (.ref p), o1, o2, o3, o4, o5, o6] ∧ DealAt H' p ∧ Tabs [(Pt, qLam)] H' ∧ SbN p H H') ⟨none, none, none, none, none, none, rfl, hD, hT, .refl⟩ ?_ ?_⟩
  rotate_left
  · rintro σ H1 ⟨o1, o2, o3, o4, o5, o6, rfl, D1, T1, b1⟩
    exact q H1 b1 T1
  rintro i σ H1 hi ⟨o1, o2, o3, o4, o5, o6, rfl, D1, T1, b1⟩
  -- a model
  refine seq_join (fun σ G => ∃ (kA rA : Addr) (ks : List Str) (rs : List Rw), σ = [some (.ref p), some (.int (0 + (i : Int))), some (.ref kA), some (.ref rA), o4, o5, o6] ∧ DealAt G p ∧ Tabs [(Pt, qLam)] G ∧ SbN p H G ∧ StT G kA ks ∧ RowsT G rA rs ∧ KsOk ks ∧ Pre ks rs none) ?_ fun rest => ?_
  rotate_left
  · exact ⟨.ref p, rfl, p, rfl, D1, fun b kA rA ks rs H2 D2 b2 eb ek er gk g => ⟨b, _, rfl, SqT.of eb, rfl, _, _, rfl, _, _, rfl, rfl, rest _ _ ⟨kA, rA, ks, rs, rfl, D2, tabs_sb T1 D1 b2, b1.trans (.sb b2), ek, er, gk, g⟩⟩⟩
  clear D1 T1 b1
  rintro σ G1 ⟨kA, rA, ks, rs, rfl, D1, T1, b1, ek1, er1, gk, g⟩
  have g6 : rs.length ≤ 6 := by
    have := g.r6
    rw [pre_nil] at this
    exact this
  -- the first kind without a tree
  refine seq_join (fun σ G => σ = [some (.ref p), some (.int (0 + (i : Int))), some (.ref kA), some (.ref rA), some (.str (empS ks rs)), o5, o6] ∧ Same G1 G) ?_ fun rest => ?_
  rotate_left
  · exact ⟨.ref kA, rfl, .ref rA, rfl, kA, rA, ks, rs, rfl, ek1, er1, gk, g.ok, g6, fun H3 s3 => rest _ _ ⟨rfl, s3⟩⟩
  rintro σ G2 ⟨rfl, s2⟩
  have D2 := D1.keep s2
  have T2 := T1.ext s2
  have b2 := b1.trans (.same s2)
  have ek2 : StT G2 kA ks := s2 _ _ ek1
  have er2 := er1.keep s2
  clear D1 T1 b1 ek1 er1 s2
  -- told
  refine seq_join (fun σ G => ∃ L : Addr, σ = [some (.ref p), some (.int (0 + (i : Int))), some (.ref kA), some (.ref rA), some (.str (empS ks rs)), some (.ref L), o6] ∧ DealAt G p ∧ Tabs [(Pt, qLam)] G ∧ SbN p H G ∧ StT G kA ks ∧ RowsT G rA rs ∧ ToldAt C G L kA rA ks rs) ?_ fun rest => ?_
  rotate_left
  · refine ⟨T2, fun H3 x3 T3 => ?_⟩
    have D3 := deal_ext D2 x3
    have b3 := b2.trans (.ext x3)
    have ek3 := st_ext ek2 x3
    have er3 := rows_ext er2 x3
    refine ⟨.ref kA, rfl, .ref rA, rfl, fun x dx nx nd ne => ?_⟩
    have s0 := mk_base (C := C) nx nd
    refine ⟨x, dx, kA, rA, ks, rs, none, rfl, upd_same, s0 _ _ ek3, by rw [pre_nil]; exact er3.keep s0, gk, g, fun _ ee n H4 bt nx' ex fz => ⟨rfl, .ref x, rfl, (by show 2 ≤ sizeLine; decide), fun L nL => ?_⟩, fun h => (by cases h), fun _ z ee d H4 s4 ed => ?_⟩
    · have s4 := (mk_same nx nd bt).trans (same_new (o := .lst [.str "given", .ref x]) nL)
      have sL := same_new (o := .lst [.str "given", .ref x]) nL
      exact rest _ _ ⟨L, rfl, D3.keep s4, T3.ext s4, b3.trans (.same s4), s4 _ _ ek3, er3.keep s4, .inl ⟨ee, x, n, upd_same, dx, _, ex.keep sL, fz.keep sL⟩⟩
    · have nz := gk.kn z (emp_mem ee)
      refine ⟨true, xE, fun _ => .inl ⟨d, z, rfl, rfl, ed, nz, fun L H5 s5 eL => ?_⟩, fun h => (by cases h)⟩
      have s6 := s0.trans (s4.trans s5)
      exact rest _ _ ⟨L, rfl, D3.keep s6, T3.ext s6, b3.trans (.same s6), s6 _ _ ek3, er3.keep s6, .inr ⟨z, ee, nz, eL⟩⟩
  clear D2 T2 b2 ek2 er2
  rintro σ G3 ⟨L, rfl, D3, T3, b3, ek3, er3, tl3⟩
  -- an empty kind is told
  refine seq_join (fun σ G => σ = [some (.ref p), some (.int (0 + (i : Int))), some (.ref kA), some (.ref rA), some (.str (empS ks rs)), some (.ref L), o6] ∧ Same G3 G) ?_ fun rest => ?_
  rotate_left
  · rcases id tl3 with ⟨ee, x, n, eL, eX⟩ | ⟨z, ee, nz, eL⟩
    · have e2 : empS ks rs = Str.ofString "" := by rw [empS, ee]; rfl
      rw [e2] at rest ⊢
      refine ⟨_, rfl, rfl, _, rfl, ?_⟩
      rw [show decide (V.str (Str.ofString "") = V.str (Str.ofString "")) = true from decide_eq_true rfl]
      exact iteF (iteF (rest _ _ ⟨rfl, fun _ _ e => e⟩))
    · have e2 : empS ks rs = z := by rw [empS, ee]; rfl
      rw [e2] at rest ⊢
      have sb := sb_nm nz
      refine ⟨_, rfl, rfl, _, rfl, ?_⟩
      rw [show decide (V.str z = V.str (Str.ofString "")) = false from decide_eq_false fun e => nm_ne nz (by injection e)]
      refine iteT ⟨.ref L, rfl, .str z, rfl, .str z, .str z, rfl, .str z, sb.sh, sb.nd, Nat.le_trans sb.dp (by decide), Nat.le_trans sb.ln (by decide), (by show 2 ≤ sizeLine; decide), fun M nM => ?_⟩
      have sM := same_new (H := G3) (o := .lst [.str "EmptyKind", .str (PyData.str z).shown]) nM
      refine ⟨dLs [Str.ofString "EmptyKind", (PyData.str z).shown], dLs [Str.ofString "EmptyKind", (PyData.str z).shown], .lst (SqL.of (sM _ _ eL)) (dp_strs [Str.ofString "EmptyKind", (PyData.str z).shown]), .lst (SqL.of upd_same) (dp_strs [Str.ofString "EmptyKind", (PyData.str z).shown]), sh_EK nz, sh_EK nz, _, rfl, ?_⟩
      rw [eqv_ls, decide_eq_true rfl]
      exact iteF (rest _ _ ⟨rfl, sM⟩)
  rintro σ G4 ⟨rfl, s4⟩
  replace D3 := D3.keep s4
  replace T3 := T3.ext s4
  replace b3 := b3.trans (.same s4)
  replace ek3 : StT G4 kA ks := s4 _ _ ek3
  replace er3 := er3.keep s4
  replace tl3 := tl3.keep s4
  clear s4
  -- given
  refine seq_join (fun σ G => σ = [some (.ref p), some (.int (0 + (i : Int))), some (.ref kA), some (.ref rA), some (.str (empS ks rs)), some (.ref L), o6] ∧ Same G4 G) ?_ fun rest => ?_
  rotate_left
  · rcases id tl3 with ⟨ee, x, n, eL, eX⟩ | ⟨z, ee, nz, eL⟩
    · have e2 : empS ks rs = Str.ofString "" := by rw [empS, ee]; rfl
      rw [e2] at rest ⊢
      refine ⟨_, rfl, rfl, _, rfl, ?_⟩
      rw [show decide (V.str (Str.ofString "") = V.str (Str.ofString "")) = true from decide_eq_true rfl]
      refine iteT ⟨.ref L, rfl, L, _, _, .str "given", rfl, rfl, SqL.of eL, rfl, rfl, _, rfl, ?_⟩
      rw [show decide (V.str "given" = V.str (Str.ofString "given")) = true from decide_eq_true rfl]
      exact iteF (rest _ _ ⟨rfl, fun _ _ e => e⟩)
    · have e2 : empS ks rs = z := by rw [empS, ee]; rfl
      rw [e2] at rest ⊢
      refine ⟨_, rfl, rfl, _, rfl, ?_⟩
      rw [show decide (V.str z = V.str (Str.ofString "")) = false from decide_eq_false fun e => nm_ne nz (by injection e)]
      exact iteF (iteF (rest _ _ ⟨rfl, fun _ _ e => e⟩))
  rintro σ G5 ⟨rfl, s5⟩
  replace D3 := D3.keep s5
  replace T3 := T3.ext s5
  replace b3 := b3.trans (.same s5)
  replace ek3 : StT G5 kA ks := s5 _ _ ek3
  replace er3 := er3.keep s5
  replace tl3 := tl3.keep s5
  clear s5
  -- kinds and constructors
  refine seq_join (fun σ G => σ = [some (.ref p), some (.int (0 + (i : Int))), some (.ref kA), some (.ref rA), some (.str (empS ks rs)), some (.ref L), o6] ∧ Same G5 G) ?_ fun rest => ?_
  rotate_left
  · rcases id tl3 with ⟨ee, x, n, eL, dx, ts0, ⟨dp, eX, edp⟩, fzX⟩ | ⟨z, ee, nz, eL⟩
    · have e2 : empS ks rs = Str.ofString "" := by rw [empS, ee]; rfl
      rw [e2] at rest ⊢
      refine ⟨_, rfl, rfl, _, rfl, ?_⟩
      rw [show decide (V.str (Str.ofString "") = V.str (Str.ofString "")) = true from decide_eq_true rfl]
      refine iteT ⟨.ref L, rfl, L, _, _, .ref x, rfl, rfl, SqL.of eL, rfl, x, dx, _, rfl, eX, x, kA, rA, n, rfl, ⟨dx, ts0, ⟨dp, eX, edp⟩, fzX⟩, .ref L, rfl, L, _, _, .ref x, rfl, rfl, SqL.of eL, rfl, x, dx, _, rfl, eX, x, kA, rA, n, rfl, ⟨dx, ts0, ⟨dp, eX, edp⟩, fzX⟩, (by show 2 ≤ sizeLine; decide), fun M nM => ?_⟩
      refine ⟨.ref kA, rfl, .ref rA, rfl, (by show 2 ≤ sizeLine; decide), fun N nN => ?_⟩
      have sM := same_new (H := G5) (o := .lst [.ref kA, .ref rA]) nM
      have sN := same_new (o := .lst [.ref kA, .ref rA]) nN
      have sMN := sM.trans sN
      have dk : Dp K (upd (upd G5 M (.lst [.ref kA, .ref rA])) N (.lst [.ref kA, .ref rA])) (.ref kA) (dSs ks) := dp_st (SqT.of (sMN _ _ ek3))
      have dr := dp_rs (K := K) (er3.keep sMN)
      refine ⟨dKR ks rs, dKR ks rs, .lst (SqL.of (sN _ _ upd_same)) (.cons dk (.cons dr .nil)), .lst (SqL.of upd_same) (.cons dk (.cons dr .nil)), sh_KR gk g.ok, sh_KR gk g.ok, _, rfl, ?_⟩
      rw [eqv_KR]
      exact iteF (rest _ _ ⟨rfl, sMN⟩)
    · have e2 : empS ks rs = z := by rw [empS, ee]; rfl
      rw [e2] at rest ⊢
      refine ⟨_, rfl, rfl, _, rfl, ?_⟩
      rw [show decide (V.str z = V.str (Str.ofString "")) = false from decide_eq_false fun e => nm_ne nz (by injection e)]
      exact iteF (iteF (rest _ _ ⟨rfl, fun _ _ e => e⟩))
  rintro σ G6 ⟨rfl, s6⟩
  replace D3 := D3.keep s6
  replace T3 := T3.ext s6
  replace b3 := b3.trans (.same s6)
  replace ek3 : StT G6 kA ks := s6 _ _ ek3
  replace er3 := er3.keep s6
  clear s6 tl3
  -- the last row bent
  obtain ⟨pre, l, rfl⟩ : ∃ pre l, rs = pre ++ [l] := by
    have r1 := g.r1
    rw [pre_nil] at r1
    rcases List.eq_nil_or_concat rs with e | ⟨pre, l, e⟩
    · rw [e] at r1
      cases r1
    · exact ⟨pre, l, by rw [e, List.concat_eq_append]⟩
  obtain ⟨xs, exs, hp⟩ := er3
  obtain ⟨ys, y, rfl, hys, bL, fL, rfl, hbL, hfL⟩ := rows_snoc_inv hp
  have ly : ys.length = pre.length := Paired.length hys
  have k4 := gk.k4
  have g6' : pre.length + 1 ≤ 6 := by simpa using g6
  refine seq_join (fun σ G => ∃ (BA : Addr) (z : Str), z ∉ ks ∧ σ = [some (.ref p), some (.int (0 + (i : Int))), some (.ref kA), some (.ref rA), some (.str (empS ks (pre ++ [l]))), some (.ref L), some (.ref BA)] ∧ Same G6 G ∧ RowsT G BA (pre ++ [(l.1, z, [])])) ?_ fun rest => ?_
  rotate_left
  · refine ⟨.ref rA, rfl, 1, rfl, _, rfl, rA, _, rfl, SqT.of exs, cut_last_ne _ _, fun B1 nB1 => ?_⟩
    rw [cut_last]
    have s1 := same_new (H := G6) (o := .tup ys) nB1
    refine ⟨.ref rA, rfl, 1, rfl, rA, _, _, .ref bL, rfl, rfl, SqT.of (s1 _ _ exs), at_last _ _, bL, _, _, .str l.1, rfl, rfl, SqT.of (s1 _ _ hbL), rfl, .ref kA, rfl, kA, ks, rfl, s1 _ _ ek3, by omega, fun z H5 nz s5 => ⟨(by show 0 ≤ sizeLine; exact Nat.zero_le _), fun U nU => ⟨(by show 3 ≤ sizeLine; decide), fun B nB => ⟨(by show 1 ≤ sizeLine; decide), fun W nW => ?_⟩⟩⟩⟩
    have sU := same_new (H := H5) (o := .tup []) nU
    have sB := same_new (o := .tup [.str l.1, .str z, .ref U]) nB
    have sW := same_new (o := .tup [.ref B]) nW
    have s15 := s1.trans (s5.trans (sU.trans (sB.trans sW)))
    have hy' : Paired (RowV (upd (upd (upd H5 U (.tup [])) B (.tup [.str l.1, .str z, .ref U])) W (.tup [.ref B]))) ys pre := Paired.mapP hys fun x r z => RowV.keep z s15
    have hB : RowV (upd (upd (upd H5 U (.tup [])) B (.tup [.str l.1, .str z, .ref U])) W (.tup [.ref B])) (.ref B) (l.1, z, []) := ⟨B, U, rfl, sW _ _ upd_same, sW _ _ (sB _ _ upd_same)⟩
    refine ⟨B1, W, ys, [.ref B], rfl, rfl, SqT.of (sW _ _ (sB _ _ (sU _ _ (s5 _ _ upd_same)))), SqT.of upd_same, ?_, fun e => ?_, fun _ e => (by cases e), fun _ _ BA nBA => ?_⟩
    · rw [List.length_singleton]
      exact Nat.le_of_lt (small1000 (by omega))
    · subst e
      have : pre = [] := by
        cases pre with
        | nil => rfl
        | cons _ _ => cases ly
      subst this
      exact rest _ _ ⟨W, z, nz, rfl, s15, [.ref B], upd_same, .cons hB .nil⟩
    · have sA := same_new (o := .tup (ys ++ [.ref B])) nBA
      exact rest _ _ ⟨BA, z, nz, rfl, s15.trans sA, ys ++ [.ref B], upd_same, paired_snoc (Paired.mapP hy' fun x r z => RowV.keep z sA) (hB.keep sA)⟩
  rintro σ G7 ⟨BA, z, nz, rfl, s7, eB⟩
  replace D3 := D3.keep s7
  replace T3 := T3.ext s7
  replace b3 := b3.trans (.same s7)
  replace ek3 : StT G7 kA ks := s7 _ _ ek3
  have exs7 := s7 _ _ exs
  clear s7 exs hp hys hbL hfL
  -- refused
  refine ⟨T3, fun H8 x8 T8 => ?_⟩
  have D8 := deal_ext D3 x8
  have b8 := b3.trans (.ext x8)
  have ek8 := st_ext ek3 x8
  have eB8 := rows_ext eB x8
  have exs8 := x8 _ _ exs7 fun _ z => by cases z
  refine ⟨.ref kA, rfl, .ref BA, rfl, fun x dx nx nd ne => ?_⟩
  have s0 := mk_base (C := C) nx nd
  refine ⟨x, dx, kA, BA, ks, pre, some (l.1, z, []), rfl, upd_same, s0 _ _ ek8, eB8.keep s0, gk, g.bent nz, fun h => (by cases h), fun _ d H9 s9 ed => ?_, fun h => (by cases h)⟩
  refine ⟨true, xC, fun _ => .inr ⟨d, pre.length, rfl, rfl, ed, by omega, fun M H10 s10 eM => ?_⟩, fun h => (by cases h)⟩
  have sA := s0.trans (s9.trans s10)
  have exA := sA _ _ exs8
  have i7 : pre.length < 7 := by omega
  have sb := sb_int7 ⟨pre.length, i7⟩
  have e1 : (((ys ++ [V.ref bL]).length : Nat) : Int) - 1 = ((pre.length : Nat) : Int) := by
    rw [List.length_append, List.length_singleton]
    omega
  refine ⟨.ref rA, rfl, rA, _, rfl, .inr (SqT.of exA), _, _, rfl, rfl, ?_⟩
  refine ⟨.int (pre.length : Nat), .int (pre.length : Nat), congrArg (fun i => [V.int i]) e1, .int _, sb.1, rfl, (by rw [PyData.depth]; decide), Nat.le_trans sb.2 (by decide), (by show 2 ≤ sizeLine; decide), fun N nN => ?_⟩
  have sN := same_new (H := H10) (o := .lst [.str "InvalidConstructors", .str (PyData.int (pre.length : Nat)).shown]) nN
  refine ⟨dLs [Str.ofString "InvalidConstructors", (PyData.int (pre.length : Nat)).shown], dLs [Str.ofString "InvalidConstructors", (PyData.int (pre.length : Nat)).shown], .lst (SqL.of (sN _ _ eM)) (dp_strs [Str.ofString "InvalidConstructors", (PyData.int (pre.length : Nat)).shown]), .lst (SqL.of upd_same) (dp_strs [Str.ofString "InvalidConstructors", (PyData.int (pre.length : Nat)).shown]), sh_IC i7, sh_IC i7, _, rfl, ?_⟩
  rw [eqv_ls, decide_eq_true rfl]
  have sE := sA.trans sN
  exact iteF ⟨_, _, _, _, _, _, rfl, D8.keep sE, T8.ext sE, b8.trans (.same sE)⟩
end
end Ks
set_option Elab.async false
set_option linter.all false
set_option maxRecDepth 100000
set_option maxHeartbeats 4000000
namespace Ks
open PySem PySem.Spec PyProof.Rows L2 Gd Kx LamX
abbrev sLw : Stmt := Kx.topS 38
theorem scLw : FnScope ["_law_cells", "_law_k"] ["_law_cells"] (defScope sLw) := ⟨rfl, rfl, rfl, by decide +kernel, rfl, by decide +kernel, by decide +kernel⟩
theorem seq_ext {K : PySem.W.Frag} {a : Addr} {H H' : Hp} {xs : List V} (h : SqL K H a xs) (e : ExtN H H') : SqL K H' a xs := by
  rcases h with (h | ⟨o, h⟩) | h
  · exact .inl (.inl (e _ _ h fun _ z => by cases z))
  · exact .inl (.inr ⟨o, e _ _ h fun _ z => by cases z⟩)
  · exact .inr h
theorem tabs_upd {T : List (Addr × Str)} {H : Hp} {D : Addr} {xs : List V} {o : HO} (t : Tabs T H) (e : H D = some (.lst xs)) : Tabs T (upd H D o) := by
  intro x hx
  obtain ⟨ps, e1, e2, e3⟩ := t x hx
  refine ⟨ps, ?_, e2, fun pos cv h => ?_⟩
  · rw [upd_ne (fun z => by rw [z, e] at e1; cases e1)]
    exact e1
  · obtain ⟨c, ec, e4⟩ := e3 pos cv h
    refine ⟨c, ec, ?_⟩
    rw [upd_ne (fun z => by rw [z, e] at e4; cases e4)]
    exact e4
section
variable {P : Program} {w : World} {K : PySem.W.Frag} {mg : Str → Option Value} {base : Heap}
def spLaw (K : PySem.W.Frag) (T : List (Addr × Str)) : Sp := fun vs H Q _ => ∃ (a : Addr) (ns : List Int), vs = [.ref a] ∧ SqL K H a (ns.map V.int) ∧ ns.length ≤ 63 ∧ Tabs T H ∧ ∀ H', Q (.bl true) H'
theorem ok_law {f fn fe fr : Addr} {fd fdn fde fdr : FuncData} {T : List (Addr × Str)} (F : Fun K "law" "law" sLw f fd) (ml : mg "len" = none) (mr : mg "range" = none) (ma : mg "all" = none) (mx : mg "max" = none) (mn : mg "min" = none)
    (GN : FnOk P w K mg base CX0 1 fn fdn ["_law_cells", "_law_k"] (spNum K)) (kn : PySem.W.keepIn K (.ref fn) = true) (bN : Binds K fdn ["_law_cells", "_law_k"] []) (gN : mg "_law_number" = some (.ref fn))
    (GE : FnOk P w K mg base CX0 1 fe fde ["_law_number_here"] spDeal) (ke : PySem.W.keepIn K (.ref fe) = true) (bE : Binds K fde ["_law_number_here"] []) (gE : mg "_law_deal" = some (.ref fe))
    (GR : Pr P w K mg base CX0 8 fr fdr ["_law_deal_here"] (spRgt T)) (kr : PySem.W.keepIn K (.ref fr) = true) (bR : Binds K fdr ["_law_deal_here"] []) (gR : mg "_law_right" = some (.ref fr)) :
    Pr P w K mg base CX0 9 f fd ["_law_cells"] (spLaw K T) := by
  refine okG F scLw (fun vs H Q E h => ?_) (fun cv A ou s H vs Q E hG hr h => ?_)
  · obtain ⟨a, ns, rfl, _⟩ := h
    rfl
  obtain ⟨a, ns, rfl, hS, hl, hT, k⟩ := h
  have hr1 : Room 1 (A.deeper (envOfC "law" (defScope sLw) s.heap.objs.size f cv)) := hr.mono (by decide)
  refine ⟨_, pss_one (ps_ret (pe_callB (cr_all rfl) (by rfl) ma boot_all (pa_cons (pe_lc (own := [("_law_k", 1)]) (g := gName 1) (tt := tYes) rfl scLw.nd
      (pi_range1 rfl mr (pa_cons (pe_callB (call_max2 rfl) (by rfl) mx boot_max (pa_cons pe_int (pa_cons (pe_callB (call_min2 rfl) (by rfl) mn boot_min (pa_cons (pe_callB call_len_seq (by rfl) ml PySem.boot_len (pa_cons (pv 0) pa_nil)) (pa_cons pe_int pa_nil))) pa_nil))) pa_nil))
      (blkOk_by (own := [("_law_k", 1)]) (N := ["_law_cells", "_law_k"]) (sc := defScope sLw) (by decide +kernel))
      (fun _ _ _ _ _ => pg_name (i := 1) scLw.nd rfl (Or.inl rfl)) (fun _ _ _ _ _ => pts_nil)
      (fun _ _ _ _ _ => pe_callG GR hG hr (by rfl) gR kr bR .nil pass0 (pa_cons (pe_call GE hr1 (by rfl) gE ke bE .nil pass0 (pa_cons (pe_call GN hr1 (by rfl) gN kn bN .nil pass0 (pa_cons (pv 0) (pa_cons (pv 1) pa_nil))) pa_nil)) pa_nil))) pa_nil))), ?_⟩
  refine ⟨.ref a, rfl, a, ns.map V.int, rfl, .inl hS, _, _, rfl, _, _, rfl, _, rfl, ?_, ?_, fun D nD => ?_⟩
  · split <;> split <;> omega
  · rw [List.length_map]
    split <;> split <;> omega
  refine lc_rangeY (fun i H4 => ExtN H H4 ∧ Tabs T H4 ∧ H4 D = some (.lst ((List.replicate i true).map V.bl)) ∧ i ≤ 63) (fun _ => rfl) ⟨.of (same_new nD), hT.ext (same_new nD), upd_same, by omega⟩ ?_ ?_
  · rintro i H4 hi ⟨s4, T4, e4, _⟩
    have hi5 : i < 63 := by
      rw [List.length_map] at hi
      split at hi <;> (first | (split at hi <;> omega) | omega)
    refine ⟨.ref a, rfl, .int (0 + (i : Int)), rfl, a, ns, i, ?_, seq_ext hS s4, hl, fun z H5 s5 => ?_⟩
    · rw [Int.zero_add]
      rfl
    refine ⟨z, rfl, fun p H6 s6 np D6 => ?_⟩
    have e6 := s6 _ _ (s5 _ _ e4)
    have nDp : D ≠ p := fun e => by rw [← e, s5 _ _ e4] at np; cases np
    refine ⟨p, rfl, D6, (T4.ext s5).ext s6, fun H7 b7 T7 => ?_⟩
    have e7 := b7 D _ nDp (fun _ z => by cases z) e6
    refine ⟨_, e7, ?_, ?_, tabs_upd T7 e7, ?_, by omega⟩
    · rw [List.length_map, List.length_replicate]
      exact small1000 (by omega)
    · intro b o e t
      have e5 := s5 b o (s4 b o e t)
      have nb : b ≠ p := fun q => by rw [← q, e5] at np; cases np
      rw [upd_ne (ne_of_none e nD)]
      exact b7 b o nb t (s6 b o e5)
    · rw [upd_same, List.replicate_succ', List.map_append]
      rfl
  · rintro H4 ⟨s4, T4, e4, _⟩
    refine ⟨D, _, rfl, SqL.of e4, ?_⟩
    have : (List.replicate (((if (if (5 : Int) < ((ns.map V.int).length : Int) then (5 : Int) else ((ns.map V.int).length : Int)) > 2 then (if (5 : Int) < ((ns.map V.int).length : Int) then (5 : Int) else ((ns.map V.int).length : Int)) else 2) : Int).toNat) true).all id = true := by
      rw [List.all_eq_true]
      intro x hx
      rw [(List.mem_replicate.mp hx).2]
      rfl
    rw [this]
    exact k _
end
end Ks
set_option Elab.async false
set_option linter.all false
set_option maxRecDepth 100000
set_option maxHeartbeats 4000000
namespace Ks
open PySem PySem.Spec PyProof.Rows L2 Gd Kx
/-! ### what the top has written, as Bools -/
def glos : List Str := ["Schema", "is_name", "_is_one_of", "_check_kinds", "_is_constructor", "_check_constructors", "_check_trees", "_law_number", "_law_deal", "_law_pick", "_law_word", "_law_words", "_law_fresh", "_law_told", "_law_sort", "_law_empty", "_law_drawn", "_law_right", "law", "TreeError", "StateError", "LimitError"]
def frees : List Str := ["isinstance", "str", "tuple", "len", "all", "enumerate", "range", "int", "abs", "repr", "max", "min"]
def lmI : List (Str × Int) := [("MOST_KINDS", 4), ("MOST_CONSTRUCTORS", 6), ("MOST_FIELDS", 3), ("LONGEST_NAME", 8)]
def noat : List Str := ["_kinds", "_constructors", "_names", "_places"]
def props : List Str := ["kinds", "constructors"]
def dIC : Xd := ⟨"InvalidConstructors", 0, "index"⟩
def dEK : Xd := ⟨"EmptyKind", 1, "kind"⟩
def ttt (K : PySem.W.Frag) : List Value := [.ref (He.ga K "TreeError"), .ref (He.ga K "StateError"), .ref (He.ga K "LimitError")]
def excB (K : PySem.W.Frag) : Bool := xdB K dIC && (xdB K dEK && (decide (PySem.W.kitOne K (.ref (He.ga K "EmptyKind")) (.ref (He.ga K "EmptyKind")) = some true) && (decide (PySem.W.kitOne K (.ref (He.ga K "InvalidConstructors")) (.ref (He.ga K "EmptyKind")) = some false) &&
  (decide (PySem.W.kitOne K (.ref (He.ga K "InvalidConstructors")) (.ref (He.ga K "InvalidConstructors")) = some true) && (decide (PySem.W.exmAny K (.ref (He.ga K "EmptyKind")) (ttt K) = some true) && decide (PySem.W.exmAny K (.ref (He.ga K "InvalidConstructors")) (ttt K) = some true))))))
def tab (K : PySem.W.Frag) : Bool := (glos.all fun x => (He.Fa.glo x).ok K) && ((frees.all fun x => (He.Fa.free x).ok K) && ((lmI.all fun x => (He.Fa.int x.1 x.2).ok K) && ((He.Fa.str "LETTERS" lets).ok K && ((He.Fa.str "NAME_SIGNS" signs).ok K &&
  ((He.Fa.cls "Schema").ok K && ((He.Fa.mkr "Schema").ok K && ((noat.all fun x => (He.Fa.noat "Schema" x).ok K) && ((props.all fun x => propB K "Schema" x) && excB K))))))))
def gF (x : Str) (i : Nat) : FnX := ⟨gAd x, x, x, Kx.topS i⟩
def mF (m : Str) (i : Nat) : FnX := ⟨mAd "Schema" m, m, "Schema." ++ m, cS i⟩
def pF (m : Str) (i : Nat) : FnX := ⟨pAd "Schema" m, m, "Schema." ++ m, cS i⟩
def xF (C : Str) (i : Nat) : FnX := ⟨mAd C "__init__", "__init__", C ++ ".__init__", inClass (Kx.topS i) 0⟩
def fn : List FnX := [gF "is_name" 17, gF "_is_one_of" 18, gF "_check_kinds" 19, gF "_is_constructor" 20, gF "_check_constructors" 21, gF "_check_trees" 22, gF "_law_number" 27, gF "_law_deal" 28, gF "_law_pick" 29, gF "_law_word" 30, gF "_law_words" 31, gF "_law_fresh" 32, gF "_law_told" 33, gF "_law_sort" 34, gF "_law_empty" 35, gF "_law_drawn" 36, gF "_law_right" 37, gF "law" 38] ++
  [mF "__init__" 0, pF "kinds" 2, pF "constructors" 3, xF "InvalidConstructors" 8, xF "EmptyKind" 9]
def tf : List He.Defn := [("_law_right", none)]
abbrev R : PySem.W.OpenRow := PySem.W.OpenLaw.row PySem.Challenge.rw_fivetrees_k05_kinds_without_trees
abbrev hk : PySem.W.Hook := hookZ 5 tab fn tf
def ob (s : PySem.W.SharedT) : AlX := obsZG 5 tab fn tf (HandSHeadRun.getT s)
theorem ob_eq (s : PySem.W.SharedT) : ob s = hk.obs s.abs := obsZG_eq (HandSHeadRun.getT_eq s)
end Ks
set_option Elab.async false
set_option linter.all false
set_option maxRecDepth 100000
set_option maxHeartbeats 0
namespace Ks
open PySem PySem.Spec PyProof.Rows L2 Gd Kx
def n1 : List PySem.Str := ["_wall", "TreeError", "StateError", "LimitError", "UnknownConstructor", "InvalidText", "InvalidKinds", "InvalidConstructors", "EmptyKind", "MOST_KINDS", "MOST_CONSTRUCTORS", "MOST_FIELDS", "LETTERS", "NAME_SIGNS", "LONGEST_NAME", "is_name", "_is_one_of", "_check_kinds", "_is_constructor"]
def n2 : List PySem.Str := ["_check_constructors", "_check_trees", "_parts", "schema_of_text", "Schema", "_law_number", "_law_deal", "_law_pick", "_law_word", "_law_words", "_law_fresh", "_law_told", "_law_sort", "_law_empty", "_law_drawn", "_law_right"]
abbrev loose : List PySem.Str := n1 ++ n2
theorem run (w : World) : HandSHeadRun.RunEq R (PySem.W.view R.prog [38]) hk ob 8000 loose w := by
  intro os
  kernel_rfl
end Ks
set_option Elab.async false
set_option linter.all false
set_option maxRecDepth 100000
set_option maxHeartbeats 4000000
namespace Ks
open PySem PySem.Spec PyProof.Rows L2 Gd Kx LamX
section
variable {P : Program} {w : World} {K : PySem.W.Frag} {mg : Str → Option Value} {base : Heap} {h : Heap}
theorem tab1 (c : SaysY tab fn K) {x : Str} (e : x ∈ glos) : (He.Fa.glo x).ok K = true := List.all_eq_true.mp (He.ba c.facts).1 x e
theorem tab2 (c : SaysY tab fn K) {x : Str} (e : x ∈ frees) : (He.Fa.free x).ok K = true := List.all_eq_true.mp (He.ba (He.ba c.facts).2).1 x e
theorem tab3 (c : SaysY tab fn K) {x : Str} {i : Int} (e : (x, i) ∈ lmI) : (He.Fa.int x i).ok K = true := List.all_eq_true.mp (He.ba (He.ba (He.ba c.facts).2).2).1 (x, i) e
theorem tab_r (c : SaysY tab fn K) : ((He.Fa.str "LETTERS" lets).ok K && ((He.Fa.str "NAME_SIGNS" signs).ok K && ((He.Fa.cls "Schema").ok K && ((He.Fa.mkr "Schema").ok K && ((noat.all fun x => (He.Fa.noat "Schema" x).ok K) && ((props.all fun x => propB K "Schema" x) && excB K)))))) = true := (He.ba (He.ba (He.ba c.facts).2).2).2
theorem glo_x (X : K.In h) (G : h.Ns mainGlobals mg) (c : SaysY tab fn K) {x : Str} (e : x ∈ glos) : mg x = some (.ref (He.ga K x)) := He.glo_ok X G (tab1 c e)
theorem free_x (X : K.In h) (G : h.Ns mainGlobals mg) (c : SaysY tab fn K) {x : Str} (e : x ∈ frees) : mg x = none := He.free_ok X G (tab2 c e)
theorem scl_of (c : SaysY tab fn K) : SCl K (He.ga K "Schema") := by
  obtain ⟨_, q⟩ := He.ba (tab_r c)
  obtain ⟨_, q⟩ := He.ba q
  obtain ⟨q1, q⟩ := He.ba q
  obtain ⟨_, q⟩ := He.ba q
  obtain ⟨q2, _⟩ := He.ba q
  have na : ∀ x ∈ noat, NoAttr K (He.ga K "Schema") x := fun x hx => He.noat_ok (List.all_eq_true.mp q2 x hx)
  exact ⟨He.cls_ok q1, na _ (by decide +kernel), na _ (by decide +kernel), na _ (by decide +kernel), na _ (by decide +kernel)⟩
theorem mk_of (c : SaysY tab fn K) : Mk K (He.ga K "Schema") (mAd "Schema" "__init__" K) := by
  obtain ⟨_, q⟩ := He.ba (tab_r c)
  obtain ⟨_, q⟩ := He.ba q
  obtain ⟨_, q⟩ := He.ba q
  exact He.mkr_ok (He.ba q).1
theorem prop_of (c : SaysY tab fn K) {x : Str} (e : x ∈ props) : PropOf K (He.ga K "Schema") x (He.ma K (He.ga K "Schema") x) (pAd "Schema" x K) := by
  obtain ⟨_, q⟩ := He.ba (tab_r c)
  obtain ⟨_, q⟩ := He.ba q
  obtain ⟨_, q⟩ := He.ba q
  obtain ⟨_, q⟩ := He.ba q
  obtain ⟨_, q⟩ := He.ba q
  exact prop_ok (List.all_eq_true.mp (He.ba q).1 x e)
theorem exc_of (c : SaysY tab fn K) : excB K = true := by
  obtain ⟨_, q⟩ := He.ba (tab_r c)
  obtain ⟨_, q⟩ := He.ba q
  obtain ⟨_, q⟩ := He.ba q
  obtain ⟨_, q⟩ := He.ba q
  obtain ⟨_, q⟩ := He.ba q
  exact (He.ba q).2
theorem ts_of (X : K.In h) (G : h.Ns mainGlobals mg) (c : SaysY tab fn K) : TS0 mg where
  isi := free_x X G c (by decide +kernel)
  str := free_x X G c (by decide +kernel)
  tup := free_x X G c (by decide +kernel)
  len := free_x X G c (by decide +kernel)
  all := free_x X G c (by decide +kernel)
  enu := free_x X G c (by decide +kernel)
  rng := free_x X G c (by decide +kernel)
  mki := He.int_ok X G (tab3 c (by decide +kernel))
  mco := He.int_ok X G (tab3 c (by decide +kernel))
  mfi := He.int_ok X G (tab3 c (by decide +kernel))
theorem fun_g (c : SaysY tab fn K) (i : Nat) (x : Str) (j : Nat) (h : fn[i]? = some (gF x j)) : ∃ fd, Fun K x x (Kx.topS j) (He.ga K x) fd := c.fun_ i h
theorem fun_m (c : SaysY tab fn K) (i : Nat) (m q : Str) (j : Nat) (h : fn[i]? = some (mF m j)) (e : ("Schema." : Str) ++ m = q) : ∃ fd, Fun K m q (cS j) (mAd "Schema" m K) fd := by
  subst e
  exact c.fun_ i h
theorem fun_p (c : SaysY tab fn K) (i : Nat) (m q : Str) (j : Nat) (h : fn[i]? = some (pF m j)) (e : ("Schema." : Str) ++ m = q) : ∃ fd, Fun K m q (cS j) (pAd "Schema" m K) fd := by
  subst e
  exact c.fun_ i h
theorem fun_x (c : SaysY tab fn K) (i : Nat) (C : Str) (j : Nat) (h : fn[i]? = some (xF C j)) : ∃ fd, Fun K "__init__" (C ++ ".__init__") (inClass (Kx.topS j) 0) (He.ma K (He.ga K C) "__init__") fd := c.fun_ i h
theorem law_binds {f : Addr} {fd : FuncData} (F : Fun K "law" "law" sLw f fd) (s : Shared) (v : Value) : BindsTo s fd ⟨[v], []⟩ [("_law_cells", v)] := by
  obtain ⟨oc, od, kV, doc, pm, an, cdv, ct, osl, rfl, lk, hcd⟩ := F.ex
  exact .of_eq rfl
/-- the code of a def -/
theorem code_of {x q : Str} {st : Stmt} {fd : FuncData} (F : Fun K x q st (He.ga K x) fd) : fd.code = .ref (He.codeOf K (x, none)) := by
  obtain ⟨oc, od, kV, doc, pm, an, cdv, ct, osl, rfl, lk, hcd⟩ := F.ex
  obtain ⟨c, rfl⟩ := He.codeIn_ref hcd
  have := He.codeOf_eq (K := K) (p := (x, none)) (c := c) lk rfl
  rw [this]
theorem scI : FnScope ["self", "index"] ["self", "index"] (defScope (inClass (Kx.topS 8) 0)) := ⟨rfl, rfl, rfl, by decide +kernel, rfl, by decide +kernel, by decide +kernel⟩
theorem scE : FnScope ["self", "kind"] ["self", "kind"] (defScope (inClass (Kx.topS 9) 0)) := ⟨rfl, rfl, rfl, by decide +kernel, rfl, by decide +kernel, by decide +kernel⟩
theorem facts {l : PySem.W.OpenLaw} {fa : Addr} (X : K.In h) (G : h.Ns mainGlobals mg) (hfa : mg ("law" : Str) = some (.ref fa)) (z : SaysZ tab fn tf h K) : LawT l w K 9 63 "_law_cells" mg fa h := by
  have c := z.y
  have e := hfa.symm.trans (glo_x X G c (x := "law") (by decide +kernel))
  cases e
  obtain ⟨d0, F0⟩ := fun_g c 0 "is_name" 17 (by rfl)
  obtain ⟨d1, F1⟩ := fun_g c 1 "_is_one_of" 18 (by rfl)
  obtain ⟨d2, F2⟩ := fun_g c 2 "_check_kinds" 19 (by rfl)
  obtain ⟨d3, F3⟩ := fun_g c 3 "_is_constructor" 20 (by rfl)
  obtain ⟨d4, F4⟩ := fun_g c 4 "_check_constructors" 21 (by rfl)
  obtain ⟨d5, F5⟩ := fun_g c 5 "_check_trees" 22 (by rfl)
  obtain ⟨d6, F6⟩ := fun_g c 6 "_law_number" 27 (by rfl)
  obtain ⟨d7, F7⟩ := fun_g c 7 "_law_deal" 28 (by rfl)
  obtain ⟨d8, F8⟩ := fun_g c 8 "_law_pick" 29 (by rfl)
  obtain ⟨d9, F9⟩ := fun_g c 9 "_law_word" 30 (by rfl)
  obtain ⟨d10, F10⟩ := fun_g c 10 "_law_words" 31 (by rfl)
  obtain ⟨d11, F11⟩ := fun_g c 11 "_law_fresh" 32 (by rfl)
  obtain ⟨d12, F12⟩ := fun_g c 12 "_law_told" 33 (by rfl)
  obtain ⟨d13, F13⟩ := fun_g c 13 "_law_sort" 34 (by rfl)
  obtain ⟨d14, F14⟩ := fun_g c 14 "_law_empty" 35 (by rfl)
  obtain ⟨d15, F15⟩ := fun_g c 15 "_law_drawn" 36 (by rfl)
  obtain ⟨d16, F16⟩ := fun_g c 16 "_law_right" 37 (by rfl)
  obtain ⟨d17, F17⟩ := fun_g c 17 "law" 38 (by rfl)
  obtain ⟨e0, M0⟩ := fun_m c 18 "__init__" "Schema.__init__" 0 (by rfl) (by decide +kernel)
  obtain ⟨e2, M2⟩ := fun_p c 19 "kinds" "Schema.kinds" 2 (by rfl) (by decide +kernel)
  obtain ⟨e3, M3⟩ := fun_p c 20 "constructors" "Schema.constructors" 3 (by rfl) (by decide +kernel)
  obtain ⟨x1, N1⟩ := fun_x c 21 "InvalidConstructors" 8 (by rfl)
  obtain ⟨x2, N2⟩ := fun_x c 22 "EmptyKind" 9 (by rfl)
  have b0 : Binds K d0 ["value"] [] := F0.binds fun _ _ _ _ _ _ us hl => match us, hl with | [_], _ => rfl
  have b1 : Binds K d1 ["value", "names"] [] := F1.binds fun _ _ _ _ _ _ us hl => match us, hl with | [_, _], _ => rfl
  have b2 : Binds K d2 ["kinds"] [] := F2.binds fun _ _ _ _ _ _ us hl => match us, hl with | [_], _ => rfl
  have b3 : Binds K d3 ["value", "kinds"] [] := F3.binds fun _ _ _ _ _ _ us hl => match us, hl with | [_, _], _ => rfl
  have b4 : Binds K d4 ["constructors", "kinds"] [] := F4.binds fun _ _ _ _ _ _ us hl => match us, hl with | [_, _], _ => rfl
  have b5 : Binds K d5 ["kinds", "constructors"] [] := F5.binds fun _ _ _ _ _ _ us hl => match us, hl with | [_, _], _ => rfl
  have b6 : Binds K d6 ["_law_cells", "_law_k"] [] := F6.binds fun _ _ _ _ _ _ us hl => match us, hl with | [_, _], _ => rfl
  have b7 : Binds K d7 ["_law_number_here"] [] := F7.binds fun _ _ _ _ _ _ us hl => match us, hl with | [_], _ => rfl
  have b8 : Binds K d8 ["_law_deal_here", "_law_many"] [] := F8.binds fun _ _ _ _ _ _ us hl => match us, hl with | [_, _], _ => rfl
  have b9 : Binds K d9 ["_law_deal_here", "_law_taken"] [] := F9.binds fun _ _ _ _ _ _ us hl => match us, hl with | [_, _], _ => rfl
  have b10 : Binds K d10 ["_law_deal_here", "_law_many"] [] := F10.binds fun _ _ _ _ _ _ us hl => match us, hl with | [_, _], _ => rfl
  have b11 : Binds K d11 ["_law_taken"] [] := F11.binds fun _ _ _ _ _ _ us hl => match us, hl with | [_], _ => rfl
  have b12 : Binds K d12 ["_law_act"] [] := F12.binds fun _ _ _ _ _ _ us hl => match us, hl with | [_], _ => rfl
  have b13 : Binds K d13 ["_law_e"] [] := F13.binds fun _ _ _ _ _ _ us hl => match us, hl with | [_], _ => rfl
  have b14 : Binds K d14 ["_law_kinds", "_law_rows"] [] := F14.binds fun _ _ _ _ _ _ us hl => match us, hl with | [_, _], _ => rfl
  have b15 : Binds K d15 ["_law_deal_here"] [] := F15.binds fun _ _ _ _ _ _ us hl => match us, hl with | [_], _ => rfl
  have b16 : Binds K d16 ["_law_deal_here"] [] := F16.binds fun _ _ _ _ _ _ us hl => match us, hl with | [_], _ => rfl
  have m0 : Binds K e0 ["self", "kinds", "constructors"] [] := M0.binds fun _ _ _ _ _ _ us hl => match us, hl with | [_, _, _], _ => rfl
  have m2 : Binds K e2 ["self"] [] := M2.binds fun _ _ _ _ _ _ us hl => match us, hl with | [_], _ => rfl
  have m3 : Binds K e3 ["self"] [] := M3.binds fun _ _ _ _ _ _ us hl => match us, hl with | [_], _ => rfl
  have g0 := glo_x X G c (x := "is_name") (by decide +kernel)
  have g1 := glo_x X G c (x := "_is_one_of") (by decide +kernel)
  have g2 := glo_x X G c (x := "_check_kinds") (by decide +kernel)
  have g3 := glo_x X G c (x := "_is_constructor") (by decide +kernel)
  have g4 := glo_x X G c (x := "_check_constructors") (by decide +kernel)
  have g5 := glo_x X G c (x := "_check_trees") (by decide +kernel)
  have g6 := glo_x X G c (x := "_law_number") (by decide +kernel)
  have g7 := glo_x X G c (x := "_law_deal") (by decide +kernel)
  have g8 := glo_x X G c (x := "_law_pick") (by decide +kernel)
  have g9 := glo_x X G c (x := "_law_word") (by decide +kernel)
  have g10 := glo_x X G c (x := "_law_words") (by decide +kernel)
  have g11 := glo_x X G c (x := "_law_fresh") (by decide +kernel)
  have g12 := glo_x X G c (x := "_law_told") (by decide +kernel)
  have g13 := glo_x X G c (x := "_law_sort") (by decide +kernel)
  have g14 := glo_x X G c (x := "_law_empty") (by decide +kernel)
  have g15 := glo_x X G c (x := "_law_drawn") (by decide +kernel)
  have g16 := glo_x X G c (x := "_law_right") (by decide +kernel)
  have gC := glo_x X G c (x := "Schema") (by decide +kernel)
  have gT := glo_x X G c (x := "TreeError") (by decide +kernel)
  have gS := glo_x X G c (x := "StateError") (by decide +kernel)
  have gL := glo_x X G c (x := "LimitError") (by decide +kernel)
  have T : TS0 mg := ts_of X G c
  have nint : mg "int" = none := free_x X G c (by decide +kernel)
  have nabs : mg "abs" = none := free_x X G c (by decide +kernel)
  have nrep : mg "repr" = none := free_x X G c (by decide +kernel)
  have nmax : mg "max" = none := free_x X G c (by decide +kernel)
  have nmin : mg "min" = none := free_x X G c (by decide +kernel)
  have TI : TI0 mg := ⟨T.isi, T.str, T.len, T.all, He.str_ok X G (He.ba (tab_r c)).1, He.str_ok X G (He.ba (He.ba (tab_r c)).2).1, He.int_ok X G (tab3 c (by decide +kernel))⟩
  have TW : TW0 mg := ⟨T.len, T.str, T.rng⟩
  have Z := scl_of c
  obtain ⟨qI, q⟩ := He.ba (exc_of c)
  obtain ⟨qE, q⟩ := He.ba q
  obtain ⟨kEE, q⟩ := He.ba q
  obtain ⟨kCE, q⟩ := He.ba q
  obtain ⟨kCC, q⟩ := He.ba q
  obtain ⟨xE, xC⟩ := He.ba q
  have xmE := of_decide_eq_true xE
  have xmC := of_decide_eq_true xC
  have gIC : mg "InvalidConstructors" = some (.ref (He.ga K "InvalidConstructors")) := He.glo_ok X G (xd_glo qI)
  have gEK : mg "EmptyKind" = some (.ref (He.ga K "EmptyKind")) := He.glo_ok X G (xd_glo qE)
  refine ⟨d17, [He.cT K ("_law_right", none)], spLaw K [((He.cT K ("_law_right", none)).2, qLam)], fun p hp => ?_, fun p hp => ?_, fun p hp => ?_, fun s v => law_binds F17 s v, fun H a ns hl hT hS => ?_, fun base KB GB hTB => ?_⟩
  · rw [List.mem_singleton.mp hp]
    exact z.emp _ (List.mem_singleton.mpr rfl)
  · rw [List.mem_singleton.mp hp]
    exact z.out _ (List.mem_singleton.mpr rfl)
  · rw [List.mem_singleton.mp hp]
    exact PySem.W.codeHd_of_K X (z.hd _ (List.mem_singleton.mpr rfl))
  · refine ⟨a, ns, rfl, hS, hl, fun x hx => ?_, fun _ => rfl⟩
    rw [List.mem_singleton.mp hx]
    exact TabS.nil (hT _ (List.mem_singleton.mpr rfl))
  have TB : TabB base mg (He.codeOf K ("_law_right", none)) (He.cT K ("_law_right", none)).2 := hTB _ (List.mem_singleton.mpr rfl)
  have O1 : One l.prog w K mg base "InvalidConstructors" "index" (He.ga K "InvalidConstructors") := xd_one X G qI N1 scI rfl rfl rfl (fun _ => rfl) (fun _ _ _ _ _ _ us hl => match us, hl with | [_, _], _ => rfl) (fun _ _ _ _ _ _ _ _ => rfl)
  have O2 : One l.prog w K mg base "EmptyKind" "kind" (He.ga K "EmptyKind") := xd_one X G qE N2 scE rfl rfl rfl (fun _ => rfl) (fun _ _ _ _ _ _ us hl => match us, hl with | [_, _], _ => rfl) (fun _ _ _ _ _ _ _ _ => rfl)
  have GI : FnOk l.prog w K mg base CX0 1 _ d0 ["value"] (spIs K) := ok_is F0 TI
  have GO : FnOk l.prog w K mg base CX0 1 _ d1 ["value", "names"] (spOne K) := ok_one F1 T
  have GK : FnOk l.prog w K mg base CX0 2 _ d2 ["kinds"] spCk := ok_ck F2 T GI F0.kp b0 g0
  have GJ : FnOk l.prog w K mg base CX0 2 _ d3 ["value", "kinds"] spIsD := ok_isD F3 T GI F0.kp b0 g0 GO F1.kp b1 g1
  have GCc := ok_cd (C := He.ga K "InvalidConstructors") F4 T GJ F3.kp b3 g3 O1 (xd_ty qI)
  have GCt := ok_ctX (C := He.ga K "EmptyKind") F5 T O2 (xd_ty qE)
  have GN : FnOk l.prog w K mg base CX0 1 _ d6 ["_law_cells", "_law_k"] (spNum K) := ok_num F6 T.len nint
  have GE : FnOk l.prog w K mg base CX0 1 _ d7 ["_law_number_here"] spDeal := ok_deal F7 nabs nint
  have GP : FnOk l.prog w K mg base CX0 1 _ d8 ["_law_deal_here", "_law_many"] spPick := ok_pick F8 nint
  have GW : FnOk l.prog w K mg base CX0 2 _ d9 ["_law_deal_here", "_law_taken"] spWord := ok_word F9 TW GP F8.kp b8 g8
  have GWs : FnOk l.prog w K mg base CX0 3 _ d10 ["_law_deal_here", "_law_many"] spWds := ok_wds F10 T.rng GW F9.kp b9 g9
  have GF : FnOk l.prog w K mg base CX0 1 _ d11 ["_law_taken"] spFr := ok_fr F11 T.str T.rng
  have GEm : FnOk l.prog w K mg base CX0 1 _ d14 ["_law_kinds", "_law_rows"] spEmp := ok_emp F14 T
  have GD : FnOk l.prog w K mg base CX0 4 _ d15 ["_law_deal_here"] spDr := ok_dr F15 T.rng T.tup GP F8.kp b8 g8 GWs F10.kp b10 g10
  have Gini := ok_iniX (C := He.ga K "Schema") (CC := He.ga K "InvalidConstructors") (CE := He.ga K "EmptyKind") M0 T Z GK F2.kp b2 g2 GCc F4.kp b4 g4 GCt F5.kp b5 g5
  have GSr : FnE l.prog w K mg base 1 _ d13 "_law_e" (spSrt (He.ga K "InvalidConstructors") (He.ga K "EmptyKind")) := ok_srt F13 T.isi nrep gEK gIC (xd_xc qE) (xd_xc qI) (xd_no qE) (xd_no qI) (of_decide_eq_true kEE) (of_decide_eq_true kCE) (of_decide_eq_true kCC)
  have S : SQ l.prog w K mg base (He.ga K "Schema") (He.ga K "InvalidConstructors") (He.ga K "EmptyKind") := ⟨Z, gC, ⟨_, _, mk_of c, Gini, m0⟩, ⟨_, _, _, prop_of c (x := "kinds") (by decide +kernel), ok_gk M2 Z, m2⟩, ⟨_, _, _, prop_of c (x := "constructors") (by decide +kernel), ok_gc M3 Z, m3⟩⟩
  have ER' : ER K mg (He.ga K "InvalidConstructors") (He.ga K "EmptyKind") := ⟨_, _, _, gT, gS, gL, xmE, xmC⟩
  have GR := ok_rgt F16 (code_of F16) TB T nrep S ER' GD F15.kp b15 g15 GEm F14.kp b14 g14 GF F11.kp b11 g11 F12 b12 g12 GSr F13.kp b13 g13
  exact ok_law F17 T.len T.rng T.all nmax nmin GN F6.kp b6 g6 GE F7.kp b7 g7 GR F16.kp b16 g16
end
end Ks
set_option Elab.async false
set_option linter.all false
set_option maxRecDepth 100000
set_option maxHeartbeats 4000000
open PySem PySem.W PySem.Calls PyProof.Rows
set_option maxHeartbeats 0 in
theorem PySem.Challenge.cw_fivetrees_k05_kinds_without_trees_holds : PySem.Challenge.rw_fivetrees_k05_kinds_without_trees.Holds := by
  w_on; o_law
  refine HandSHeadRun.head_any (r := OpenLaw.row PySem.Challenge.rw_fivetrees_k05_kinds_without_trees) (q := view (OpenLaw.row PySem.Challenge.rw_fivetrees_k05_kinds_without_trees).prog [38]) (H := Ks.hk) (ob := Ks.ob) (M := 8000) (loose := Ks.loose)
    (d := HandSHeadRun.topDef (OpenLaw.row PySem.Challenge.rw_fivetrees_k05_kinds_without_trees).prog 38) (kwd := []) Ks.ob_eq (by kernel_rfl) (fun s => by kernel_rfl) Ks.run (by kernel_rfl) (by kernel_rfl) (by kernel_rfl) (by rfl)
    (by first | assumption | decide +kernel) (by decide +kernel) ⟨rfl, rfl, rfl, rfl, rfl, by decide +kernel⟩ ?hw ?hc
  case hw => w_witness2
  case hc =>
    refine Gd.walk_goT (l := PySem.Challenge.rw_fivetrees_k05_kinds_without_trees) (n := 63) (k := 9) (x := "_law_cells") rfl (by decide) (by kernel_rfl) ⟨rfl, by decide, by decide⟩ ?F
    intro w mg fa h Y G hmg0
    obtain ⟨K, KX, c⟩ := Y
    have hmg : mg ("law" : PySem.Str) = some (.ref fa) := by
      have e : (HandSHeadRun.topDef (OpenLaw.row PySem.Challenge.rw_fivetrees_k05_kinds_without_trees).prog 38).name = ("law" : PySem.Str) := by kernel_rfl
      rw [← e]
      exact hmg0
    exact ⟨K, KX, Ks.facts (l := PySem.Challenge.rw_fivetrees_k05_kinds_without_trees) KX G hmg c⟩
