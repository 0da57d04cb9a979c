import PyProof.Rows.All
import Wide.All
import OpenK.AllK
import Wide.FinOn
import HandS.ForMost
import HandS.IsInst
import HandS.Head0
import HandS.Head1
import HandS.Head2
import HandS.HeadHook1
import KE.KExcInit
import HandS.ExcInit
import KE.KExcIs
import HandS.ExcValue
import HandS.HeadEnd
import PySem.Challenge.RW_fivetrees_k22_errors_and_limits
set_option Elab.async false
set_option linter.all false
set_option maxRecDepth 100000
set_option maxHeartbeats 4000000
/-! Promises of defs that are called while no repr is under way; repr of lists and tuples; a law's end over them. -/
namespace Gd
open PySem PySem.Spec PyProof.Rows L2

/-- as FnOk, for calls at which no repr is under way -/
structure Pr (P : Program) (w : World) (K : PySem.W.Frag) (mg : Str → Option Value) (base : Heap) (CX : CXT) (k : Nat) (f : Addr) (fd : FuncData) (ps : List Str) (sp : Sp) : Prop where
  size : ∀ us H Q E, sp us H Q E → us.length = ps.length
  go : ∀ (A : Around) (ou : List Env) (s : Shared) (H : Hp) (gs : Args) (us : List Value) (vs : List V) (Q : VK) (E : XK), A.guards = some [] → Room k A →
    Env0 P w K mg base A ou s H → BindsTo s fd gs (ps.zip us) → Vals vs us → sp vs H Q E → codeAny (model P w) A (.call (.ref f) gs) (CR CX ou P w H s Q E) s
theorem Pr.of {P : Program} {w : World} {K : PySem.W.Frag} {mg : Str → Option Value} {base : Heap} {CX : CXT} {k : Nat} {f : Addr} {fd : FuncData} {ps : List Str} {sp : Sp} (F : FnOk P w K mg base CX k f fd ps sp) : Pr P w K mg base CX k f fd ps sp :=
  ⟨F.len, fun A ou s H gs us vs Q E _ => F.run A ou s H gs us vs Q E⟩

theorem pr_of {CX : CXT} {P : Program} {w : World} {K : PySem.W.Frag} {mg : Str → Option Value} {base : Heap} {k : Nat} {f : Addr} {nm qn : Str} {pa : Arguments} {bd : List Stmt} {sc : Scope} {dV kV dc pm cv ct oc : Value} {an od : Option Addr}
    {osl : Array (Option Value)} {N ps : List Str} {sp : Sp} (lk : K.lookup f = some ⟨oc, od, .func (PySem.W.fnOf nm qn pa bd sc dV kV dc pm an cv ct), osl⟩) (hc : PySem.W.codeIn K cv qn = true) (S : FnScope N ps sc)
    (hl : ∀ us H Q E, sp us H Q E → us.length = ps.length)
    (hb : ∀ (A : Around) (ou : List Env) (s : Shared) (H : Hp) (vs : List V) (Q : VK) (E : XK), A.guards = some [] → Room k (A.deeper (envOfC qn sc s.heap.objs.size f cv)) → sp vs H Q E →
      ∃ t, PSs (cxOf CX P w K mg base N qn sc f cv A ou s H E) bd t ∧ t { nx := fun _ H' => Q .non H', rt := Q } (start N vs) H) :
    Pr P w K mg base CX (k + 1) f (PySem.W.fnOf nm qn pa bd sc dV kV dc pm an cv ct) ps sp := by
  constructor
  · exact hl
  intro A ou s H gs us vs Q E hG hR e0 hB hV hS
  have n1 := hl vs H Q E hS
  have inK : K.In s.heap := e0.mod.kin.keeps (fun b o e => (e0.bs b o e).left)
  have noL : s.heap.NoLimit := e0.mod.nolimit.keeps (fun b o e => (e0.bs b o e).left)
  have kinds : ∀ y ∈ ps.zip us, sc.names.lookup y.1 = some .local ∨ (sc.names.lookup y.1 = some .cell ∧ ((cellsFrom (s.heap.objs.size + 1) sc.names []).lookup y.1).isSome = true) := by
    rintro ⟨n, v⟩ hy
    cases S.par n (List.of_mem_zip hy).1 with
    | inl q => exact .inl q
    | inr q => exact .inr ⟨q, PySem.W.cellsFrom_some _ _ _ (.inl q)⟩
  refine codeAny_call_function hR.depth (inK _ _ lk) rfl S.co S.gen rfl (PySem.W.codeRec_of inK hc) (hB _ _ _ _ ?_)
  refine wpAny_newFunctionEnv_cells S.kind kinds fun ev he s2 y => ?_
  subst he
  refine ⟨noL.keeps y.toInCall.keep, codeAny_func ?_⟩
  obtain ⟨t, ht, hq⟩ := hb A ou s H vs Q E hG (hR.deeper _) hS
  have J0 : Inv (cxOf CX P w K mg base N qn sc f cv A ou s H E) [] (start N vs) H s2 := inv_start S hR.hd e0 n1 hV y
  refine wpAny_mono (ht.run [] s2 (start N vs) H _ J0 hq) (fun fl s3 h3 => ?_) fun _ _ z => z
  have fin : ∀ {τ : L2.St} {H' : Hp} {v : V} {u : Value}, Inv (cxOf CX P w K mg base N qn sc f cv A ou s H E) [] τ H' s3 → RelV v u → Q v H' → CE ou P w H s Q u s3 := by
    intro τ H' v u J rv q
    exact ⟨v, H', J.os, J.bare, J.base, J.hok, rv, q⟩
  match fl, h3 with
  | .ret u, ⟨v, τ, H', J, rv, q⟩ => exact fin J rv q
  | .next, ⟨τ, H', J, q⟩ => exact fin (v := V.non) (u := Value.none) J rfl q
  | .brk, ⟨_, _, _, q⟩ => exact False.elim q
  | .cont, ⟨_, _, _, q⟩ => exact False.elim q

section
variable {P : Program} {w : World} {K : PySem.W.Frag} {mg : Str → Option Value} {base : Heap}
/-- a def of the text, by its body -/
theorem okG {x qn : Str} {st : Stmt} {f : Addr} {fd : FuncData} {N ps : List Str} {k : Nat} {sp : Sp} (F : Fun K x qn st f fd) (S : FnScope N ps (defScope st)) (hl : ∀ us H Q E, sp us H Q E → us.length = ps.length)
    (hb : ∀ (cv : Value) (A : Around) (ou : List Env) (s : Shared) (H : Hp) (vs : List V) (Q : VK) (E : XK), A.guards = some [] → Room k (A.deeper (envOfC qn (defScope st) s.heap.objs.size f cv)) → sp vs H Q E →
      ∃ t, PSs (cxOf CX0 P w K mg base N qn (defScope st) f cv A ou s H E).nox (defBody st) t ∧ t { nx := fun _ H' => Q .non H', rt := Q } (start N vs) H) : Pr P w K mg base CX0 (k + 1) f fd ps sp := by
  obtain ⟨oc, od, kV, dc, pm, an, cv, ct, osl, rfl, lk, hc⟩ := F.ex
  refine pr_of lk hc S hl fun A ou s H vs Q E hG hR hS => ?_
  obtain ⟨t, h, q⟩ := hb cv A ou s H vs Q E hG hR hS
  exact ⟨t, h.nox, q⟩
end

section
variable {X : Cx} {CX : CXT} {k : Nat} {f C : Addr} {fd : FuncData} {ps ks : List Str} {sp : Sp} {dvs : List V} {ds : List Value} {E : XK} {x m : Str} {p pos apos : Pos} {e o : Expr} {es : List Expr} {kws : List Keyword} {ta : TE} {t tk : TA}
  {g : List Value → List Value → List Value} {gV : List V → List V → List V}
theorem run_pr {pins : List (Addr × Obj)} {σ : L2.St} {H : Hp} {s : Shared} {Q : VK} {us : List Value} {kw : List (Str × Value)} {ws : List Value} {zs : List V} (F : Pr X.prog X.w X.K X.mg X.base CX k f fd ps sp) (hG : X.A.guards = some []) (hR : Room k X.A) (hx : Passes CX X E)
    (I : Inv X pins σ H s) (hB : BindsTo s fd ⟨us, kw⟩ (ps.zip ws)) (hV : Vals zs ws) (h : sp zs H Q E) : wpAny (model X.prog X.w) X.A (call (.ref f) us kw) (EP X pins σ Q) X.xe s := by
  refine wpAny_call (codeAny_mono (F.go X.A X.stack s H ⟨us, kw⟩ ws zs Q E hG hR I.env0 hB hV h) fun r s' hq => ?_)
  match r, hq with
  | .error e, hq => exact hx pins σ H s e s' I hq
  | .ok (.ret u), hq => exact I.after hq
  | .ok .next, hq => exact False.elim hq
  | .ok .brk, hq => exact False.elim hq
  | .ok .cont, hq => exact False.elim hq
/-- f(e, ..) -/
theorem pe_callG (F : Pr X.prog X.w X.K X.mg X.base CX k f fd ps sp) (hG : X.A.guards = some []) (hR : Room k X.A) (hg : Gl X x) (hm : X.mg x = some (.ref f)) (hk : PySem.W.keepIn X.K (.ref f) = true) (hb : Binds X.K fd ps ds) (hd : Vals dvs ds) (hx : Passes CX X E)
    (ha : PA X (e :: es) t) (hdb : (x == ("__debug__" : Str)) = false := by decide) (he : starEach (e :: es) X.env = (false, eval e X.env) :: starEach es X.env := by rfl) (hpl : (backTo pos (starEach es X.env)).any (·.1) = false := by rfl) :
    PE X (.Call (.Name x p) (e :: es) [] pos) (tCall sp dvs E t) := by
  constructor
  intro pins s σ H Q I h
  refine wpAny_Call_Name_kw (ld_glob I hg hm ?_ hdb)
  refine PySem.W.callWith_K (h₀ := X.base) I.ok.mod.kin hk (thn (ha.run pos pins s σ H _ I h) fun us s2 z2 => ?_) he hpl
  obtain ⟨vs, H2, I2, r2, q2⟩ := z2
  refine ⟨I2.kIn, run_pr F hG hR hx I2 (hb s2 us I2.kIn ?_) (r2.append hd) q2⟩
  rw [← (r2.append hd).length]
  exact F.size _ _ _ _ q2
/-- f(k = v, ..): keywords alone -/
theorem pe_callGK0 (F : Pr X.prog X.w X.K X.mg X.base CX k f fd ps sp) (hG : X.A.guards = some []) (hR : Room k X.A) (hg : Gl X x) (hm : X.mg x = some (.ref f)) (hk : PySem.W.keepIn X.K (.ref f) = true) (hb : KBinds X.K fd ps ks g gV) (hx : Passes CX X E)
    (hkw : PK X kws tk) (hall : (backToKw pos (keywordEach kws X.env)).all (·.1.isSome) = true := by rfl) (hks : (backToKw pos (keywordEach kws X.env)).filterMap (·.1) = ks := by rfl)
    (hdb : (x == ("__debug__" : Str)) = false := by decide)
    (hpl : ((backTo pos (starEach [] X.env)).any (·.1) || (backToKw pos (keywordEach kws X.env)).any (·.1.isNone)) = false := by rfl) :
    PE X (.Call (.Name x p) [] kws pos) (tCallK sp gV E tNil tk) := by
  constructor
  intro pins s σ H Q I h
  refine wpAny_Call_Name_kw (ld_glob I hg hm ?_ hdb)
  refine PySem.W.callWith_KW0 (first := []) (h₀ := X.base) I.ok.mod.kin hk hall (thn (hkw.run pos pins s σ H _ I h) fun us s2 z2 => ?_) hpl
  obtain ⟨zs, H2, I2, r2, q2⟩ := z2
  refine ⟨I2.kIn, ?_⟩
  rw [hks]
  have rr : Vals (gV [] zs) (g [] us) := hb.rel .nil r2
  refine run_pr F hG hR hx I2 (hb.to s2 [] us I2.kIn ?_) rr q2
  rw [← rr.length]
  exact F.size _ _ _ _ q2
end

/-! ### repr of a list or a tuple of plain things -/
def rShow (K : PySem.W.Frag) : List V → Hp → VK → Prop := fun xs H Q => ∃ (a : Addr) (d : PyData), xs = [.ref a] ∧ Dp K H (.ref a) d ∧ d.showable = true ∧ d.hasDict = false ∧ d.depth ≤ 60 ∧ d.shown.length ≤ sizeLine ∧ Q (.str d.shown) H
theorem call_show {X : Cx} (hG : X.A.guards = some []) (hu : X.A.units + 64 < cLine) : CallR X (.builtin "repr") (rShow X.K) := by
  intro pins s σ H xs us Q I r h
  obtain ⟨a, d, rfl, hd, hs, hn, hz, hl, q⟩ := h
  have e1 := Vals.ref1 r
  subst e1
  obtain ⟨as, r1⟩ := Dp.reads I d (.ref a) (.ref a) hd rfl
  exact repr_of_reads' r1 hs (PyData.noDict_hsm hn) hG (by omega) (fun _ _ e => e) (fun h' u tk hk => ⟨.str d.shown, H, I.kept hk, ⟨_, rfl⟩, q⟩) hl

/-! ### a law's end -/
theorem law_go {P : Program} {w : World} {K : PySem.W.Frag} {mg mb : Str → Option Value} {CX : CXT} {k : Nat} {fa a : Addr} {fd : FuncData} {x : Str} {sp : Sp} {s1 : Shared} {vs : List Value} {ns : List Int}
    (KX : K.In s1.heap) (hm : s1.heap.Ns mainGlobals mg) (hb : s1.heap.Ns builtinsNs mb) (hbb : ∀ x : Str, x ≠ "__name__" → mb x = bootBuiltins x) (hlim : s1.heap.NoLimit) (hg : s1.gens = #[])
    (ha : s1.heap.get? a = some { cls := .type "list", data := .seq vs.toArray }) (hi : IntsAre vs ns) (hl : ns.length ≤ sizeLine) (hR : Room k callerA)
    (F : ∀ base : Heap, K.In base → base.Ns mainGlobals mg → Pr P w K mg base CX k fa fd [x] sp) (hbind : ∀ (s : Shared) (u : Value), BindsTo s fd ⟨[u], []⟩ [(x, u)])
    (hsp : ∀ H : Hp, Only H → SqL K H a (ns.map V.int) → sp [.ref a] H (fun v _ => v = .bl true) fun _ _ _ => False)
    (hCX : ∀ H e s', CX [] H s1 (fun _ _ _ => False) e s' → False) :
    codeAny (model P w) callerA (.call (.ref fa) ⟨[.ref a], []⟩) (fun r s' => r = .ok (.ret (.bool true)) ∧ OldK s1.heap s'.heap ∧ s'.os = s1.os ∧ AllBare s'.gens) s1 := by
  have rv := vals_ints hi
  have main : ∀ H : Hp, Only H → SqL K H a (ns.map V.int) → HOk P w H s1.heap → (∀ b, H b ≠ none → b = a) → (H a ≠ none → K.lookup a = none) →
      codeAny (model P w) callerA (.call (.ref fa) ⟨[.ref a], []⟩) (fun r s' => r = .ok (.ret (.bool true)) ∧ OldK s1.heap s'.heap ∧ s'.os = s1.os ∧ AllBare s'.gens) s1 := by
    intro H hO hS hok oa ok
    have only : ∀ {b : Addr}, H b ≠ none → b = a := fun {b} h => oa b h
    have none_of : ∀ {b : Addr}, b ≠ a → H b = none := by
      intro b hb
      rcases hO b with z | ⟨ob, xs, z⟩
      · exact z
      · exact absurd (only (by rw [z]; simp)) hb
    have stay : ∀ {b : Addr} {o : Obj}, s1.heap.get? b = some o → H b = none → (hidT s1.heap H).get? b = some o := fun e n => hidT_get e n
    have ns_of : ∀ {b : Addr} {m : Str → Option Value}, s1.heap.Ns b m → (hidT s1.heap H).Ns b m := by
      rintro b m ⟨o, es, ep, e, d, r⟩
      refine ⟨o, es, ep, stay e (none_of ?_), d, r⟩
      rintro rfl
      rw [ha] at e
      cases e
      exact absurd (show Data.seq vs.toArray 0 = Data.dict es ep from d) (by intro z; cases z)
    have inK : K.In (hidT s1.heap H) := by
      intro b o e
      refine stay (KX b o e) ?_
      rcases hO b with z | ⟨ob, xs, z⟩
      · exact z
      · have nz : H b ≠ none := by rw [z]; simp
        have e' := only nz
        subst e'
        rw [ok nz] at e
        cases e
    obtain ⟨mc, l1, l2⟩ := hlim
    have hM : Mod K mg (hidT s1.heap H) := ⟨inK, ns_of hm, ⟨mb, ns_of hb, hbb⟩, ⟨mc, ns_of l1, l2⟩⟩
    have e0 : Env0 P w K mg (hidT s1.heap H) callerA [] s1 H :=
      ⟨rfl, hM, fun b o e => of_hidT e, Nat.le_of_eq (hidT_size _ _), trivial, fun b z => by simp [frs] at z, hok, .of_eq hg⟩
    refine codeAny_mono ((F _ inK (ns_of hm)).go callerA [] s1 H ⟨[.ref a], []⟩ [.ref a] [.ref a] _ _ rfl hR e0 (hbind s1 (.ref a)) (.cons rfl .nil) (hsp H hO hS)) fun r s2 h => ?_
    match r, h with
    | .error e, h => exact (hCX H e s2 h).elim
    | .ok .next, h => exact False.elim h
    | .ok .brk, h => exact False.elim h
    | .ok .cont, h => exact False.elim h
    | .ok (.ret u), ⟨v, H', os, bare, un, hok', r', q⟩ =>
      have q' : v = .bl true := q
      subst q'
      have r2 : u = Value.bool true := r'
      subst r2
      refine ⟨rfl, OldK.of_keep fun b o e => ?_, os, bare⟩
      rcases hO b with z | ⟨ob, xs, z⟩
      · exact un.keep b o e z (by simp [frs]) (by simp)
      · have z2 := un.frzs b ob _ z
        have g1 := (hok b _ z).1
        have g2 := (hok' b _ z2).1
        rw [e] at g1
        cases g1
        exact g2
  cases hk : K.lookup a with
  | some o =>
    have e := KX a o hk
    rw [ha] at e
    cases e
    exact main (fun _ => none) (fun _ => .inl rfl) (.inr ⟨_, vs.toArray, _, hk, rfl, rfl, rfl, by rw [List.size_toArray, hi.length]; exact hl, by simpa using rv⟩) (fun b u z => by cases (show (none : Option HO) = some u from z)) (fun b z => absurd rfl z) fun z => absurd rfl z
  | none =>
    have at_ : (fun b => if b = a then some (HO.frz { cls := .type "list", data := .seq vs.toArray } (.lst (ns.map V.int))) else none) a = some (HO.frz { cls := .type "list", data := .seq vs.toArray } (.lst (ns.map V.int))) := if_pos rfl
    refine main (fun b => if b = a then some (HO.frz { cls := .type "list", data := .seq vs.toArray } (.lst (ns.map V.int))) else none) (fun b => ?_) (.inl (.inr ⟨_, at_⟩)) (fun b u z => ?_) (fun b z => ?_) fun _ => hk
    · by_cases hb : b = a
      · exact .inr ⟨_, _, if_pos hb⟩
      · exact .inl (if_neg hb)
    · by_cases hb : b = a
      · subst hb
        cases at_.symm.trans z
        exact ⟨ha, by rw [List.length_map]; exact hl, vs, _, rv, ha⟩
      · cases (if_neg hb).symm.trans z
    · by_cases hb : b = a
      · exact hb
      · exact absurd (if_neg hb) z

theorem walk_go {l : PySem.W.OpenLaw} {n k : Nat} {q : Program} {loose : List Str} {XP : (Str → Option Value) → Heap → Prop} {YP : World → Heap → Prop} {d : DefRec} {K : Params → PySem.W.Frag} {x : Str} {sp : PySem.W.Frag → Sp}
    (hn : l.most = some n) (hn2 : n ≤ sizeLine) (hdf : d.params.defaults = []) (hR : Room k callerA)
    (hY : ∀ (w : World) (h : Heap), YP w h → (K w.params).In h)
    (F : ∀ (w : World) (mg : Str → Option Value) (fa : Addr) (h : Heap), (K w.params).In h → h.Ns mainGlobals mg → mg d.name = some (.ref fa) →
      ∃ fd : FuncData, (∀ (s : Shared) (u : Value), BindsTo s fd ⟨[u], []⟩ [(x, u)]) ∧ ∀ base : Heap, (K w.params).In base → base.Ns mainGlobals mg → Pr l.prog w (K w.params) mg base CX0 k fa fd [x] (sp (K w.params)))
    (hsp : ∀ (K : PySem.W.Frag) (H : Hp) (a : Addr) (ns : List Int), ns.length ≤ n → SqL K H a (ns.map V.int) → sp K [.ref a] H (fun v _ => v = .bl true) fun _ _ _ => False) :
    PySem.W.WalkO q loose XP YP l.row.toRowW d [] (fun f vs => PySem.call f vs) := by
  refine Att.attach_call hn hdf fun w s0 s1 mg mb fa o pm cd doc a vs ns G Y ho hd hcd hmg hobj hints hlen hg => ?_
  obtain ⟨fd, hb, hF⟩ := F w mg fa _ (hY w _ Y) G.T.g hmg
  exact law_go (hY w _ Y) G.T.g G.T.b G.T.builtins G.T.nolimit hg hobj hints (Nat.le_trans hlen hn2) hR hF hb (fun H _ hS => hsp _ H a ns hlen hS) fun _ _ _ z => z
end Gd
/-! A head by one run, with facts of one's own: a Bool over the written part, and the defs. -/
namespace Gd
open PySem PySem.Spec PyProof.Rows L2
abbrev AlX : Type := Bool × List He.FnV
def obsX (tab : PySem.W.Frag → Bool) (fn : List He.FnD) (K : PySem.W.Frag) : AlX := (tab K && fn.all fun d => PySem.W.keepIn K (.ref (He.fAd K d.at_)) && (He.Fa.code d.at_ d.qual).ok K, fn.map fun d => He.fnObs K d.at_)
def SaysX (tab : PySem.W.Frag → Bool) (fn : List He.FnD) (K : PySem.W.Frag) : Prop := obsX tab fn K = (true, fn.map He.FnD.val)
def obsXG (n : Nat) (tab : PySem.W.Frag → Bool) (fn : List He.FnD) (g : Addr → Option Obj) : AlX := obsX tab fn (He.frG g (He.asG g n))
def hookX (n : Nat) (tab : PySem.W.Frag → Bool) (fn : List He.FnD) : PySem.W.Hook where
  α := AlX
  obs := fun s => obsXG n tab fn s.heap.get?
  val := fun _ => (true, fn.map He.FnD.val)
  says := fun _ h => ∃ K : PySem.W.Frag, K.In h ∧ SaysX tab fn K
  of := fun _ _ e => ⟨_, He.frG_in, e⟩
  keeps := fun _ _ _ ⟨K, hK, c⟩ k => ⟨K, PySem.W.Frag.In.keeps hK k, c⟩
theorem obsXG_eq {n : Nat} {tab : PySem.W.Frag → Bool} {fn : List He.FnD} {g : Addr → Option Obj} {s : Shared} (h : ∀ a, g a = s.heap.get? a) : obsXG n tab fn g = (hookX n tab fn).obs s := by
  obtain rfl : g = s.heap.get? := funext h
  rfl
section
variable {tab : PySem.W.Frag → Bool} {fn : List He.FnD} {K : PySem.W.Frag}
theorem SaysX.facts (c : SaysX tab fn K) : tab K = true := (He.ba (show (tab K && fn.all fun d => PySem.W.keepIn K (.ref (He.fAd K d.at_)) && (He.Fa.code d.at_ d.qual).ok K) = true from congrArg Prod.fst c)).1
/-- a def of the text where the run left it -/
theorem SaysX.fun_ (c : SaysX tab fn K) (i : Nat) {d : He.FnD} {st : Stmt} (h : fn[i]? = some d) (e : d = ⟨d.at_, d.name, d.qual, defArgs st, defBody st, defScope st⟩) : ∃ fd, Fun K d.name d.qual st (He.fAd K d.at_) fd := by
  have c2 := (He.ba (show (tab K && fn.all fun d => PySem.W.keepIn K (.ref (He.fAd K d.at_)) && (He.Fa.code d.at_ d.qual).ok K) = true from congrArg Prod.fst c)).2
  obtain ⟨k1, k2⟩ := He.ba (List.all_eq_true.mp c2 d (List.mem_of_getElem? h))
  have e1 : fn.map (fun d => He.fnObs K d.at_) = fn.map He.FnD.val := congrArg Prod.snd c
  have e2 : (fn.map fun d => He.fnObs K d.at_)[i]? = (fn.map He.FnD.val)[i]? := by rw [e1]
  rw [List.getElem?_map, List.getElem?_map, h] at e2
  obtain ⟨oc, od, osl, kV, doc, pm, an, cdv, ct, lk, hc⟩ := He.fn_ok (Option.some.inj e2) k2
  rw [e] at lk
  exact ⟨_, ⟨⟨oc, od, kV, doc, pm, an, cdv, ct, osl, rfl, lk, hc⟩, k1⟩⟩
end
theorem walk_goE {l : PySem.W.OpenLaw} {n k : Nat} {q : Program} {loose : List Str} {XP : (Str → Option Value) → Heap → Prop} {YP : World → Heap → Prop} {d : DefRec} {x : Str}
    (hn : l.most = some n) (hn2 : n ≤ sizeLine) (hdf : d.params.defaults = []) (hR : Room k callerA)
    (F : ∀ (w : World) (mg : Str → Option Value) (fa : Addr) (h : Heap), YP w h → h.Ns mainGlobals mg → mg d.name = some (.ref fa) →
      ∃ (K : PySem.W.Frag) (fd : FuncData) (sp : Sp), K.In h ∧ (∀ (s : Shared) (u : Value), BindsTo s fd ⟨[u], []⟩ [(x, u)]) ∧ (∀ (H : Hp) (a : Addr) (ns : List Int), ns.length ≤ n → SqL K H a (ns.map V.int) → sp [.ref a] H (fun v _ => v = .bl true) fun _ _ _ => False) ∧
        ∀ base : Heap, K.In base → base.Ns mainGlobals mg → Pr l.prog w K mg base CX0 k fa fd [x] sp) :
    PySem.W.WalkO q loose XP YP l.row.toRowW d [] (fun f vs => PySem.call f vs) := by
  refine Att.attach_call hn hdf fun w s0 s1 mg mb fa o pm cd doc a vs ns G Y ho hd hcd hmg hobj hints hlen hg => ?_
  obtain ⟨K, fd, sp, KX, hb, hsp, hF⟩ := F w mg fa _ Y G.T.g hmg
  exact law_go KX G.T.g G.T.b G.T.builtins G.T.nolimit hg hobj hints (Nat.le_trans hlen hn2) hR hF hb (fun H _ hS => hsp H a ns hlen hS) fun _ _ _ z => z
end Gd
namespace Ky
open PySem PySem.Spec PyProof.Rows L2 Gd
def topS (i : Nat) : Stmt := PySem.Challenge.pw_fivetrees_k22_errors_and_limits.main.body.getD i (.Pass ⟨0, 0, 0, 0⟩)
/-- the classes asked in a row, the bases -/
def clsV (c : Nat → Addr) : List Value := [.ref (c 0), .ref (c 1), .ref (c 2), .ref (c 3), .ref (c 4), .ref (c 5), .ref (c 6), .ref (c 7), .ref (c 8), .ref (c 9), .ref (c 10), .ref (c 11), .ref (c 12), .ref (c 13), .ref (c 14), .ref (c 15), .ref (c 16), .ref (c 17), .ref (c 18), .ref (c 19), .ref (c 20), .ref (c 21), .ref (c 22), .ref (c 23), .ref (c 24), .ref (c 25), .ref (c 26), .ref (c 27), .ref (c 28), .ref (c 29), .ref (c 30), .ref (c 31), .ref (c 32), .ref (c 33), .ref (c 34), .ref (c 35)]
def kinV (t s l : Addr) : List Value := [.ref t, .ref s, .ref l, .type "ValueError", .type "LookupError", .type "ArithmeticError"]
def isV (K : PySem.W.Frag) (C : Addr) (u : Value) : Bool := (PySem.W.kitOne K (.ref C) u).getD false
end Ky
namespace Ky
open PySem PySem.Spec PyProof.Rows L2 Gd
/-! ### the classes as data, their facts as Bools -/
structure Cd where
  nm : Str
  ba : Nat
  fs : List Str
  pl : Nat

def cs0 : List Cd := [⟨"NotASchema", 0, ["value"], 4⟩, ⟨"NotATree", 0, ["value"], 5⟩, ⟨"NotAWriter", 0, ["value"], 6⟩, ⟨"NotAPattern", 0, ["value"], 7⟩, ⟨"UnknownKind", 0, ["value"], 8⟩, ⟨"UnknownConstructor", 0, ["value"], 9⟩, ⟨"UnknownMode", 0, ["value"], 10⟩, ⟨"InvalidText", 0, ["value"], 11⟩, ⟨"InvalidPath", 0, ["value"], 12⟩, ⟨"InvalidTree", 0, ["value"], 13⟩, ⟨"InvalidNumber", 0, ["value"], 14⟩, ⟨"InvalidStart", 0, ["value"], 15⟩]
def cs1 : List Cd := [⟨"InvalidString", 0, ["value"], 16⟩, ⟨"InvalidLine", 0, ["value"], 17⟩, ⟨"InvalidKinds", 0, ["index"], 18⟩, ⟨"InvalidConstructors", 0, ["index"], 19⟩, ⟨"InvalidFields", 0, ["index"], 20⟩, ⟨"InvalidRows", 0, ["index"], 21⟩, ⟨"InvalidRules", 0, ["index"], 22⟩, ⟨"InvalidSigns", 0, ["index"], 23⟩, ⟨"InvalidGood", 0, ["index"], 24⟩, ⟨"InvalidMoves", 0, ["index"], 25⟩, ⟨"InvalidDeed", 0, ["index"], 26⟩, ⟨"InvalidWriters", 0, ["index"], 27⟩]
def cs2 : List Cd := [⟨"TooManyRows", 2, ["limit"], 35⟩, ⟨"TooManyJoins", 2, ["limit"], 36⟩, ⟨"TooManyFaces", 2, ["limit"], 37⟩, ⟨"TooManyDeeds", 2, ["limit"], 38⟩, ⟨"EmptyKind", 1, ["kind"], 28⟩, ⟨"MissingRule", 1, ["mode", "name"], 29⟩, ⟨"Unlike", 1, ["tree"], 30⟩, ⟨"Refused", 1, ["deed", "tree"], 31⟩, ⟨"OtherSchema", 1, [], 32⟩, ⟨"NothingToUndo", 1, [], 33⟩, ⟨"Busy", 1, [], 34⟩, ⟨"TooLong", 2, ["found"], 39⟩]
def cs : List Cd := cs0 ++ (cs1 ++ cs2)
def cOf (K : PySem.W.Frag) (i : Nat) : Addr := match cs[i]? with
  | some d => He.ga K d.nm
  | none => 0
def tlOf : Nat → List Value
  | 0 => [.type "ValueError", .type "Exception", .type "BaseException", .type "object"]
  | 1 => [.type "LookupError", .type "Exception", .type "BaseException", .type "object"]
  | _ => [.type "ArithmeticError", .type "Exception", .type "BaseException", .type "object"]
def nidOf : Nat → String
  | 0 => "ValueError.__new__"
  | 1 => "LookupError.__new__"
  | _ => "ArithmeticError.__new__"
def xcB (K : PySem.W.Frag) (C : Addr) (b : Nat) : Bool :=
  PySem.W.excInitIn K C (tlOf b) (nidOf b) && (PySem.W.excOver K C (tlOf b) && (PySem.W.hasDictIn K C && (He.eqO (PySem.W.findIn K (.ref C) "__setattr__") (some (some (.builtin "object.__setattr__"))) &&
  (He.eqO (PySem.W.findIn K (.ref C) "__getattribute__") (some (some (.builtin "BaseException.__getattribute__"))) && (He.eqO (PySem.W.findIn K (.ref C) "__getattr__") (some none) && (decide (PySem.W.subIn K (.ref C) (.type "BaseException") = some true) &&
  (He.eqO (PySem.W.findIn K (.ref C) "__class__") (some (some (.builtin "object.__class__"))) && (He.eqO (PySem.W.specialIn K (.builtin "object.__class__") "__get__") (some (some (.builtin "getset_descriptor.__get__"))) &&
  (decide (PySem.W.takesIn K (.builtin "object.__class__") = some true) && (decide (PySem.W.mroIn K C (.type "object") = some true) && PySem.W.keepIn K (.ref C)))))))))))
def cdB (K : PySem.W.Frag) (d : Cd) : Bool := (He.Fa.glo d.nm).ok K && (xcB K (He.ga K d.nm) d.ba && ((d.fs.all fun f => He.eqO (PySem.W.takerIn K (He.ga K d.nm) f) (some none) && He.eqO (PySem.W.findIn K (.ref (He.ga K d.nm)) f) (some none)) && (match d.fs with
  | [] => PySem.W.excIn K (He.ga K d.nm) (tlOf d.ba) (nidOf d.ba)
  | _ :: _ => He.eqO (PySem.W.findIn K (.ref (He.ga K d.nm)) "__init__") (some (some (.ref (He.ma K (He.ga K d.nm) "__init__")))) && decide (PySem.W.typeIn K (.ref (He.ma K (He.ga K d.nm) "__init__")) = some (.type "function")))))
def clsB (K : PySem.W.Frag) (i : Nat) : Bool := ((clsV (cOf K)).all fun u => (PySem.W.kitOne K (.ref (cOf K i)) u).isSome) && decide (((clsV (cOf K)).map (isV K (cOf K i))).count true = 1)
def kinB (K : PySem.W.Frag) (i : Nat) : Bool := decide ((kinV (He.ga K "TreeError") (He.ga K "StateError") (He.ga K "LimitError")).map (PySem.W.kitOne K (.ref (cOf K i))) = (if i < 24 then [true, false, false, true, false, false] else if i < 28 ∨ i = 35 then [false, false, true, false, false, true] else [false, true, false, false, true, false]).map some)
def glos : List Str := ["TreeError", "StateError", "LimitError", "_law_number", "_law_deal", "_law_pick", "_law_values", "_law_named_values", "_law_indexes", "_law_named_indexes", "_law_tops", "_law_classes", "_law_kin", "_law_other_right", "_law_right", "law"]
def frees : List Str := ["isinstance", "ValueError", "LookupError", "ArithmeticError", "repr", "all", "len", "range", "max", "min", "int", "abs", "str"]
def lms : List (Str × Int) := [("MOST_KINDS", 4), ("MOST_CONSTRUCTORS", 6), ("MOST_FIELDS", 3), ("MOST_ROWS", 200), ("MOST_MODES", 3), ("MOST_RULES", 40), ("MOST_PIECES", 9), ("MOST_SIGNS", 20), ("MOST_JOINS", 2000), ("MOST_STANDS", 5), ("MOST_MOVES", 30), ("MOST_FACES", 60), ("MOST_WRITTEN", 5000), ("MOST_READ", 40), ("MOST_LISTED", 20), ("MOST_DEEDS", 100)]
def tab (K : PySem.W.Frag) : Bool := (glos.all fun x => (He.Fa.glo x).ok K) && ((frees.all fun x => (He.Fa.free x).ok K) && ((lms.all fun x => (He.Fa.int x.1 x.2).ok K) && ((cs.all fun d => cdB K d) && ((List.range 36).all fun i => clsB K i && kinB K i))))
/-! ### the defs as data -/
def fnAt (x : Str) (i : Nat) : He.FnD := ⟨(x, none), x, x, defArgs (topS i), defBody (topS i), defScope (topS i)⟩
def iniS (d : Cd) : Stmt := inClass (topS d.pl) 0
def iniAt (d : Cd) : He.FnD := ⟨(d.nm, some "__init__"), "__init__", d.nm ++ ".__init__", defArgs (iniS d), defBody (iniS d), defScope (iniS d)⟩
def fnL : List He.FnD := [fnAt "_law_number" 57, fnAt "_law_deal" 58, fnAt "_law_pick" 59, fnAt "_law_values" 60, fnAt "_law_named_values" 61, fnAt "_law_indexes" 62, fnAt "_law_named_indexes" 63, fnAt "_law_tops" 64, fnAt "_law_classes" 65, fnAt "_law_kin" 66, fnAt "_law_other_right" 67, fnAt "_law_right" 68, fnAt "law" 69]
def csI : List Cd := cs.filter fun d => !d.fs.isEmpty
def fn : List He.FnD := fnL ++ csI.map iniAt
abbrev R : PySem.W.OpenRow := PySem.W.OpenLaw.row PySem.Challenge.rw_fivetrees_k22_errors_and_limits
abbrev hk : PySem.W.Hook := hookX 4 tab fn
def ob (s : PySem.W.SharedT) : AlX := obsXG 4 tab fn (HandSHeadRun.getT s)
theorem ob_eq (s : PySem.W.SharedT) : ob s = hk.obs s.abs := obsXG_eq (HandSHeadRun.getT_eq s)
end Ky
namespace Ky
open PySem PySem.Spec PyProof.Rows L2 Gd
def n1 : List PySem.Str := ["TreeError", "StateError", "LimitError", "NotASchema", "NotATree", "NotAWriter", "NotAPattern", "UnknownKind", "UnknownConstructor", "UnknownMode", "InvalidText", "InvalidPath", "InvalidTree", "InvalidNumber", "InvalidStart", "InvalidString", "InvalidLine", "InvalidKinds"]
def n2 : List PySem.Str := ["InvalidConstructors", "InvalidFields", "InvalidRows", "InvalidRules", "InvalidSigns", "InvalidGood", "InvalidMoves", "InvalidDeed", "InvalidWriters", "EmptyKind", "MissingRule", "Unlike", "Refused", "OtherSchema", "NothingToUndo", "Busy", "TooManyRows", "TooManyJoins"]
def n3 : List PySem.Str := ["TooManyFaces", "TooManyDeeds", "TooLong", "MOST_KINDS", "MOST_CONSTRUCTORS", "MOST_FIELDS", "MOST_ROWS", "MOST_MODES", "MOST_RULES", "MOST_PIECES", "MOST_SIGNS", "MOST_JOINS", "MOST_STANDS", "MOST_MOVES", "MOST_FACES", "MOST_WRITTEN", "MOST_READ", "MOST_LISTED"]
def n4 : List PySem.Str := ["MOST_DEEDS", "_law_number", "_law_deal", "_law_pick", "_law_values", "_law_named_values", "_law_indexes", "_law_named_indexes", "_law_tops", "_law_classes", "_law_kin", "_law_other_right", "_law_right"]
abbrev loose : List PySem.Str := n1 ++ n2 ++ n3 ++ n4
set_option maxHeartbeats 0 in
theorem run (w : World) : HandSHeadRun.RunEq R (PySem.W.view R.prog [69]) hk ob 12000 loose w := by
  intro os
  kernel_rfl
end Ky
/-! Exceptions of own classes as values: made (by place and by name), their fields read, their classes asked. -/
namespace Gd
open PySem PySem.Spec PyProof.Rows L2
open PySem.W (excInitIn excOver excTail)

/-- what is asked of an exception class of one's own over the built-in class B -/
structure XC (K : PySem.W.Frag) (C : Addr) : Prop where
  base : ∃ (B nid iid : String) (tl : List Value), ExcBaseFacts B nid iid tl ∧ StoreFacts B tl "object.__setattr__" "object" ∧ excInitIn K C tl nid = true ∧ excOver K C tl = true
  hd : PySem.W.hasDictIn K C = true
  sa : PySem.W.findIn K (.ref C) "__setattr__" = some (some (.builtin "object.__setattr__"))
  ga : PySem.W.findIn K (.ref C) "__getattribute__" = some (some (.builtin "BaseException.__getattribute__"))
  gg : PySem.W.findIn K (.ref C) "__getattr__" = some none
  sB : PySem.W.subIn K (.ref C) (.type "BaseException") = some true
  ca : PySem.W.findIn K (.ref C) "__class__" = some (some (.builtin "object.__class__"))
  cn : PySem.W.specialIn K (.builtin "object.__class__") "__get__" = some (some (.builtin "getset_descriptor.__get__"))
  ct : PySem.W.takesIn K (.builtin "object.__class__") = some true
  mo : PySem.W.mroIn K C (.type "object") = some true
  kp : PySem.W.keepIn K (.ref C) = true
/-- its instance at a, with these fields -/
def ErrAt (H : Hp) (a C : Addr) (fs : List (Str × V)) : Prop := ∃ d, H a = some (exo a C (some d)) ∧ H d = some (exd d fs)
theorem ErrAt.keep {H H' : Hp} {a C : Addr} {fs : List (Str × V)} (h : ErrAt H a C fs) (s : Same H H') : ErrAt H' a C fs := by
  obtain ⟨d, h1, h2⟩ := h
  exact ⟨d, s _ _ h1, s _ _ h2⟩

/-! ### the first store of a field, a further one -/
section
variable {prog : Program} {w : World} {A : Around} {E : Value → Shared → Prop} {R : Result → Shared → Prop} {hp : Heap} {g : Array GenState} {d : Drawn} {t : Nat} {os : OsState}
theorem store_first {K : PySem.W.Frag} {name : Str} {tk : Tok} {v : Value} {x C t1 : Addr} {B : String} {tl : List Value} (SF : StoreFacts B tl "object.__setattr__" "object") (X : K.In hp)
    (hx : hp.get? x = some { cls := .ref C, data := .fields #[.ref t1, .none, .none, .none, .bool false, .none] }) (ho : excOver K C tl = true) (hd : PySem.W.hasDictIn K C = true) (ht : PySem.W.takerIn K C name = some none)
    (hq : ∀ h' tk' dx, (∀ b o, b ≠ x → hp.get? b = some o → h'.get? b = some o) → hp.objs.size ≤ dx → dx ≠ x → h'.get? x = some { cls := .ref C, dict := some dx, data := .fields #[.ref t1, .none, .none, .none, .bool false, .none] } →
      h'.Ns1 dx (fun y => if y = name then some v else none) → R (.ok (.ret .none)) ⟨h', g, d, tk', os⟩) :
    codeAny (model prog w) A (.call (.builtin "object.__setattr__") ⟨[.ref x, .str name tk, v], []⟩) R ⟨hp, g, d, t, os⟩ := by
  refine PySem.W.osa_openX (od := none) SF X ⟨hx, rfl, rfl, trivial⟩ ho ht fun b => ?_
  obtain ⟨cd, hc, hd'⟩ := PySem.W.any_some hd
  have hxs : x ≠ hp.objs.size := Nat.ne_of_lt (Heap.lt_size hx)
  refine wpAny_bind (wpAny_pure (wpAny_bind (PySem.W.instanceDict_exc (c2 := .none) hx (PySem.W.looks_clsIn X hc) hd' ?_)))
  show wpAny _ _ (Builtin.ObjectAttr.storeInDict hp.objs.size (.str name tk) name v) _ _ _
  refine HandSPX.store_in_new ?_ ?_
  · exact ⟨_, #[], _, (Heap.get?_update_ne _ _ _ _ hxs.symm).trans (Heap.get?_push_at rfl rfl), rfl, fun e he => absurd he (by simp), fun _ => rfl⟩
  · intro h' tk' hn' hs
    have hx2 : (hp.push (PySem.W.dictOf [] 0)).get? x = some { cls := .ref C, data := .fields #[.ref t1, .none, .none, .none, .bool false, .none] } := Heap.get?_push_of_some _ hx
    refine hq h' tk' hp.objs.size (fun b o hb q => ?_) (Nat.le_refl _) hxs.symm ?_ hn'
    · exact (hs.2 b (Nat.ne_of_lt (Heap.lt_size q))).trans ((Heap.get?_update_ne _ _ _ _ hb).trans (Heap.get?_push_of_some _ q))
    · exact (hs.2 x hxs).trans (Heap.get?_update_self _ hx2 rfl)
end

section
variable {X : Cx} {pins : List (Addr × Obj)} {σ : L2.St} {H : Hp} {s : Shared} {a C dx : Addr} {f : Str} {y : V} {u : Value} {fs : List (Str × V)} {Q : Unit → Shared → Prop} {E : Value → Shared → Prop} {A : Around}
/-- self.f = y on an exception without a dict -/
theorem est_first (T : XC X.K C) (I : Inv X pins σ H s) (e : H a = some (exo a C none)) (ht : PySem.W.takerIn X.K C f = some none) (ry : RelV y u)
    (h : ∀ dx s', H dx = none → dx ≠ a → Inv X pins σ (upd (upd H dx (exd dx [(f, y)])) a (exo a C (some dx))) s' → Q () s') : wpAny (model X.prog X.w) A (setAttr (.ref a) f u) Q E s := by
  obtain ⟨B, nid, iid, tl, FB, SF, hin, hov⟩ := T.base
  obtain ⟨t1, ho⟩ := exo_at I.hok e
  obtain ⟨hp, g, d, t, os⟩ := s
  refine PySem.W.set_plain I.kIn (ox := { cls := .ref C, dict := none, data := .fields #[.ref t1, .none, .none, .none, .bool false, .none] }) (od := none) ⟨ho, rfl, rfl, trivial⟩ T.sa ?_
  refine store_first SF I.kIn ho hov T.hd ht fun h' tk' dx k dn dne hx hn => ?_
  have n1 : H dx = none := I.hok.fresh dn
  have old : ∀ {b : Addr} {o : Obj}, hp.get? b = some o → b ≠ dx := by
    intro b o q z
    have := Heap.lt_size q
    rw [z] at this
    exact absurd dn (Nat.not_le.mpr this)
  have offA : ∀ {b : Addr}, H b = none → b ≠ a := by
    intro b n z
    rw [z, e] at n
    cases n
  have onA : ∀ {b : Addr} {o : HO}, H b = some o → o ≠ exo a C none → b ≠ a := by
    intro b o q n z
    rw [z, e] at q
    exact n (Option.some.inj q).symm
  have un : Un X.fs [] H (upd (upd H dx (exd dx [(f, y)])) a (exo a C (some dx))) hp h' := by
    constructor
    · intro b o q n _ _
      exact k b o (offA n) q
    · intro b o q n _ _
      exact ⟨o.slots, k b o (offA n) q⟩
    · intro b o q n _
      rw [upd_ne (offA n), upd_ne (old q)]
      exact n
    · intro b o q _
      by_cases hb : b = a
      · subst hb
        exact ⟨_, hx⟩
      · exact ⟨o, k b o hb q⟩
    · intro b xs q
      rw [upd_ne (onA q (fun z => exo_tup z.symm)), upd_ne (ne_of_none q n1)]
      exact q
    · intro b o v q
      rw [upd_ne (onA q (fun z => exo_frz z.symm)), upd_ne (ne_of_none q n1)]
      exact q
    · intro b ps q
      refine ⟨#[], ?_⟩
      rw [upd_ne (onA q (fun z => exo_tbl z.symm)), upd_ne (ne_of_none q n1), q]
      simp
  refine h dx _ n1 dne (I.un (t' := tk') un fun b o q => ?_)
  by_cases hb : b = a
  · subst hb
    rw [upd_same] at q
    cases q
    exact exo_ok hx
  rw [upd_ne hb] at q
  by_cases hd : b = dx
  · subst hd
    rw [upd_same] at q
    cases q
    exact exd_ok hn (relO_put (fs := []) ry fun g => True.intro)
  rw [upd_ne hd] at q
  refine (I.hok b o q).stay (fun c v hc z => k c v ?_ z) (fun c hc => ?_) fun c xs hc => ?_
  · rcases hc with hc | hc
    · rw [hc]
      exact hb
    · exact onA hc (fun z => exo_own z.symm)
  · rw [upd_ne (onA hc (fun z => exo_own z.symm)), upd_ne (ne_of_none hc n1)]
    exact hc
  · rw [upd_ne (onA hc (fun z => exo_tup z.symm)), upd_ne (ne_of_none hc n1)]
    exact hc
end
end Gd
namespace PySem
namespace Gk
open PySem.W PySem.Calls PyProof.Rows PySem.HandSPX
open Builtin Builtin.ObjectAttr
section
variable {M : Model} {A : Around} {E : Value → Shared → Prop} {h : Heap} {g : Array GenState} {d : Drawn} {t : Nat} {os : OsState}
variable {nm q : Str} {C N : Addr} {bs bm bmB : List Value} {hdct : Bool} {sn : List Str} {sub : List Value} {ab : Bool} {col : Option Bool} {dd : Option Addr} {k0 k1 k2 k3 k5 : Option Value} {B newId initId : String}
theorem check_kw (F : ExcBaseFacts B newId initId bmB) (hT : ∀ X : String, bm.contains (.type X) = bmB.contains (.type X)) {rest : List Value} {kw : List (Str × Value)} {Q : Unit → Shared → Prop}
    (hC : h.get? C = some (excClassObj nm q C N bs bm hdct sn sub ab col dd k0 k1 k2 k3 k5 newId)) (hq : Q () ⟨h, g, d, t, os⟩) : wpAny M A (checkBuiltinCall newId ⟨.ref C :: rest, kw⟩) Q E ⟨h, g, d, t, os⟩ := by
  have c1 : (Value.ref C :: bm).contains (.type B) = true := by rw [List.contains_cons, hT, F.hasB, Bool.or_true]
  have c2 := F.noStar
  simp only [checkBuiltinCall, F.newKind, F.newSplit, F.newRow]
  repeat (first | refine wpAny_loadPart_at hC ?_ | (refine wpAny_isSubtype_exc hC ?_; rw [c1]) | refine wpAny_staticBase_exc hC ?_ | refine wpAny_madeBy_exc hC ?_ | simp only [bne_self_eq_false, Bool.false_eq_true, if_false] | wp_step)
  exact hq
end
section
variable {prog : Program} {w : World} {A : Around} {E : Value → Shared → Prop} {R : Result → Shared → Prop} {h : Heap} {g : Array GenState} {d : Drawn} {t : Nat} {os : OsState}
variable {nm q : Str} {C N : Addr} {bs bm bmB : List Value} {hdct : Bool} {sn : List Str} {sub : List Value} {ab : Bool} {col : Option Bool} {dd : Option Addr} {k0 k1 k2 k3 k5 : Option Value} {B newId initId : String}
theorem new_kw (F : ExcBaseFacts B newId initId bmB) (hT : ∀ X : String, bm.contains (.type X) = bmB.contains (.type X)) {rest : List Value} {kw : List (Str × Value)}
    (hC : h.get? C = some (excClassObj nm q C N bs bm hdct sn sub ab col dd k0 k1 k2 k3 k5 newId))
    (hq : R (.ok (.ret (.ref (h.objs.size + 1)))) ⟨(h.push (PySem.W.kdv_tup rest)).push (excO C h.objs.size), g, d, t, os⟩) (hrest : rest.length ≤ sizeLine) :
    codeAny (model prog w) A (.builtin newId ⟨.ref C :: rest, kw⟩) R ⟨h, g, d, t, os⟩ := by
  have e0 := F.ends
  have c1 : (Value.ref C :: bm).contains (.type B) = true := by rw [List.contains_cons, hT, F.hasB, Bool.or_true]
  have c2 : (Value.ref C :: bm).contains (.type "AttributeError") = false := by rw [List.contains_cons, hT, F.noAttr]; rfl
  have c3 : (Value.ref C :: bm).contains (.type "NameError") = false := by rw [List.contains_cons, hT, F.noName]; rfl
  refine codeAny_builtinAt F.entry ?_
  unfold Builtin.«BaseException.__new__»
  refine wpAt_bind ?_
  show wpAt _ _ _ (stack >>= _) _ _ _
  refine wpAt_bind (wpAt_stack fun p below => wpAt_of_wpAny ?_)
  wp_walk
  refine wpAt_of_wpAny ?_
  rw [F.owner]
  repeat (first | with_reducible refine wpAny_madeHere_exc F.canon hC ?_ | with_reducible refine wpAny_loadPart_at hC ?_ | (with_reducible refine wpAny_isSubtype_exc hC ?_; first | rw [c1] | rw [c2] | rw [c3]) | wp_step)
  show R _ _
  rw [Heap.size_push]
  exact hq
theorem type_call_kw (F : ExcBaseFacts B newId initId bmB) (hT : ∀ X : String, bm.contains (.type X) = bmB.contains (.type X)) {rest : List Value} {kw : List (Str × Value)} {fI : Addr} {Q : Fin → Shared → Prop}
    (hC : h.get? C = some (excClassObj nm q C N bs bm hdct sn sub ab col dd k0 k1 k2 k3 k5 newId))
    (hi : W.Looks (model prog w) h (typeLookup (.ref C) "__init__") (some (.ref fI))) (hb : ∀ self, W.Looks (model prog w) h (bindSpecial (.ref fI) self) (.ref fI, [self])) (hrest : rest.length ≤ sizeLine)
    (hq : codeAny (model prog w) A (.call (.ref fI) ⟨.ref (h.objs.size + 1) :: rest, kw⟩)
      (fun r s' => match r with | .ok (.ret v) => v = .none ∧ Q (.done (.ret (.ref (h.objs.size + 1)))) s' | .ok _ => False | .error e => E e s')
      ⟨(h.push (W.kdv_tup rest)).push (excO C h.objs.size), g, d, t, os⟩) :
    wpAny (model prog w) A (Builtin.«type.__call__» ⟨.ref C :: rest, kw⟩) Q E ⟨h, g, d, t, os⟩ := by
  repeat (first | with_reducible refine wpAny_loadPart_at hC ?_ | with_reducible refine wpAny_madeBy_exc hC ?_ | wp_step)
  refine codeAny_call_builtin_code (Code.quiet_builtin _ F.quiet) (check_kw F hT hC ?_)
  refine new_kw F hT hC ?_ hrest
  show wpAny _ _ _ _ _ _
  have k : ∀ b o, h.get? b = some o → ((h.push (W.kdv_tup rest)).push (excO C h.objs.size)).get? b = some o := fun b o e => Heap.get?_push_of_some _ (Heap.get?_push_of_some _ e)
  have g1 := k _ _ hC
  have g2 : ((h.push (W.kdv_tup rest)).push (excO C h.objs.size)).get? (h.objs.size + 1) = some (excO C h.objs.size) := by heap_get
  have c1 : (Value.ref C :: bm).contains (.ref C) = true := by simp
  have i1 := hi.keeps k
  have b1 := (hb (.ref (h.objs.size + 1))).keeps k
  unfold isInstance
  repeat (first | with_reducible refine wpAny_loadPart_at g2 ?_ | (with_reducible refine wpAny_isSubtype_exc g1 ?_; rw [c1]) | wp_step)
  show wpAny _ _ (typeLookup (.ref C) _) _ _ _
  refine i1.at ?_
  refine wpAny_holding (wpAny_bind (b1.at ?_))
  refine wpAny_bind (wpAny_call (codeAny_mono hq fun r s' z => ?_))
  rcases r with e | (v | _ | _ | _) <;> first | exact z | exact z.elim | skip
  obtain ⟨rfl, z⟩ := z
  first
    | exact wpAny_pure (wpAny_pure z)
    | (wp_walk; exact z)
theorem call_kw (F : ExcBaseFacts B newId initId bmB) (hT : ∀ X : String, bm.contains (.type X) = bmB.contains (.type X)) {rest : List Value} {kw : List (Str × Value)} {fI : Addr}
    (hC : h.get? C = some (excClassObj nm q C N bs bm hdct sn sub ab col dd k0 k1 k2 k3 k5 newId))
    (hi : W.Looks (model prog w) h (typeLookup (.ref C) "__init__") (some (.ref fI))) (hb : ∀ self, W.Looks (model prog w) h (bindSpecial (.ref fI) self) (.ref fI, [self])) (hrest : rest.length ≤ sizeLine)
    (hq : codeAny (model prog w) (A.under (.builtin "type.__call__" ⟨.ref C :: rest, kw⟩)) (.call (.ref fI) ⟨.ref (h.objs.size + 1) :: rest, kw⟩) (W.InitBack (h.objs.size + 1) R)
      ⟨(h.push (W.kdv_tup rest)).push (excO C h.objs.size), g, d, t, os⟩) :
    codeAny (model prog w) A (.call (.ref C) ⟨rest, kw⟩) R ⟨h, g, d, t, os⟩ := by
  have f1 := tc_lookup
  have f2 := tc_bind (.ref C)
  have hTy : (⟨h, g, d, t, os⟩ : Shared).TypeIs (.ref C) "type" := ⟨_, hC, rfl⟩
  refine codeAny_of_tree ?_
  show wpAny _ _ (callAny (.ref C) _) _ _ _
  repeat (any_goals (first | assumption | with_reducible refine wpAny_loadPart_at hC ?_ | wp_step))
  refine ⟨rfl, ?_⟩
  refine codeAny_call_builtin_at (Code.quiet_builtin _ (by decide +kernel)) entry_typeCall (wpAny_check_type_call_sub hC (type_call_kw F hT hC hi hb hrest ?_))
  refine codeAny_mono hq fun r s' z => ?_
  rcases r with e | (v | _ | _ | _) <;> exact z
end
end Gk
end PySem
namespace Gd
open PySem PySem.Spec PyProof.Rows L2
open PySem.W (excInitIn excOver excTail)
section
variable {X : Cx} {pins : List (Addr × Obj)} {σ : L2.St} {H : Hp} {s : Shared} {a C dx : Addr} {f : Str} {y : V} {u : Value} {fs : List (Str × V)} {E : Value → Shared → Prop} {A : Around}
/-- self.f = y, a further field -/
theorem est_more {Q : Unit → Shared → Prop} (T : XC X.K C) (I : Inv X pins σ H s) (e : H a = some (exo a C (some dx))) (ed : H dx = some (exd dx fs)) (hl : fs.length ≤ 900) (ht : PySem.W.takerIn X.K C f = some none) (ry : RelV y u)
    (h : ∀ s', Inv X pins σ (upd H dx (exd dx ((f, y) :: fs))) s' → Q () s') : wpAny (model X.prog X.w) A (setAttr (.ref a) f u) Q E s := by
  obtain ⟨B, nid, iid, tl, FB, SF, hin, hov⟩ := T.base
  obtain ⟨t1, ho⟩ := exo_at I.hok e
  obtain ⟨mA, hns, rel⟩ := exd_at I.hok ed
  have hw := within_of rel
  obtain ⟨hp, g, d, t, os⟩ := s
  obtain ⟨oD, _, _, hoD, _, _⟩ := hns.count hw
  have inst : PySem.W.InstAt hp a { cls := .ref C, dict := some dx, data := .fields #[.ref t1, .none, .none, .none, .bool false, .none] } C (some oD) := ⟨ho, rfl, rfl, hoD⟩
  refine PySem.W.set_plain I.kIn inst T.sa ?_
  refine PySem.W.osa_openX (s := ⟨hp, g, d, t + 1, os⟩) SF I.kIn inst hov ht fun b => ?_
  obtain ⟨cd, hc, hd'⟩ := PySem.W.any_some T.hd
  refine wpAny_bind (wpAny_pure (wpAny_bind (wpAny_bind (wpAny_loadPart ho (wpAny_bind ((PySem.W.looks_clsIn (h := hp) I.kIn hc).at ?_))))))
  rw [hd']
  refine wpAny_pure (a := some dx) ?_
  refine PySem.OEX.store_in_old hns hw (by rw [List.length_map]; omega) fun h' tk' hn hs => ?_
  have hd : ∃ o, h'.get? dx = some o := by
    obtain ⟨o, _, _, e', _⟩ := hn
    exact ⟨o, e'⟩
  exact h _ (I.write (t' := tk') (x := dx) (e := dx) (o := exd dx ((f, y) :: fs)) (by rw [ed]; exact True.intro) (.inl rfl) (fun b o hb ho => (hs.2 b hb).trans ho) hd (exd_ok hn (relO_put ry rel)))
end
/-- self.f = e in an exception's __init__ -/
def tEst (K : PySem.W.Frag) (f : Str) (to te : TE) : TS := fun D σ H => te σ H fun y H1 => to σ H1 fun x H2 => ∃ a C : Addr, x = .ref a ∧ XC K C ∧ PySem.W.takerIn K C f = some none ∧
  ((H2 a = some (exo a C none) ∧ ∀ dx, H2 dx = none → dx ≠ a → D.nx σ (upd (upd H2 dx (exd dx [(f, y)])) a (exo a C (some dx)))) ∨
    ∃ (dx : Addr) (fs : List (Str × V)), H2 a = some (exo a C (some dx)) ∧ H2 dx = some (exd dx fs) ∧ fs.length ≤ 900 ∧ D.nx σ (upd H2 dx (exd dx ((f, y) :: fs))))
theorem ps_est {X : Cx} {o e : Expr} {to te : TE} {f : Str} {p' pos : Pos} (ho : PE X o to) (he : PE X e te) (hs : swapsWith e (some (.Attribute o f p')) pos.line X.env = pure false := by rfl) : PS X (.Assign [.Attribute o f p'] e pos) (tEst X.K f to te) := by
  constructor
  intro pins s σ H D I h
  refine plainObj_wpAny_Assign_Attribute (thn (he.run pins s σ H _ I h) fun v s1 z1 => ?_) hs
  obtain ⟨y, H1, I1, r1, q1⟩ := z1
  refine thn (ho.run pins s1 σ H1 _ I1 q1) fun u s2 z2 => ?_
  obtain ⟨x, H2, I2, r2, a, C, ex, T, ht, q⟩ := z2
  subst ex
  have eu : u = Value.ref a := r2
  subst eu
  rcases q with ⟨ea, q⟩ | ⟨dx, fs, ea, ed, hl, q⟩
  · exact est_first T I2 ea ht r1 fun dx s' n ne J => ⟨σ, _, J, q dx n ne⟩
  · exact est_more T I2 ea ed hl ht r1 fun s' J => ⟨σ, _, J, q⟩

/-! ### C(e, ..), C(k = v, ..): the instance as a value -/
section
variable {X : Cx} {CX : CXT} {k : Nat} {f C : Addr} {fd : FuncData} {ps ks : List Str} {sp : Sp} {E : XK} {x : Str} {p pos : Pos} {e : Expr} {es : List Expr} {kws : List Keyword} {t tk : TA}
/-- C(..) whose __init__ is the def at f -/
structure Ini (K : PySem.W.Frag) (C f : Addr) : Prop where
  xc : XC K C
  at_ : PySem.W.findIn K (.ref C) "__init__" = some (some (.ref f))
  ty : PySem.W.typeIn K (.ref f) = some (.type "function")
def tErr (C : Addr) (sp : Sp) (dvs : List V) (E : XK) (t : TA) : TE := fun σ H Q => t σ H fun vs H1 => vs.length ≤ 1000 ∧ ∀ a, H1 a = none → sp (.ref a :: (vs ++ dvs)) (upd H1 a (exo a C none)) (fun v H2 => v = .non ∧ Q (.ref a) H2) E
theorem run_err {pins : List (Addr × Obj)} {σ : L2.St} {H : Hp} {s : Shared} {Q : VK} {us ws : List Value} {kw : List (Str × Value)} {zs : List V} (N : Ini X.K C f) (F : FnOk X.prog X.w X.K X.mg X.base CX k f fd ps sp) (hR : Room (k + 1) X.A) (hx : Passes CX X E)
    (I : Inv X pins σ H s) (hl : us.length ≤ sizeLine) (hB : ∀ (s' : Shared) (self : Value), X.K.In s'.heap → BindsTo s' fd ⟨self :: us, kw⟩ (ps.zip (self :: ws))) (hV : Vals zs ws)
    (h : ∀ a, H a = none → sp (.ref a :: zs) (upd H a (exo a C none)) (fun v H2 => v = .non ∧ Q (.ref a) H2) E) : wpAny (model X.prog X.w) X.A (call (.ref C) us kw) (EP X pins σ Q) X.xe s := by
  obtain ⟨B, nid, iid, tl, FB, SF, hin, hov⟩ := N.xc.base
  obtain ⟨hp, g, dr, t0, os⟩ := s
  obtain ⟨nm, N', qn, bs, bm, hdct, sn, sub, ab, col, dd, k0, k1, k2, k3, k5, hC, hT⟩ := PySem.W.excInit_of I.kIn hin
  have le1 : hp.objs.size ≤ hp.objs.size + 1 := Nat.le_succ _
  have n1 : H (hp.objs.size + 1) = none := I.hok.fresh le1
  have q1 := h (hp.objs.size + 1) n1
  have kk : ∀ b o, hp.get? b = some o → ((hp.push (PySem.W.kdv_tup us)).push (PySem.HandSPX.excO C hp.objs.size)).get? b = some o := fun b o e => Heap.get?_push_of_some _ (Heap.get?_push_of_some _ e)
  have g1 : ((hp.push (PySem.W.kdv_tup us)).push (PySem.HandSPX.excO C hp.objs.size)).get? (hp.objs.size + 1) = some (PySem.HandSPX.excO C hp.objs.size) := by heap_get
  have I2 : Inv X pins σ (upd H (hp.objs.size + 1) (exo (hp.objs.size + 1) C none)) ⟨(hp.push (PySem.W.kdv_tup us)).push (PySem.HandSPX.excO C hp.objs.size), g, dr, t0, os⟩ :=
    I.laid (t' := t0) (a := hp.objs.size + 1) (o := exo (hp.objs.size + 1) C none) (h' := (hp.push (PySem.W.kdv_tup us)).push (PySem.HandSPX.excO C hp.objs.size)) kk le1 (exo_ok g1)
  have r2 : Vals (V.ref (hp.objs.size + 1) :: zs) (Value.ref (hp.objs.size + 1) :: ws) := .cons rfl hV
  have hR2 : Room k (X.A.under (.builtin "type.__call__" ⟨.ref C :: us, kw⟩)) := by
    have d1 : (X.A.under (.builtin "type.__call__" ⟨.ref C :: us, kw⟩)).depth = X.A.depth + 1 := by
      first | rfl | simp [Around.under, Code.weight, Code.isCreation, Code.isGuard, Code.isCaller, Code.frames, Code.isFrame, guardIds]
    have d2 : (X.A.under (.builtin "type.__call__" ⟨.ref C :: us, kw⟩)).units = X.A.units + 1 := by
      first | rfl | simp [Around.under, Code.cUnits, Code.frames, Code.isFrame]
    exact ⟨hR.hd, by have := hR.dp; rw [d1]; omega, by have := hR.un; rw [d2]; omega⟩
  have e0 := I2.env0
  have e1 : Env0 X.prog X.w X.K X.mg X.base (X.A.under (.builtin "type.__call__" ⟨.ref C :: us, kw⟩)) X.stack ⟨(hp.push (PySem.W.kdv_tup us)).push (PySem.HandSPX.excO C hp.objs.size), g, dr, t0, os⟩ (upd H (hp.objs.size + 1) (exo (hp.objs.size + 1) C none)) :=
    ⟨by first | exact e0.frames | (simpa [Around.under, Code.envs, Code.isFrame, pushEnvs] using e0.frames), e0.mod, e0.bs, e0.bsz, e0.funs, e0.frf, e0.hok, e0.bare⟩
  refine wpAny_call (PySem.Gk.call_kw FB hT hC (PySem.W.looks_findIn I.kIn N.at_) (fun self => PySem.W.bind_fn I.kIn self N.ty) hl
    (codeAny_mono (F.run _ X.stack _ _ ⟨Value.ref (hp.objs.size + 1) :: us, kw⟩ (Value.ref (hp.objs.size + 1) :: ws) _ _ E hR2 e1 (hB _ _ I2.kIn) r2 q1) fun r s' hq' => ?_))
  match r, hq' with
  | .error er, hq' => exact hx pins σ _ _ er s' I2 hq'
  | .ok (.ret u), hq' =>
    obtain ⟨v, H', I3, rv, ev, q3⟩ := I2.after hq'
    subst ev
    exact ⟨rv, ⟨V.ref (hp.objs.size + 1), H', I3, rfl, q3⟩⟩
  | .ok .next, hq' => exact False.elim hq'
  | .ok .brk, hq' => exact False.elim hq'
  | .ok .cont, hq' => exact False.elim hq'
theorem pe_err (N : Ini X.K C f) (F : FnOk X.prog X.w X.K X.mg X.base CX k f fd ps sp) (hR : Room (k + 1) X.A) (hg : Gl X x) (hm : X.mg x = some (.ref C)) (hb : Binds X.K fd ps []) (hx : Passes CX X E)
    (ha : PA X (e :: es) t) (hdb : (x == ("__debug__" : Str)) = false := by decide) (he : starEach (e :: es) X.env = (false, eval e X.env) :: starEach es X.env := by rfl) (hpl : (backTo pos (starEach es X.env)).any (·.1) = false := by rfl) :
    PE X (.Call (.Name x p) (e :: es) [] pos) (tErr C sp [] E t) := by
  constructor
  intro pins s σ H Q I h
  refine wpAny_Call_Name_kw (ld_glob I hg hm ?_ hdb)
  refine PySem.W.callWith_K (h₀ := X.base) I.ok.mod.kin N.xc.kp (thn (ha.run pos pins s σ H _ I h) fun us s2 z2 => ?_) he hpl
  obtain ⟨vs, H2, I2, r2, hz, q2⟩ := z2
  have el : us.length ≤ sizeLine := by
    rw [← Paired.length r2, sizeLine_eq]
    omega
  refine ⟨I2.kIn, ?_⟩
  have len : ∀ self : Value, ((self :: us) ++ ([] : List Value)).length = ps.length := fun self => by
    have q3 := F.len _ _ _ _ (q2 _ (I2.hok.fresh (Nat.le_refl _)))
    rw [List.append_nil] at q3 ⊢
    rw [← q3, List.length_cons, List.length_cons, ← Paired.length r2]
  refine run_err (ws := us) (zs := vs ++ []) N F hR hx I2 el (fun s' self ki => ?_) (by rw [List.append_nil]; exact r2) q2
  have := hb s' (self :: us) ki (len self)
  rw [List.append_nil] at this
  exact this
/-- how the keywords of C(k = v, ..) reach the parameters behind self -/
structure SBinds (K : PySem.W.Frag) (fd : FuncData) (ps ks : List Str) (g : List Value → List Value) (gV : List V → List V) : Prop where
  to : ∀ (s : Shared) (self : Value) (ws : List Value), K.In s.heap → ws.length = ks.length → BindsTo s fd ⟨[self], ks.zip ws⟩ (ps.zip (self :: g ws))
  rel : ∀ {zs : List V} {ws : List Value}, Vals zs ws → Vals (gV zs) (g ws)
def tErrK (C : Addr) (sp : Sp) (n : Nat) (gV : List V → List V) (E : XK) (tk : TA) : TE := fun σ H Q => tk σ H fun zs H1 => zs.length = n ∧ ∀ a, H1 a = none → sp (.ref a :: gV zs) (upd H1 a (exo a C none)) (fun v H2 => v = .non ∧ Q (.ref a) H2) E
theorem pe_errK {g : List Value → List Value} {gV : List V → List V} (N : Ini X.K C f) (F : FnOk X.prog X.w X.K X.mg X.base CX k f fd ps sp) (hR : Room (k + 1) X.A) (hg : Gl X x) (hm : X.mg x = some (.ref C)) (hb : SBinds X.K fd ps ks g gV) (hx : Passes CX X E)
    (hkw : PK X kws tk) (hall : (backToKw pos (keywordEach kws X.env)).all (·.1.isSome) = true := by rfl) (hks : (backToKw pos (keywordEach kws X.env)).filterMap (·.1) = ks := by rfl)
    (hdb : (x == ("__debug__" : Str)) = false := by decide)
    (hpl : ((backTo pos (starEach [] X.env)).any (·.1) || (backToKw pos (keywordEach kws X.env)).any (·.1.isNone)) = false := by rfl) :
    PE X (.Call (.Name x p) [] kws pos) (tErrK C sp ks.length gV E tk) := by
  constructor
  intro pins s σ H Q I h
  refine wpAny_Call_Name_kw (ld_glob I hg hm ?_ hdb)
  refine PySem.W.callWith_KW0 (first := []) (h₀ := X.base) I.ok.mod.kin N.xc.kp hall (thn (hkw.run pos pins s σ H _ I h) fun us s2 z2 => ?_) hpl
  obtain ⟨zs, H2, I2, r2, hz, q2⟩ := z2
  refine ⟨I2.kIn, ?_⟩
  rw [hks]
  have el : us.length = ks.length := by rw [← Paired.length r2]; exact hz
  exact run_err (us := []) (ws := g us) (zs := gV zs) N F hR hx I2 (Nat.zero_le _) (fun s' self ki => hb.to s' self us ki el) (hb.rel r2) q2
end
end Gd
namespace Gd
open PySem PySem.Spec PyProof.Rows L2
open PySem.W (excInitIn excOver excTail)
theorem ErrAt.obj {P : Program} {w : World} {H : Hp} {h : Heap} {a C : Addr} {fs : List (Str × V)} (hok : HOk P w H h) (e : ErrAt H a C fs) :
    ∃ (ox od : Obj) (mA : Str → Option Value), PySem.W.InstAt h a ox C (some od) ∧ (∀ name, PySem.W.lookIn name od = some (mA name)) ∧ ∀ f, RelO (fs.lookup f) (mA f) := by
  obtain ⟨d, e1, e2⟩ := e
  obtain ⟨t1, ho⟩ := exo_at hok e1
  obtain ⟨mA, hns, rel⟩ := exd_at hok e2
  obtain ⟨od, hod, hl⟩ := lookIn_ns hns
  exact ⟨_, od, mA, ⟨ho, rfl, rfl, hod⟩, hl, rel⟩
/-- e.f of such an instance -/
def tEf (K : PySem.W.Frag) (f : Str) (te : TE) : TE := fun σ H Q => te σ H fun x H1 => ∃ (a C : Addr) (fs : List (Str × V)) (v : V), x = .ref a ∧ XC K C ∧ PySem.W.findIn K (.ref C) f = some none ∧ ErrAt H1 a C fs ∧ fs.lookup f = some v ∧ Q v H1
theorem pe_ef {X : Cx} {e : Expr} {te : TE} {pos : Pos} {f : Str} (he : PE X e te) (hb : attributeBase e f X.env (eval e X.env) = eval e X.env := by rfl) : PE X (.Attribute e f pos) (tEf X.K f te) := by
  constructor
  intro pins s σ H Q I h
  refine attr_of hb (thn (he.run pins s σ H _ I h) fun u s1 z => ?_)
  obtain ⟨x, H1, I1, rx, a, C, fs, v, ex, T, hno, ea, l, q⟩ := z
  subst ex
  have eu : u = Value.ref a := rx
  subst eu
  obtain ⟨ox, od, mA, J, hl, rel⟩ := ea.obj I1.hok
  obtain ⟨u2, hu, ru⟩ := RelO.some_of (v := v) (o := mA f) (by rw [← l]; exact rel f)
  exact HandSPX.exc_get I1.kIn J T.ga T.gg T.sB (PySem.W.findObj_own T.hd hno rfl (by rw [hl, hu])) (handed_of ru) ⟨v, H1, I1.tok _, ru, q⟩
/-- isinstance(e, c) of such an instance, or of one without fields -/
def rIsX (K : PySem.W.Frag) : List V → Hp → VK → Prop := fun xs H Q => ∃ (a C : Addr) (c : V) (u : Value) (b : Bool), xs = [.ref a, c] ∧ ClsV c u ∧ XC K C ∧ ((∃ fs, ErrAt H a C fs) ∨ H a = some (ExO (.ref C) a)) ∧ PySem.W.kitOne K (.ref C) u = some b ∧ Q (.bl b) H
theorem call_isX {X : Cx} : CallR X (.builtin "isinstance") (rIsX X.K) := by
  intro pins s σ H xs us Q I r h
  obtain ⟨a, C, c, u, b, rfl, k, T, ea, e, q⟩ := h
  obtain ⟨u1, u2, rfl, r1, r2⟩ := vals2 r
  have e2 := k.eq r2
  subst e2
  have e1 : u1 = Value.ref a := r1
  subst e1
  have hcl : (PySem.W.clsIn X.K C).isSome = true := by
    obtain ⟨cd, hc, _⟩ := PySem.W.any_some T.hd
    rw [hc]
    rfl
  rcases ea with ⟨fs, ea⟩ | ea
  · obtain ⟨ox, od, mA, J, hl, rel⟩ := ea.obj I.hok
    exact PySem.W.kia_one (PySem.W.kitx_exc hcl T.ga T.gg T.sB T.ca T.cn T.ct T.mo) I.kIn J e (fun z => nomatch z) fun tk => ⟨.bl b, H, I.tok tk, rfl, q⟩
  · obtain ⟨⟨oe, vs, ho, hz, hd, _⟩, _, _⟩ := (show ObjOk X.prog X.w H s.heap a (ExO (.ref C) a) from I.hok a _ ea)
    have J : PySem.W.InstAt s.heap a oe C none := by
      obtain ⟨oc, od, oda, osl⟩ := oe
      obtain ⟨h1, h2⟩ := hz
      dsimp only at h1 h2 hd
      subst h1 h2 hd
      exact ⟨ho, rfl, rfl, trivial⟩
    exact PySem.W.kia_one (PySem.W.kitx_exc hcl T.ga T.gg T.sB T.ca T.cn T.ct T.mo) I.kIn J e (fun z => nomatch z) fun tk => ⟨.bl b, H, I.tok tk, rfl, q⟩
/-- C() of a class without an __init__ of its own -/
theorem pe_err0 {X : Cx} {C : Addr} {bmB : List Value} {B nid iid : String} {x : Str} {p pos : Pos} (F : ExcBaseFacts B nid iid bmB) (q : PySem.W.excIn X.K C bmB nid = true) (gC : X.mg x = some (.ref C)) (kC : PySem.W.keepIn X.K (.ref C) = true) (hg : Gl X x)
    (hdb : (x == ("__debug__" : Str)) = false := by decide) : PE X (.Call (.Name x p) [] [] pos) (fun _ H Q => ∀ a, H a = none → Q (.ref a) (upd H a (ExO (.ref C) a))) := by
  constructor
  intro pins s σ H Q I h
  refine wpAny_Call_Name_kw (ld_glob I hg gC ?_ hdb)
  refine PySem.W.callWith_K0 I.kIn kC ?_
  show wpAny _ _ (call (.ref C) []) _ _ _
  obtain ⟨bm, N, nm, qn, bs, hdct, sn, sub, ab, col, dd, k0, k1, k2, k3, k5, mN, hC, hN, hni, T⟩ := exc_obj I.kIn q
  refine wpAny_call_exc_subT F T hC hN hni (fun h' a hm => ?_) (Nat.zero_le _)
  have hn : H a = none := I.hok.gone hm.new
  obtain ⟨t, ht, _, _⟩ := hm.there
  exact ⟨.ref a, upd H a (ExO (.ref C) a), I.laidN hm.keeps hm.new hn (exO_ok ht ⟨rfl, rfl⟩ rfl rfl rfl (show 4 < 6 by decide)), rfl, h a hn⟩
/-! ### list.count of a bool among bools -/
theorem countU {us : List Value} {bs : List Bool} (r : Vals (bs.map V.bl) us) : us.countP (eqU (.bl true)) = bs.count true := by
  induction bs generalizing us with
  | nil => cases r; rfl
  | cons b bs ih =>
    cases r with
    | cons r1 r2 =>
      rw [List.countP_cons, List.count_cons, ih r2, eqU_of r1 rfl]
      cases b <;> rfl
theorem mt_bcount {X : Cx} : MtR X "list.count" (fun x xs H Q => ∃ (p : Addr) (bs : List Bool), x = .ref p ∧ xs = [.bl true] ∧ SqL X.K H p (bs.map V.bl) ∧ Q (.int (bs.count true : Nat)) H) := by
  intro pins s σ H x xs v us Q I rx rxs h
  obtain ⟨p, bs, rfl, rfl, hs, q⟩ := h
  cases rx
  obtain ⟨u, rfl, ru⟩ := rxs.one
  obtain ⟨its, rv, ⟨⟨cls, dd, data, sl⟩, n, ho, hc, hdn, hd⟩, hlen⟩ := I.list hs
  simp only at hc hd
  subst hc hd
  have fl : (bs.map V.bl).all flatV = true := by
    rw [List.all_map, List.all_eq_true]
    intro b _
    rfl
  refine call_meets PySem.F.slot_list_count ⟨_, ho, rfl⟩ PySem.F.entry_list_count (PySem.F.args_list_count_2 _ _)
    (SeqAt.list_countAt p its.toArray n dd sl u (eqU (.bl true))) ⟨ho, fun y hy => mem_eqAt ru rfl rv fl y (by simpa using hy), ?_⟩
  have ec : its.toArray.toList.countP (eqU (.bl true)) = bs.count true := countU rv
  refine ⟨.int (bs.count true : Nat), H, I.tok _, ⟨s.toks, ?_⟩, q⟩
  show Value.int ((its.toArray.toList.countP (eqU (.bl true)) : Nat) : Int) s.toks = Value.int ((bs.count true : Nat) : Int) s.toks
  rw [ec]
end Gd
namespace Gd
open PySem PySem.Spec PyProof.Rows L2
theorem PE.imp {X : Cx} {e : Expr} {t t' : TE} (h : PE X e t) (q : ∀ σ H Q, t' σ H Q → t σ H Q) : PE X e t' := ⟨fun pins s σ H Q I z => h.run pins s σ H Q I (q σ H Q z)⟩
theorem PA.imp {X : Cx} {es : List Expr} {t t' : TA} (h : PA X es t) (q : ∀ σ H Q, t' σ H Q → t σ H Q) : PA X es t' := ⟨fun pos pins s σ H Q I z => h.run pos pins s σ H Q I (q σ H Q z)⟩
theorem same_rfl {H : Hp} : Same H H := fun _ _ e => e

/-! ### a class with one field, with two -/
def spI1 (C : Addr) (f : Str) : Sp := fun vs H Q _ => ∃ (a : Addr) (v : V), vs = [.ref a, v] ∧ H a = some (exo a C none) ∧ ∀ d, H d = none → d ≠ a → Q .non (upd (upd H d (exd d [(f, v)])) a (exo a C (some d)))
def spI2 (C : Addr) (f g : Str) : Sp := fun vs H Q _ => ∃ (a : Addr) (v u : V), vs = [.ref a, v, u] ∧ H a = some (exo a C none) ∧ ∀ d, H d = none → d ≠ a → Q .non (upd (upd (upd H d (exd d [(f, v)])) a (exo a C (some d))) d (exd d [(g, u), (f, v)]))
section
variable {P : Program} {w : World} {K : PySem.W.Frag} {mg : Str → Option Value} {base : Heap}
theorem ok_i1 {qn f : Str} {st : Stmt} {fa C : Addr} {fd : FuncData} {p1 p2 p3 p4 : Pos} (F : Fun K "__init__" qn st fa fd) (S : FnScope ["self", f] ["self", f] (defScope st)) (hb : defBody st = [.Assign [.Attribute (.Name "self" p1) f p2] (.Name f p3) p4])
    (hd : (f == ("__debug__" : Str)) = false) (hc : (f == ("__classdict__" : Str)) = false) (hs : ∀ env : Env, swapsWith (.Name f p3) (some (.Attribute (.Name "self" p1) f p2)) p4.line env = pure false) (T : XC K C) (ht : PySem.W.takerIn K C f = some none) : FnOk P w K mg base CX0 1 fa fd ["self", f] (spI1 C f) := by
  refine F.ok S (fun vs H Q E h => ?_) (fun cv A ou s H vs Q E hr h => ?_)
  · obtain ⟨a, v, rfl, _⟩ := h
    rfl
  obtain ⟨a, v, rfl, ea, q⟩ := h
  rw [hb]
  refine ⟨_, pss_one (ps_est (pe_var (i := 0) rfl ((S.par "self" (List.Mem.head _)).elim (fun z => .inl z) (fun z => .inr (.inl z)))) (pe_var (i := 1) rfl ((S.par f (.tail _ (List.Mem.head _))).elim (fun z => .inl z) (fun z => .inr (.inl z))) hd hc) (hs _)), ?_⟩
  exact ⟨v, rfl, .ref a, rfl, a, C, rfl, T, ht, .inl ⟨ea, q⟩⟩
theorem ok_i2 {qn f g : Str} {st : Stmt} {fa C : Addr} {fd : FuncData} {p1 p2 p3 p4 p5 p6 p7 p8 : Pos} (F : Fun K "__init__" qn st fa fd) (S : FnScope ["self", f, g] ["self", f, g] (defScope st))
    (hb : defBody st = [.Assign [.Attribute (.Name "self" p1) f p2] (.Name f p3) p4, .Assign [.Attribute (.Name "self" p5) g p6] (.Name g p7) p8])
    (hd : (f == ("__debug__" : Str)) = false) (hc : (f == ("__classdict__" : Str)) = false) (hd2 : (g == ("__debug__" : Str)) = false) (hc2 : (g == ("__classdict__" : Str)) = false)
    (hs : ∀ env : Env, swapsWith (.Name f p3) (some (.Attribute (.Name "self" p1) f p2)) p4.line env = pure false) (hs2 : ∀ env : Env, swapsWith (.Name g p7) (some (.Attribute (.Name "self" p5) g p6)) p8.line env = pure false)
    (T : XC K C) (ht : PySem.W.takerIn K C f = some none) (ht2 : PySem.W.takerIn K C g = some none) : FnOk P w K mg base CX0 1 fa fd ["self", f, g] (spI2 C f g) := by
  refine F.ok S (fun vs H Q E h => ?_) (fun cv A ou s H vs Q E hr h => ?_)
  · obtain ⟨a, v, u, rfl, _⟩ := h
    rfl
  obtain ⟨a, v, u, rfl, ea, q⟩ := h
  have v0 : ∀ {x : Str}, x ∈ (["self", f, g] : List Str) → Vis (defScope st) x := fun h => (S.par _ h).elim (fun z => .inl z) (fun z => .inr (.inl z))
  rw [hb]
  refine ⟨_, pss_cons (ps_est (pe_var (i := 0) rfl (v0 (by simp))) (pe_var (i := 1) rfl (v0 (by simp)) hd hc) (hs _)) (pss_one (ps_est (pe_var (i := 0) rfl (v0 (by simp))) (pe_var (i := 2) rfl (v0 (by simp)) hd2 hc2) (hs2 _))), ?_⟩
  refine ⟨v, rfl, .ref a, rfl, a, C, rfl, T, ht, .inl ⟨ea, fun d hd hda => ?_⟩⟩
  refine ⟨u, rfl, .ref a, rfl, a, C, rfl, T, ht2, .inr ⟨d, [(f, v)], upd_same, ?_, Nat.le_of_ble_eq_true rfl, q d hd hda⟩⟩
  rw [upd_ne hda, upd_same]
/-- what the law knows of a class with one field (two) -/
structure One (P : Program) (w : World) (K : PySem.W.Frag) (mg : Str → Option Value) (base : Heap) (nm f : Str) (C : Addr) : Prop where
  gl : mg nm = some (.ref C)
  ini : ∃ (fa : Addr) (fd : FuncData), Ini K C fa ∧ FnOk P w K mg base CX0 1 fa fd ["self", f] (spI1 C f) ∧ Binds K fd ["self", f] [] ∧ SBinds K fd ["self", f] [f] (fun x => x) (fun x => x)
  no : PySem.W.findIn K (.ref C) f = some none
structure Two (P : Program) (w : World) (K : PySem.W.Frag) (mg : Str → Option Value) (base : Heap) (nm f g : Str) (C : Addr) : Prop where
  gl : mg nm = some (.ref C)
  ini : ∃ (fa : Addr) (fd : FuncData), Ini K C fa ∧ FnOk P w K mg base CX0 1 fa fd ["self", f, g] (spI2 C f g) ∧ Binds K fd ["self", f, g] [] ∧ SBinds K fd ["self", f, g] [g, f] (fun x => x.reverse) (fun x => x.reverse)
  nof : PySem.W.findIn K (.ref C) f = some none
  nog : PySem.W.findIn K (.ref C) g = some none
theorem One.xc {nm f : Str} {C : Addr} (O : One P w K mg base nm f C) : XC K C := by
  obtain ⟨_, _, N, _⟩ := O.ini
  exact N.xc
theorem Two.xc {nm f g : Str} {C : Addr} (O : Two P w K mg base nm f g C) : XC K C := by
  obtain ⟨_, _, N, _⟩ := O.ini
  exact N.xc
end
theorem made1 {H : Hp} {a d C : Addr} {f : Str} {v : V} (ha : H a = none) (hd : upd H a (exo a C none) d = none) (n : d ≠ a) :
    Same H (upd (upd (upd H a (exo a C none)) d (exd d [(f, v)])) a (exo a C (some d))) ∧ ErrAt (upd (upd (upd H a (exo a C none)) d (exd d [(f, v)])) a (exo a C (some d))) a C [(f, v)] := by
  rw [upd_ne n] at hd
  refine ⟨fun b o e => ?_, d, upd_same, ?_⟩
  · rw [upd_ne (ne_of_none e ha), upd_ne (ne_of_none e hd), upd_ne (ne_of_none e ha)]
    exact e
  · rw [upd_ne n, upd_same]
theorem made2 {H : Hp} {a d C : Addr} {f g : Str} {v u : V} (ha : H a = none) (hd : upd H a (exo a C none) d = none) (n : d ≠ a) :
    Same H (upd (upd (upd (upd H a (exo a C none)) d (exd d [(f, v)])) a (exo a C (some d))) d (exd d [(g, u), (f, v)])) ∧ ErrAt (upd (upd (upd (upd H a (exo a C none)) d (exd d [(f, v)])) a (exo a C (some d))) d (exd d [(g, u), (f, v)])) a C [(g, u), (f, v)] := by
  rw [upd_ne n] at hd
  refine ⟨fun b o e => ?_, d, ?_, upd_same⟩
  · rw [upd_ne (ne_of_none e hd), upd_ne (ne_of_none e ha), upd_ne (ne_of_none e hd), upd_ne (ne_of_none e ha)]
    exact e
  · rw [upd_ne n.symm, upd_same]
/-- C(x), C(f = x), x a name: a new instance -/
def tOne (C : Addr) (f : Str) (j : Nat) : TE := fun σ H Q => ∃ v, σ[j]? = some (some v) ∧ ∀ a H', Same H H' → H a = none → ErrAt H' a C [(f, v)] → Q (.ref a) H'
def tTwo (C : Addr) (f g : Str) (i j : Nat) : TE := fun σ H Q => ∃ v u, σ[i]? = some (some v) ∧ σ[j]? = some (some u) ∧ ∀ a H', Same H H' → H a = none → ErrAt H' a C [(g, u), (f, v)] → Q (.ref a) H'
section
variable {X : Cx} {nm f g : Str} {C : Addr} {e e2 : Expr} {i j : Nat} {p pos k1 k2 : Pos}
theorem pe_one (O : One X.prog X.w X.K X.mg X.base nm f C) (hR : Room 2 X.A) (hg : Gl X nm) (he : PE X e (tVar j)) (hdb : (nm == ("__debug__" : Str)) = false := by decide) (hs : starEach [e] X.env = (false, eval e X.env) :: starEach [] X.env := by rfl)
    (hpl : (backTo pos (starEach [] X.env)).any (·.1) = false := by rfl) : PE X (.Call (.Name nm p) [e] [] pos) (tOne C f j) := by
  obtain ⟨fa, fd, N, F, b, sb⟩ := O.ini
  refine PE.imp (pe_err N F hR hg O.gl b pass0 (pa_cons he pa_nil hs) hdb hs hpl) fun σ H Q z => ?_
  obtain ⟨v, hv, q⟩ := z
  refine ⟨v, hv, Nat.le_of_ble_eq_true rfl, fun a ha => ⟨a, v, rfl, upd_same, fun d hd hda => ⟨rfl, ?_⟩⟩⟩
  obtain ⟨m1, m2⟩ := made1 (f := f) (v := v) ha hd hda
  exact q a _ m1 ha m2
theorem pe_oneK (O : One X.prog X.w X.K X.mg X.base nm f C) (hR : Room 2 X.A) (hg : Gl X nm) (he : PE X e (tVar j)) (hdb : (nm == ("__debug__" : Str)) = false := by decide)
    (hall : (backToKw pos (keywordEach [⟨some f, e, k1⟩] X.env)).all (·.1.isSome) = true := by rfl) (hks : (backToKw pos (keywordEach [⟨some f, e, k1⟩] X.env)).filterMap (·.1) = [f] := by rfl)
    (hpl : ((backTo pos (starEach [] X.env)).any (·.1) || (backToKw pos (keywordEach [⟨some f, e, k1⟩] X.env)).any (·.1.isNone)) = false := by rfl) : PE X (.Call (.Name nm p) [] [⟨some f, e, k1⟩] pos) (tOne C f j) := by
  obtain ⟨fa, fd, N, F, b, sb⟩ := O.ini
  refine PE.imp (pe_errK N F hR hg O.gl sb pass0 (pk_cons he pk_nil) hall hks hdb hpl) fun σ H Q z => ?_
  obtain ⟨v, hv, q⟩ := z
  refine ⟨v, hv, rfl, fun a ha => ⟨a, v, rfl, upd_same, fun d hd hda => ⟨rfl, ?_⟩⟩⟩
  obtain ⟨m1, m2⟩ := made1 (f := f) (v := v) ha hd hda
  exact q a _ m1 ha m2
theorem pe_two (O : Two X.prog X.w X.K X.mg X.base nm f g C) (hR : Room 2 X.A) (hg : Gl X nm) (he : PE X e (tVar i)) (he2 : PE X e2 (tVar j)) (hdb : (nm == ("__debug__" : Str)) = false := by decide) (hs : starEach [e, e2] X.env = (false, eval e X.env) :: starEach [e2] X.env := by rfl)
    (hs2 : starEach [e2] X.env = (false, eval e2 X.env) :: starEach [] X.env := by rfl) (hpl : (backTo pos (starEach [e2] X.env)).any (·.1) = false := by rfl) : PE X (.Call (.Name nm p) [e, e2] [] pos) (tTwo C f g i j) := by
  obtain ⟨fa, fd, N, F, b, sb⟩ := O.ini
  refine PE.imp (pe_err N F hR hg O.gl b pass0 (pa_cons he (pa_cons he2 pa_nil hs2) hs) hdb hs hpl) fun σ H Q z => ?_
  obtain ⟨v, u, hv, hu, q⟩ := z
  refine ⟨v, hv, u, hu, Nat.le_of_ble_eq_true rfl, fun a ha => ⟨a, v, u, rfl, upd_same, fun d hd hda => ⟨rfl, ?_⟩⟩⟩
  obtain ⟨m1, m2⟩ := made2 (f := f) (g := g) (v := v) (u := u) ha hd hda
  exact q a _ m1 ha m2
theorem pe_twoK (O : Two X.prog X.w X.K X.mg X.base nm f g C) (hR : Room 2 X.A) (hg : Gl X nm) (he : PE X e (tVar i)) (he2 : PE X e2 (tVar j)) (hdb : (nm == ("__debug__" : Str)) = false := by decide)
    (hall : (backToKw pos (keywordEach [⟨some g, e2, k1⟩, ⟨some f, e, k2⟩] X.env)).all (·.1.isSome) = true := by rfl) (hks : (backToKw pos (keywordEach [⟨some g, e2, k1⟩, ⟨some f, e, k2⟩] X.env)).filterMap (·.1) = [g, f] := by rfl)
    (hpl : ((backTo pos (starEach [] X.env)).any (·.1) || (backToKw pos (keywordEach [⟨some g, e2, k1⟩, ⟨some f, e, k2⟩] X.env)).any (·.1.isNone)) = false := by rfl) : PE X (.Call (.Name nm p) [] [⟨some g, e2, k1⟩, ⟨some f, e, k2⟩] pos) (tTwo C f g i j) := by
  obtain ⟨fa, fd, N, F, b, sb⟩ := O.ini
  refine PE.imp (pe_errK N F hR hg O.gl sb pass0 (pk_cons he2 (pk_cons he pk_nil)) hall hks hdb hpl) fun σ H Q z => ?_
  obtain ⟨v, u, hv, hu, q⟩ := z
  refine ⟨u, hu, v, hv, rfl, fun a ha => ⟨a, v, u, rfl, upd_same, fun d hd hda => ⟨rfl, ?_⟩⟩⟩
  obtain ⟨m1, m2⟩ := made2 (f := f) (g := g) (v := v) (u := u) ha hd hda
  exact q a _ m1 ha m2
end
/-! ### a row of such: instances of Cs with the field f holding v -/
abbrev Er (H : Hp) (f : Str) (v : V) (x : V) (C : Addr) : Prop := ∃ a, x = .ref a ∧ ErrAt H a C [(f, v)]
abbrev Errs (H : Hp) (f : Str) (v : V) (xs : List V) (Cs : List Addr) : Prop := Paired (Er H f v) xs Cs
theorem Errs.keep {H H' : Hp} {f : Str} {v : V} {xs : List V} {Cs : List Addr} (h : Errs H f v xs Cs) (s : Same H H') : Errs H' f v xs Cs :=
  Paired.mapP h fun x C ⟨a, e, k⟩ => ⟨a, e, k.keep s⟩
theorem Errs.app {H : Hp} {f : Str} {v : V} : ∀ {xs : List V} {Cs : List Addr} {ys : List V} {Ds : List Addr}, Errs H f v xs Cs → Errs H f v ys Ds → Errs H f v (xs ++ ys) (Cs ++ Ds)
  | _, _, _, _, .nil, h => h
  | _, _, _, _, .cons r t, h => .cons r (Errs.app t h)
def tOnes (f : Str) (j : Nat) (Cs : List Addr) : TA := fun σ H Q => ∃ v, σ[j]? = some (some v) ∧ ∀ xs H', Same H H' → Errs H' f v xs Cs → Q xs H'
theorem po_nil1 {X : Cx} {f : Str} {j : Nat} : PA X [] (tOnes f j []) := PA.imp pa_nil fun σ H Q ⟨v, _, q⟩ => q [] H same_rfl .nil
theorem po_cons1 {X : Cx} {f : Str} {j : Nat} {C : Addr} {Cs : List Addr} {e : Expr} {es : List Expr} (he : PE X e (tOne C f j)) (hr : PA X es (tOnes f j Cs)) (hs : starEach (e :: es) X.env = (false, eval e X.env) :: starEach es X.env := by rfl) :
    PA X (e :: es) (tOnes f j (C :: Cs)) :=
  PA.imp (pa_cons he hr hs) fun σ H Q ⟨v, hv, q⟩ => ⟨v, hv, fun a H1 s1 n1 e1 => ⟨v, hv, fun xs H2 s2 e2 => q _ H2 (s1.trans s2) (.cons ⟨a, rfl, e1.keep s2⟩ e2)⟩⟩
/-! ### isinstance asked of one name, for a row of classes -/
def IsAt (K : PySem.W.Frag) (H : Hp) (x : V) (C : Addr) : Prop := ∃ a, x = .ref a ∧ XC K C ∧ ((∃ fs, ErrAt H a C fs) ∨ H a = some (ExO (.ref C) a))
theorem IsAt.keep {K : PySem.W.Frag} {H H' : Hp} {x : V} {C : Addr} (h : IsAt K H x C) (s : Same H H') : IsAt K H' x C := by
  obtain ⟨a, e, T, q⟩ := h
  refine ⟨a, e, T, ?_⟩
  rcases q with ⟨fs, q⟩ | q
  · exact .inl ⟨fs, q.keep s⟩
  · exact .inr (s _ _ q)
def tIss (K : PySem.W.Frag) (j : Nat) (us : List Value) : TA := fun σ H Q => ∃ (x : V) (C : Addr) (bs : List Bool), σ[j]? = some (some x) ∧ IsAt K H x C ∧ us.map (PySem.W.kitOne K (.ref C)) = bs.map some ∧ Q (bs.map V.bl) H
theorem pi_nil1 {X : Cx} {j : Nat} : PA X [] (tIss X.K j []) := PA.imp pa_nil fun σ H Q ⟨x, C, bs, _, _, e, q⟩ => by
  cases bs with
  | nil => exact q
  | cons b r => cases e
theorem pi_cons1 {X : Cx} {j : Nat} {e c : Expr} {cv : V} {u : Value} {us : List Value} {es : List Expr} {p pos : Pos} (hg : Gl X "isinstance") (hm : X.mg "isinstance" = none) (he : PE X e (tVar j)) (hc : PE X c (tC cv)) (k : ClsV cv u) (hr : PA X es (tIss X.K j us))
    (hs : starEach (.Call (.Name "isinstance" p) [e, c] [] pos :: es) X.env = (false, eval (.Call (.Name "isinstance" p) [e, c] [] pos) X.env) :: starEach es X.env := by rfl) (hs1 : starEach [e, c] X.env = (false, eval e X.env) :: starEach [c] X.env := by rfl) (hs2 : starEach [c] X.env = (false, eval c X.env) :: starEach [] X.env := by rfl) (hpl : (backTo pos (starEach [c] X.env)).any (·.1) = false := by rfl) :
    PA X (.Call (.Name "isinstance" p) [e, c] [] pos :: es) (tIss X.K j (u :: us)) :=
  PA.imp (pa_cons (pe_callB call_isX hg hm boot_isinstance (pa_cons he (pa_cons hc pa_nil hs2) hs1) (by decide) (by decide) hs1 hpl) hr hs) fun σ H Q ⟨x, C, bs, hx, hi, e, q⟩ => by
    cases bs with
    | nil => cases e
    | cons b r =>
      have e1 : PySem.W.kitOne X.K (.ref C) u = some b := (List.cons.inj e).1
      have e2 : us.map (PySem.W.kitOne X.K (.ref C)) = r.map some := (List.cons.inj e).2
      obtain ⟨a, ea, T, z⟩ := hi
      subst ea
      exact ⟨.ref a, hx, a, C, cv, u, b, rfl, k, T, z, e1, .ref a, C, r, hx, ⟨a, rfl, T, z⟩, e2, q⟩
end Gd
namespace Gd
open PySem PySem.Spec PyProof.Rows L2
theorem yes_of {σ : L2.St} {H : Hp} {Q : Bool → Hp → Prop} (h : Q true H) : tYes σ H Q := h
theorem yes_if {σ : L2.St} {H : Hp} {A B : Hp → Prop} (h : A H) : tYes σ H (fun b H3 => if b = true then A H3 else B H3) := yes_of (iteT (A := A H) (B := B H) h)
/-- a comprehension over a list: one name as the target, no test -/
theorem lc_listY {K : PySem.W.Frag} {a : Addr} {xs : List V} {j : Nat} {te : TE} {vs : List Nat} {σ : L2.St} {H1 : Hp} {D : Addr} {Qd : Hp → Prop} (Pv : Nat → Hp → Prop) (hw : ∀ v, wipe ((wipe σ vs).set j (some v)) vs = wipe σ vs) (h0 : Pv 0 (upd H1 D (.lst []))) (hl : ∀ i H, i ≤ xs.length → Pv i H → SqL K H a xs)
    (hs : ∀ (i : Nat) (x : V) (H : Hp), xs[i]? = some x → Pv i H → te ((wipe σ vs).set j (some x)) H fun y H4 => ∃ acc, H4 D = some (.lst acc) ∧ acc.length < sizeLine ∧ Pv (i + 1) (upd H4 D (.lst (acc ++ [y]))))
    (hd : ∀ H, Pv xs.length H → Qd H) : ∃ W : Nat → Nat → Hp → Prop, (∃ m, W 0 m (upd H1 D (.lst []))) ∧ ∀ i m H, W i m H →
      ((Itl K a).stop i H ∧ Qd H) ∨ ((Itl K a).go i H ∧ ∃ Nx : Hp → Prop, (∀ H', Nx H' → ∃ m', m' < m ∧ W (i + 1) m' H') ∧ ∀ v H', (Itl K a).yld i H v H' → gName j v (wipe σ vs) H' fun τ H2 => wipe τ vs = wipe σ vs ∧ tYes τ H2 fun b H3 =>
        if b = true then te τ H3 fun y H4 => ∃ acc, H4 D = some (.lst acc) ∧ acc.length < sizeLine ∧ Nx (upd H4 D (.lst (acc ++ [y]))) else Nx H3) :=
  lc_list Pv h0 hl (fun i x H e p => ⟨hw _, yes_if (hs i x H e p)⟩) hd
/-- the same, each element worth the same thing y, what stood stands -/
theorem lc_same {K : PySem.W.Frag} {a : Addr} {xs : List V} {y : V} {j : Nat} {te : TE} {vs : List Nat} {σ : L2.St} {H1 : Hp} {D : Addr} {Qd : Hp → Prop} (hw : ∀ v, wipe ((wipe σ vs).set j (some v)) vs = wipe σ vs) (nD : H1 D = none) (hx : SqL K H1 a xs) (hz : xs.length ≤ 1000)
    (hs : ∀ (i : Nat) (x : V) (H : Hp), xs[i]? = some x → Same H1 H → ∀ q : VK, (∀ H4, Same H H4 → q y H4) → te ((wipe σ vs).set j (some x)) H q)
    (hd : ∀ H, Same H1 H → H D = some (.lst (List.replicate xs.length y)) → Qd H) : ∃ W : Nat → Nat → Hp → Prop, (∃ m, W 0 m (upd H1 D (.lst []))) ∧ ∀ i m H, W i m H →
      ((Itl K a).stop i H ∧ Qd H) ∨ ((Itl K a).go i H ∧ ∃ Nx : Hp → Prop, (∀ H', Nx H' → ∃ m', m' < m ∧ W (i + 1) m' H') ∧ ∀ v H', (Itl K a).yld i H v H' → gName j v (wipe σ vs) H' fun τ H2 => wipe τ vs = wipe σ vs ∧ tYes τ H2 fun b H3 =>
        if b = true then te τ H3 fun y H4 => ∃ acc, H4 D = some (.lst acc) ∧ acc.length < sizeLine ∧ Nx (upd H4 D (.lst (acc ++ [y]))) else Nx H3) := by
  refine lc_listY (fun i H => i ≤ xs.length ∧ Same H1 H ∧ H D = some (.lst (List.replicate i y))) hw ⟨Nat.zero_le _, fun b o e => ?_, upd_same⟩ (fun i H _ p => p.2.1.seq hx) ?_ fun H p => hd H p.2.1 p.2.2
  · rw [upd_ne (ne_of_none e nD)]
    exact e
  · rintro i x H e ⟨hi, s, eD⟩
    have hlt : i < xs.length := (List.getElem?_eq_some_iff.mp e).1
    refine hs i x H e s _ fun H4 s4 => ⟨_, s4 _ _ eD, ?_, hlt, fun b o e2 => ?_, ?_⟩
    · rw [List.length_replicate]
      exact small1000 (by omega)
    · rw [upd_ne (ne_of_none e2 nD)]
      exact s4 _ _ (s _ _ e2)
    · rw [upd_same, List.replicate_succ']
/-! ### how long a list is shown -/
theorem textFrom_le : ∀ (ts : List Str) (k : Nat) (acc : Str) (b : Nat), (∀ t ∈ ts, t.length ≤ b) → (textFrom k acc ts).length ≤ acc.length + ts.length * (b + 2)
  | [], k, acc, b, _ => by show acc.length ≤ _; omega
  | t :: r, k, acc, b, h => by
    have ih := textFrom_le r (k + 1) (acc ++ (if k > 0 then ", " else "" : String) ++ t) b fun x hx => h x (List.mem_cons_of_mem _ hx)
    have ht := h t (List.mem_cons_self ..)
    have e : (acc ++ ((if k > 0 then ", " else "" : String) : Str) ++ t).length ≤ acc.length + 2 + t.length := by
      rw [Str.length_append, Str.length_append]
      have : (((if k > 0 then ", " else "" : String) : Str)).length ≤ 2 := by split <;> decide +kernel
      omega
    show (textFrom (k + 1) (acc ++ (if k > 0 then ", " else "" : String) ++ t) r).length ≤ _
    rw [List.length_cons, Nat.add_mul, Nat.one_mul]
    omega
theorem listText_le {ts : List Str} {b : Nat} (h : ∀ t ∈ ts, t.length ≤ b) : (listText ts).length ≤ 2 + ts.length * (b + 2) := by
  have := textFrom_le ts 0 "[" b h
  have e1 : (Str.ofString "[").length = 1 := by decide +kernel
  have e2 : (Str.ofString "]").length = 1 := by decide +kernel
  show (textFrom 0 "[" ts ++ "]").length ≤ _
  rw [Str.length_append]
  have e3 : (textFrom 0 (Str.ofString "[") ts).length ≤ (Str.ofString "[").length + ts.length * (b + 2) := this
  show (textFrom 0 (Str.ofString "[") ts).length + (Str.ofString "]").length ≤ _
  omega
/-- a thing that is shown in few signs -/
structure Sh (K : PySem.W.Frag) (H : Hp) (v : V) (d : PyData) : Prop where
  at_ : Dp K H v d
  sh : d.showable = true
  nd : d.hasDict = false
  dp : d.depth ≤ 20
  ln : d.shown.length ≤ 100
theorem shownAll_map : ∀ ds : List PyData, PyData.shownAll ds = ds.map PyData.shown
  | [] => rfl
  | d :: r => by rw [PyData.shownAll, shownAll_map r]; rfl
theorem sh_list {ds : List PyData} (h : ∀ d ∈ ds, d.showable = true ∧ d.hasDict = false ∧ d.depth ≤ 20 ∧ d.shown.length ≤ 100) (hl : ds.length ≤ 100) :
    (PyData.list ds).showable = true ∧ (PyData.list ds).hasDict = false ∧ (PyData.list ds).depth ≤ 60 ∧ (PyData.list ds).shown.length ≤ sizeLine := by
  have h1 : ∀ ds : List PyData, (∀ d ∈ ds, d.showable = true) → PyData.showableAll ds = true := by
    intro ds h
    induction ds with
    | nil => rfl
    | cons d r ih => rw [PyData.showableAll, h d (List.mem_cons_self ..), ih fun x hx => h x (List.mem_cons_of_mem _ hx)]; rfl
  have h2 : ∀ ds : List PyData, (∀ d ∈ ds, d.hasDict = false) → PyData.hasDictAll ds = false := by
    intro ds h
    induction ds with
    | nil => rfl
    | cons d r ih => rw [PyData.hasDictAll, h d (List.mem_cons_self ..), ih fun x hx => h x (List.mem_cons_of_mem _ hx)]; rfl
  have h3 : ∀ ds : List PyData, (∀ d ∈ ds, d.depth ≤ 20) → PyData.depthAll ds ≤ 21 := by
    intro ds h
    induction ds with
    | nil => show 0 ≤ _; omega
    | cons d r ih =>
      have a := h d (List.mem_cons_self ..)
      have b := ih fun x hx => h x (List.mem_cons_of_mem _ hx)
      rw [PyData.depthAll]
      omega
  refine ⟨?_, ?_, ?_, ?_⟩
  · rw [PyData.showable]
    exact h1 ds fun d hd => (h d hd).1
  · rw [PyData.hasDict]
    exact h2 ds fun d hd => (h d hd).2.1
  · have := h3 ds fun d hd => (h d hd).2.2.1
    rw [PyData.depth]
    omega
  · rw [PyData.shown]
    have := listText_le (ts := PyData.shownAll ds) (b := 100) (by
      rw [shownAll_map]
      intro t ht
      obtain ⟨d, hd, rfl⟩ := List.mem_map.mp ht
      exact (h d hd).2.2.2)
    rw [shownAll_map, List.length_map] at this
    have z : ds.length * 102 ≤ 100 * 102 := Nat.mul_le_mul_right _ hl
    have w := sizeLine_eq
    rw [shownAll_map]
    omega
theorem sh_rep {K : PySem.W.Frag} {H : Hp} {v : V} {d : PyData} (S : Sh K H v d) : ∀ n, DpAll K H (List.replicate n v) (List.replicate n d)
  | 0 => .nil
  | n + 1 => .cons S.at_ (sh_rep S n)
end Gd
namespace Kx
open PySem PySem.Spec PyProof.Rows L2 Gd
def topS (i : Nat) : Stmt := PySem.Challenge.pw_fivetrees_k22_errors_and_limits.main.body.getD i (.Pass ⟨0, 0, 0, 0⟩)
abbrev sNum : Stmt := topS 57
abbrev sDeal : Stmt := topS 58
abbrev sPick : Stmt := topS 59
theorem scNum : FnScope ["_law_cells", "_law_k", "_law_mixed", "_law_one", "_law_more"] ["_law_cells", "_law_k"] (defScope sNum) := ⟨rfl, rfl, rfl, by decide +kernel, rfl, by decide +kernel, by decide +kernel⟩
theorem scDeal : FnScope ["_law_number_here"] ["_law_number_here"] (defScope sDeal) := ⟨rfl, rfl, rfl, by decide +kernel, rfl, by decide +kernel, by decide +kernel⟩
theorem scPick : FnScope ["_law_deal_here", "_law_many", "_law_digit", "_law_seed", "_law_turn"] ["_law_deal_here", "_law_many"] (defScope sPick) := ⟨rfl, rfl, rfl, by decide +kernel, rfl, by decide +kernel, by decide +kernel⟩
/-- three ints that deal on -/
def DealAt (H : Hp) (p : Addr) : Prop := ∃ a b c : Int, H p = some (.lst [.int a, .int b, .int c]) ∧ 0 ≤ b ∧ b < 2147483423
/-- all but p stands -/
def Sb (p : Addr) (H H' : Hp) : Prop := ∀ b o, b ≠ p → H b = some o → H' b = some o
theorem Sb.refl {p : Addr} {H : Hp} : Sb p H H := fun _ _ _ e => e
theorem Sb.trans {p : Addr} {H H1 H2 : Hp} (h : Sb p H H1) (h2 : Sb p H1 H2) : Sb p H H2 := fun b o n e => h2 b o n (h b o n e)
theorem Sb.of {p : Addr} {H H1 : Hp} (h : Same H H1) : Sb p H H1 := fun b o _ e => h b o e
theorem Sb.set {p : Addr} {H : Hp} {o : HO} : Sb p H (upd H p o) := fun b x n e => by rw [upd_ne n]; exact e
theorem same_new {H : Hp} {p : Addr} {o : HO} (h : H p = none) : Same H (upd H p o) := fun b x e => by rw [upd_ne (ne_of_none e h)]; exact e
theorem Sb.new {p q : Addr} {H : Hp} {o : HO} (h : H q = none) : Sb p H (upd H q o) := .of (same_new h)
theorem DealAt.keep {H H' : Hp} {p : Addr} (D : DealAt H p) (h : Same H H') : DealAt H' p := by
  obtain ⟨a, b, c, e, l⟩ := D
  exact ⟨a, b, c, h _ _ e, l⟩
/-- a made heap: all that stood but p stands, and a place that was free is free as long as nothing was made there -/
theorem Sb.free {p x : Addr} {H H' : Hp} (h : Sb p H H') (n : x ≠ p) (f : H' x = none) : H x = none := by
  cases e : H x with
  | none => rfl
  | some o =>
    have := h x o n e
    rw [f] at this
    cases this
section
variable {P : Program} {w : World} {K : PySem.W.Frag} {mg : Str → Option Value} {base : Heap}
def spNum (K : PySem.W.Frag) : Sp := fun vs H Q _ => ∃ (a : Addr) (ns : List Int) (k : Nat), vs = [.ref a, .int k] ∧ SqL K H a (ns.map V.int) ∧ ns.length ≤ 63 ∧ ∀ (z : Int) (H' : Hp), Same H H' → Q (.int z) H'
def spDeal : Sp := fun vs H Q _ => ∃ z : Int, vs = [.int z] ∧ ∀ (p : Addr) (H' : Hp), Same H H' → H p = none → DealAt H' p → Q (.ref p) H'
def spPick : Sp := fun vs H Q _ => ∃ (p : Addr) (m : Int), vs = [.ref p, .int m] ∧ DealAt H p ∧ 0 < m ∧ m < 1000000 ∧ ∀ (d : Int) (H' : Hp), 0 ≤ d → d < m → DealAt H' p → Sb p H H' → Q (.int d) H'
theorem ok_num {f : Addr} {fd : FuncData} (F : Fun K "_law_number" "_law_number" sNum f fd) (ml : mg "len" = none) (mi : mg "int" = none) : FnOk P w K mg base CX0 1 f fd ["_law_cells", "_law_k"] (spNum K) := by
  refine F.ok scNum (fun vs H Q E h => ?_) (fun cv A ou s H vs Q E hr h => ?_)
  · obtain ⟨a, ns, k, rfl, _⟩ := h
    rfl
  obtain ⟨a, ns, k, rfl, hS, hl, q⟩ := h
  refine ⟨_, pss_cons (ps_if (pt_cmpR op_lt (pv 1) (pe_callB call_len_seq (by rfl) ml PySem.boot_len (pa_cons (pv 0) pa_nil)) (nomark _))
      (pss_one (ps_ret (pe_callTy call_int1 (by rfl) mi boot_int (pa_cons (pe_ix ix_list (pv 0) (pv 1) (fun _ _ => rfl)) pa_nil)))) pss_nil)
    (pss_cons (ps_set (i := 2) scNum.nd rfl (.inl rfl) (pe_op op_mul pe_int (pe_op op_add (pv 1) pe_int)))
    (pss_cons (ps_for PassesOwn.never rfl (pi_list (pe_slice sl_list (pv 0) po_none (po_some pe_int))) (pg_name (i := 3) scNum.nd rfl (.inl rfl))
      (pss_cons (ps_set (i := 4) scNum.nd rfl (.inl rfl) (pe_op op_mod (pe_callTy call_int1 (by rfl) mi boot_int (pa_cons (pv 3) pa_nil)) pe_int))
      (pss_one (ps_set (i := 2) scNum.nd rfl (.inl rfl) (pe_op op_mod (pe_callTy call_int1 (by rfl) mi boot_int (pa_cons (pe_op op_add (pe_op op_add (pe_op op_mul (pv 2) pe_int) (pv 4)) (pv 1)) pa_nil)) pe_int)))))
    (pss_one (ps_ret (pv 2))))), ?_⟩
  refine ⟨.int k, rfl, .ref a, rfl, a, ns.map V.int, rfl, .inl hS, _, _, rfl, rfl, _, rfl, ite2 (fun e => ?_) (fun e => ?_)⟩
  · have hk : k < ns.length := by
      have := of_decide_eq_true e
      rw [List.length_map] at this
      omega
    refine ⟨.ref a, rfl, .int k, rfl, a, _, _, _, rfl, rfl, hS, atI_nat (j := k) (v := .int (ns[k])) (by rw [List.getElem?_map, List.getElem?_eq_getElem hk]; rfl), .inl ⟨_, rfl, ?_⟩⟩
    exact q _ H fun _ _ e => e
  refine ⟨.int k, rfl, _, _, rfl, rfl, _, _, rfl, rfl, .inl ⟨by decide, by decide⟩, ?_⟩
  refine ⟨.ref a, rfl, 6, rfl, a, _, rfl, hS, fun c nc => ?_⟩
  have s1 : Same H (upd H c (.lst (cutV (ns.map V.int) none (some 6)))) := same_new nc
  have hcut : ∃ ms : List Int, cutV (ns.map V.int) none (some 6) = ms.map V.int := by
    refine ⟨(ns.drop (HT.sIx ns.length 0 none)).take (HT.sIx ns.length ns.length (some 6) - HT.sIx ns.length 0 none), ?_⟩
    unfold cutV
    rw [List.length_map, List.map_take, List.map_drop]
  obtain ⟨ms, ems⟩ := hcut
  rw [ems] at s1 ⊢
  refine ⟨c, rfl, ⟨_, SqL.of upd_same⟩, for_list (K := K) (a := c) (xs := ms.map V.int) (fun i σ H2 => ∃ (z : Int) (o1 o2 : Option V), σ = [some (.ref a), some (.int k), some (.int z), o1, o2] ∧ H2 = upd H c (.lst (ms.map V.int)))
    ⟨_, none, none, rfl, rfl⟩ (fun i σ H2 _ ⟨_, _, _, _, e⟩ => by rw [e]; exact SqL.of upd_same) ?_ ?_⟩
  · rintro i y σ H2 hi ⟨z, o1, o2, rfl, rfl⟩
    obtain ⟨m, rfl⟩ : ∃ m, y = V.int m := by
      rw [List.getElem?_map] at hi
      cases e : ms[i]? with
      | none => rw [e] at hi; cases hi
      | some m => rw [e] at hi; exact ⟨m, (Option.some.inj hi).symm⟩
    refine ⟨.int m, rfl, .inl ⟨_, rfl, _, _, rfl, rfl, (by show (0 : Int) < 999983; decide), ?_⟩⟩
    refine ⟨_, rfl, _, _, rfl, rfl, .inr ⟨by decide, by decide⟩, _, rfl, _, _, rfl, rfl, _, rfl, _, _, rfl, rfl, .inl ⟨_, rfl, _, _, rfl, rfl, (by show (0 : Int) < 2147483423; decide), ?_⟩⟩
    exact ⟨_, _, _, rfl, rfl⟩
  · rintro σ H2 ⟨z, o1, o2, rfl, rfl⟩
    exact ⟨_, rfl, q z _ s1⟩
end
end Kx

namespace Kx
open PySem PySem.Spec PyProof.Rows L2 Gd
section
variable {P : Program} {w : World} {K : PySem.W.Frag} {mg : Str → Option Value} {base : Heap}
theorem ok_deal {f : Addr} {fd : FuncData} (F : Fun K "_law_deal" "_law_deal" sDeal f fd) (ma : mg "abs" = none) (mi : mg "int" = none) : FnOk P w K mg base CX0 1 f fd ["_law_number_here"] spDeal := by
  refine F.ok scDeal (fun vs H Q E h => ?_) (fun cv A ou s H vs Q E hr h => ?_)
  · obtain ⟨z, rfl, _⟩ := h
    rfl
  obtain ⟨z, rfl, q⟩ := h
  refine ⟨_, pss_one (ps_ret (pe_lst (pa_cons (pe_ifExp (PW.pt (pw_or (pt_cmpR op_lt (pv 0) pe_int (nomark _)) (pw_or1 (pt_cmpR op_ge (pv 0) (pe_op op_pow pe_int pe_int) (nomark _)))))
      (pe_callB call_abs (by rfl) ma boot_abs (pa_cons (pv 0) pa_nil)) pe_int)
    (pa_cons (pe_op op_mod (pe_callTy call_int1 (by rfl) mi boot_int (pa_cons (pv 0) pa_nil)) pe_int) (pa_cons pe_int pa_nil))))), ?_⟩
  have fin : ∀ x : Int, (fun (x : V) (H1 : Hp) => tCons (tOp (rI (fun _ j => 0 < j) fun i j => .int (i % j)) (tCB (fun xs H Q => (∃ i, xs = [.int i] ∧ Q (.int i) H) ∨ ∃ k, xs = [.bl k] ∧ Q (.int (if k then 1 else 0)) H) (tCons (tVar 0) tNil)) (tC (.int 2147483423))) (tCons (tC (.int 0)) tNil) [some (.int z)] H1 fun xs H2 => (x :: xs).length ≤ sizeLine ∧ ∀ p, H2 p = none → Q (.ref p) (upd H2 p (.lst (x :: xs)))) (.int x) H := by
    intro x
    refine ⟨.int z, rfl, .inl ⟨_, rfl, _, _, rfl, rfl, (by show (0 : Int) < 2147483423; decide), (by show 3 ≤ sizeLine; decide), fun p hp => ?_⟩⟩
    exact q p _ (same_new hp) hp ⟨x, z % 2147483423, 0, upd_same, Int.emod_nonneg _ (by decide), Int.emod_lt_of_pos _ (by decide)⟩
  refine ⟨.int z, rfl, _, _, rfl, rfl, _, rfl, ite2 (fun e => iteT ?_) (fun e => ?_)⟩
  · exact ⟨.int z, rfl, _, rfl, fin _⟩
  · refine ⟨.int z, rfl, _, _, rfl, rfl, ⟨by decide, by decide, by decide⟩, _, _, rfl, rfl, _, rfl, ite2 (fun e => ?_) (fun e => ?_)⟩
    · exact ⟨.int z, rfl, _, rfl, fin _⟩
    · exact fin 0
theorem ok_pick {f : Addr} {fd : FuncData} (F : Fun K "_law_pick" "_law_pick" sPick f fd) (mi : mg "int" = none) : FnOk P w K mg base CX0 1 f fd ["_law_deal_here", "_law_many"] spPick := by
  refine F.ok scPick (fun vs H Q E h => ?_) (fun cv A ou s H vs Q E hr h => ?_)
  · obtain ⟨p, m, rfl, _⟩ := h
    rfl
  obtain ⟨p, m, rfl, ⟨a, b, c, hp, hb0, hb1⟩, m0, m1, q⟩ := h
  refine ⟨_, pss_cons (ps_asg (pe_op op_add (pe_ix ix_list (pv 0) pe_int (fun _ _ => rfl)) pe_int) (pg_sub (pv 0) pe_int set_list))
    (pss_cons (ps_if (pt_cmpR op_gt (pe_ix ix_list (pv 0) pe_int (fun _ _ => rfl)) pe_int (nomark _))
      (pss_cons (ps_set (i := 2) scPick.nd rfl (.inl rfl) (pe_op op_mod (pe_callTy call_int1 (by rfl) mi boot_int (pa_cons (pe_ix ix_list (pv 0) pe_int (fun _ _ => rfl)) pa_nil)) (pv 1)))
      (pss_cons (ps_asg (pe_op op_fdiv (pe_ix ix_list (pv 0) pe_int (fun _ _ => rfl)) (pv 1)) (pg_sub (pv 0) pe_int set_list))
      (pss_one (ps_ret (pv 2))))) pss_nil)
    (pss_cons (ps_par (i := 3) (j := 4) (by rfl) scPick.nd rfl rfl (by decide) rfl rfl (pa_cons (pe_callTy call_int1 (by rfl) mi boot_int (pa_cons (pe_ix ix_list (pv 0) pe_int (fun _ _ => rfl)) pa_nil)) (pa_cons (pe_callTy call_int1 (by rfl) mi boot_int (pa_cons (pe_ix ix_list (pv 0) pe_int (fun _ _ => rfl)) pa_nil)) pa_nil)) (by rfl))
    (pss_cons (ps_set (i := 3) scPick.nd rfl (.inl rfl) (pe_op op_mod (pe_callTy call_int1 (by rfl) mi boot_int (pa_cons (pe_op op_add (pe_op op_add (pe_op op_mul (pv 3) (pe_op op_add (pe_op op_add (pv 3) pe_int) (pe_op op_mul pe_int (pv 4)))) (pe_op op_mul pe_int (pv 4))) pe_int) pa_nil)) pe_int))
    (pss_cons (ps_asg (pv 3) (pg_sub (pv 0) pe_int set_list))
    (pss_one (ps_ret (pe_op op_mod (pe_callTy call_int1 (by rfl) mi boot_int (pa_cons (pe_op op_fdiv (pv 3) pe_int) pa_nil)) (pv 1)))))))), ?_⟩
  refine ⟨.ref p, rfl, p, _, _, .int c, rfl, rfl, SqL.of hp, rfl, _, _, rfl, rfl, .ref p, rfl, p, _, _, 2, rfl, rfl, hp, rfl, ?_⟩
  have h1 : upd H p (.lst [V.int a, .int b, .int (c + 1)]) p = some (.lst [V.int a, .int b, .int (c + 1)]) := upd_same
  have b1 : Sb p H (upd H p (.lst [V.int a, .int b, .int (c + 1)])) := .set
  refine ⟨.ref p, rfl, p, _, _, .int a, rfl, rfl, SqL.of h1, rfl, _, _, rfl, rfl, _, rfl, ite2 (fun e => ?_) (fun e => ?_)⟩
  · refine ⟨.ref p, rfl, p, _, _, .int a, rfl, rfl, SqL.of h1, rfl, .inl ⟨_, rfl, .int m, rfl, _, _, rfl, rfl, m0, ?_⟩⟩
    refine ⟨.ref p, rfl, p, _, _, .int a, rfl, rfl, SqL.of h1, rfl, .int m, rfl, _, _, rfl, rfl, ⟨m0, by omega⟩, .ref p, rfl, p, _, _, 0, rfl, rfl, h1, rfl, ?_⟩
    refine ⟨.int (a % m), rfl, ?_⟩
    exact q _ _ (Int.emod_nonneg _ (by omega)) (Int.emod_lt_of_pos _ m0) ⟨a / m, b, c + 1, upd_same, hb0, hb1⟩ (b1.trans .set)
  · refine ⟨.ref p, rfl, p, _, _, .int b, rfl, rfl, SqL.of h1, rfl, .inl ⟨_, rfl, .ref p, rfl, p, _, _, .int (c + 1), rfl, rfl, SqL.of h1, rfl, .inl ⟨_, rfl, _, _, rfl, ?_⟩⟩⟩
    refine ⟨.int b, rfl, .int b, rfl, _, _, rfl, rfl, .int (c + 1), rfl, _, _, rfl, rfl, .inl ⟨by decide, by decide⟩, _, _, rfl, rfl, _, _, rfl, rfl, .inl ⟨by omega, by omega⟩, ?_⟩
    refine ⟨.int (c + 1), rfl, _, _, rfl, rfl, .inl ⟨by decide, by decide⟩, _, _, rfl, rfl, _, _, rfl, rfl, .inl ⟨_, rfl, _, _, rfl, rfl, (by show (0 : Int) < 2147483423; decide), ?_⟩⟩
    refine ⟨_, rfl, .ref p, rfl, p, _, _, 1, rfl, rfl, h1, rfl, ?_⟩
    refine ⟨_, rfl, _, _, rfl, rfl, ⟨by decide, by decide⟩, .inl ⟨_, rfl, .int m, rfl, _, _, rfl, rfl, m0, ?_⟩⟩
    exact q _ _ (Int.emod_nonneg _ (by omega)) (Int.emod_lt_of_pos _ m0) ⟨a, _, c + 1, upd_same, Int.emod_nonneg _ (by decide), Int.emod_lt_of_pos _ (by decide)⟩ (b1.trans .set)
end
end Kx
namespace Ky
open PySem PySem.Spec PyProof.Rows L2 Gd
abbrev sVals : Stmt := topS 60
abbrev sNVals : Stmt := topS 61
abbrev sIdx : Stmt := topS 62
abbrev sNIdx : Stmt := topS 63
abbrev sTops : Stmt := topS 64
abbrev sCls : Stmt := topS 65
abbrev sKin : Stmt := topS 66
abbrev sOther : Stmt := topS 67
abbrev sRight : Stmt := topS 68
abbrev sLaw : Stmt := topS 69
theorem scVals : FnScope ["_law_thing", "_law_seen"] ["_law_thing"] (defScope sVals) := ⟨rfl, rfl, rfl, by decide +kernel, rfl, by decide +kernel, by decide +kernel⟩
theorem scNVals : FnScope ["_law_thing", "_law_seen"] ["_law_thing"] (defScope sNVals) := ⟨rfl, rfl, rfl, by decide +kernel, rfl, by decide +kernel, by decide +kernel⟩
theorem scIdx : FnScope ["_law_thing", "_law_seen"] ["_law_thing"] (defScope sIdx) := ⟨rfl, rfl, rfl, by decide +kernel, rfl, by decide +kernel, by decide +kernel⟩
theorem scNIdx : FnScope ["_law_thing", "_law_seen"] ["_law_thing"] (defScope sNIdx) := ⟨rfl, rfl, rfl, by decide +kernel, rfl, by decide +kernel, by decide +kernel⟩
theorem scTops : FnScope ["_law_thing", "_law_seen"] ["_law_thing"] (defScope sTops) := ⟨rfl, rfl, rfl, by decide +kernel, rfl, by decide +kernel, by decide +kernel⟩
theorem scCls : FnScope ["_law_e", "_law_seen"] ["_law_e"] (defScope sCls) := ⟨rfl, rfl, rfl, by decide +kernel, rfl, by decide +kernel, by decide +kernel⟩
theorem scKin : FnScope ["_law_e", "_law_bases"] ["_law_e"] (defScope sKin) := ⟨rfl, rfl, rfl, by decide +kernel, rfl, by decide +kernel, by decide +kernel⟩
/-- what is known of the classes -/
structure TX (P : Program) (w : World) (K : PySem.W.Frag) (mg : Str → Option Value) (base : Heap) (c : Nat → Addr) (t s l : Addr) : Prop where
  isi : mg "isinstance" = none
  gT : mg "TreeError" = some (.ref t)
  gS : mg "StateError" = some (.ref s)
  gL : mg "LimitError" = some (.ref l)
  bV : mg "ValueError" = none
  bL : mg "LookupError" = none
  bA : mg "ArithmeticError" = none
  o0 : One P w K mg base "NotASchema" "value" (c 0)
  o1 : One P w K mg base "NotATree" "value" (c 1)
  o2 : One P w K mg base "NotAWriter" "value" (c 2)
  o3 : One P w K mg base "NotAPattern" "value" (c 3)
  o4 : One P w K mg base "UnknownKind" "value" (c 4)
  o5 : One P w K mg base "UnknownConstructor" "value" (c 5)
  o6 : One P w K mg base "UnknownMode" "value" (c 6)
  o7 : One P w K mg base "InvalidText" "value" (c 7)
  o8 : One P w K mg base "InvalidPath" "value" (c 8)
  o9 : One P w K mg base "InvalidTree" "value" (c 9)
  o10 : One P w K mg base "InvalidNumber" "value" (c 10)
  o11 : One P w K mg base "InvalidStart" "value" (c 11)
  o12 : One P w K mg base "InvalidString" "value" (c 12)
  o13 : One P w K mg base "InvalidLine" "value" (c 13)
  o14 : One P w K mg base "InvalidKinds" "index" (c 14)
  o15 : One P w K mg base "InvalidConstructors" "index" (c 15)
  o16 : One P w K mg base "InvalidFields" "index" (c 16)
  o17 : One P w K mg base "InvalidRows" "index" (c 17)
  o18 : One P w K mg base "InvalidRules" "index" (c 18)
  o19 : One P w K mg base "InvalidSigns" "index" (c 19)
  o20 : One P w K mg base "InvalidGood" "index" (c 20)
  o21 : One P w K mg base "InvalidMoves" "index" (c 21)
  o22 : One P w K mg base "InvalidDeed" "index" (c 22)
  o23 : One P w K mg base "InvalidWriters" "index" (c 23)
  o24 : One P w K mg base "TooManyRows" "limit" (c 24)
  o25 : One P w K mg base "TooManyJoins" "limit" (c 25)
  o26 : One P w K mg base "TooManyFaces" "limit" (c 26)
  o27 : One P w K mg base "TooManyDeeds" "limit" (c 27)
  o28 : One P w K mg base "EmptyKind" "kind" (c 28)
  o29 : Two P w K mg base "MissingRule" "mode" "name" (c 29)
  o30 : One P w K mg base "Unlike" "tree" (c 30)
  o31 : Two P w K mg base "Refused" "deed" "tree" (c 31)
  o32 : mg "OtherSchema" = some (.ref (c 32)) ∧ PySem.W.keepIn K (.ref (c 32)) = true ∧ PySem.W.excIn K (c 32) [.type "LookupError", .type "Exception", .type "BaseException", .type "object"] "LookupError.__new__" = true ∧ XC K (c 32)
  o33 : mg "NothingToUndo" = some (.ref (c 33)) ∧ PySem.W.keepIn K (.ref (c 33)) = true ∧ PySem.W.excIn K (c 33) [.type "LookupError", .type "Exception", .type "BaseException", .type "object"] "LookupError.__new__" = true ∧ XC K (c 33)
  o34 : mg "Busy" = some (.ref (c 34)) ∧ PySem.W.keepIn K (.ref (c 34)) = true ∧ PySem.W.excIn K (c 34) [.type "LookupError", .type "Exception", .type "BaseException", .type "object"] "LookupError.__new__" = true ∧ XC K (c 34)
  o35 : One P w K mg base "TooLong" "found" (c 35)
  cls : ∀ i, i < 36 → (∀ u ∈ clsV c, (PySem.W.kitOne K (.ref (c i)) u).isSome = true) ∧ ((clsV c).map (isV K (c i))).count true = 1
  kin : ∀ i, i < 36 → (kinV t s l).map (PySem.W.kitOne K (.ref (c i))) = (if i < 24 then [true, false, false, true, false, false] else if i < 28 ∨ i = 35 then [false, false, true, false, false, true] else [false, true, false, false, true, false]).map some
/-- what follows a statement, shown once -/
theorem seq_join {t u : TS} {D : Ends} {σ : L2.St} {H : Hp} (R : L2.St → Hp → Prop) (hR : ∀ σ H, R σ H → u D σ H) (h : (∀ σ H, R σ H → u D σ H) → t { D with nx := u D } σ H) : tSeq t u D σ H := h hR
theorem some_isV {K : PySem.W.Frag} {C : Addr} {us : List Value} (h : ∀ u ∈ us, (PySem.W.kitOne K (.ref C) u).isSome = true) : us.map (PySem.W.kitOne K (.ref C)) = (us.map (isV K C)).map some := by
  rw [List.map_map]
  refine List.map_congr_left fun u hu => ?_
  obtain ⟨b, e⟩ := Option.isSome_iff_exists.mp (h u hu)
  show _ = some (isV K C u)
  unfold isV
  rw [e]
  rfl
section
variable {P : Program} {w : World} {K : PySem.W.Frag} {mg : Str → Option Value} {base : Heap} {c : Nat → Addr} {t s l : Addr}
def spRow (f : Str) (Cs : List Addr) : Sp := fun vs H Q _ => ∃ v, vs = [v] ∧ ∀ D xs H', Same H H' → H' D = some (.lst xs) → Errs H' f v xs Cs → Q (.ref D) H'
def spCls (K : PySem.W.Frag) (c : Nat → Addr) : Sp := fun vs H Q _ => ∃ x C, vs = [x] ∧ IsAt K H x C ∧ (∀ u ∈ clsV c, (PySem.W.kitOne K (.ref C) u).isSome = true) ∧ ∀ D H', Same H H' → H' D = some (.lst (((clsV c).map (isV K C)).map V.bl)) → Q (.ref D) H'
def spKin (K : PySem.W.Frag) (t s l : Addr) : Sp := fun vs H Q _ => ∃ x C b1 b2 b3 b4 b5 b6, vs = [x] ∧ IsAt K H x C ∧ (kinV t s l).map (PySem.W.kitOne K (.ref C)) = [some b1, some b2, some b3, some b4, some b5, some b6] ∧
  ∀ D H', Same H H' → H' D = some (.lst [.bl b1, .bl b2, .bl b3, .bl b4, .bl b5, .bl b6]) → Q (.ref D) H'
theorem ok_vals {f : Addr} {fd : FuncData} (F : Fun K "_law_values" "_law_values" sVals f fd) (X : TX P w K mg base c t s l) : FnOk P w K mg base CX0 3 f fd ["_law_thing"] (spRow "value" [c 0, c 1, c 2, c 3, c 4, c 5, c 6, c 7, c 8, c 9, c 10, c 11, c 12, c 13]) := by
  refine F.ok scVals (fun vs H Q E h => ?_) (fun cv A ou s0 H vs Q E hr h => ?_)
  · obtain ⟨v, rfl, _⟩ := h
    rfl
  obtain ⟨v, rfl, q⟩ := h
  have hr2 : Room 2 _ := hr
  refine ⟨_, (pss_cons (ps_set (i := 1) scVals.nd rfl (.inl rfl) (pe_lst (po_cons1 (pe_one X.o0 hr2 (by rfl) (pv 0)) (po_cons1 (pe_one X.o1 hr2 (by rfl) (pv 0)) (po_cons1 (pe_one X.o2 hr2 (by rfl) (pv 0)) (po_cons1 (pe_one X.o3 hr2 (by rfl) (pv 0)) po_nil1)))))) (pss_cons (ps_set (i := 1) scVals.nd rfl (.inl rfl) (pe_op op_cat (pv 1) (pe_lst (po_cons1 (pe_one X.o4 hr2 (by rfl) (pv 0)) (po_cons1 (pe_one X.o5 hr2 (by rfl) (pv 0)) (po_cons1 (pe_one X.o6 hr2 (by rfl) (pv 0)) (po_cons1 (pe_one X.o7 hr2 (by rfl) (pv 0)) po_nil1))))))) (pss_cons (ps_set (i := 1) scVals.nd rfl (.inl rfl) (pe_op op_cat (pv 1) (pe_lst (po_cons1 (pe_one X.o8 hr2 (by rfl) (pv 0)) (po_cons1 (pe_one X.o9 hr2 (by rfl) (pv 0)) (po_cons1 (pe_one X.o10 hr2 (by rfl) (pv 0)) (po_cons1 (pe_one X.o11 hr2 (by rfl) (pv 0)) po_nil1))))))) (pss_cons (ps_set (i := 1) scVals.nd rfl (.inl rfl) (pe_op op_cat (pv 1) (pe_lst (po_cons1 (pe_one X.o12 hr2 (by rfl) (pv 0)) (po_cons1 (pe_one X.o13 hr2 (by rfl) (pv 0)) po_nil1))))) (pss_one (ps_ret (pv 1))))))), ?_⟩
  refine ⟨v, rfl, fun x0 H0 s0 e0 => ?_⟩
  have l0 := e0.length
  refine ⟨(by rw [l0]; show 4 ≤ sizeLine; decide), fun D0 n0 => ?_⟩
  have S0 : Same H (upd H0 D0 (.lst x0)) := s0.trans (fun b o e => by rw [upd_ne (ne_of_none e n0)]; exact e)
  have E0' := e0.keep (H' := upd H0 D0 (.lst x0)) (fun b o e => by rw [upd_ne (ne_of_none e n0)]; exact e)
  have a0 : (upd H0 D0 (.lst x0)) D0 = some (.lst x0) := upd_same
  clear l0
  refine ⟨.ref D0, rfl, v, rfl, fun x1 H1 s1 e1 => ?_⟩
  have l1 := e1.length
  have q1 := E0'.keep s1
  have m1 := q1.length
  refine ⟨(by rw [l1]; show 4 ≤ sizeLine; decide), fun B1 p1 => ?_⟩
  have r1 : Same H1 (upd H1 B1 (.lst x1)) := fun b o e => by rw [upd_ne (ne_of_none e p1)]; exact e
  refine ⟨D0, B1, x0, x1, rfl, rfl, r1 _ _ (s1 _ _ a0), upd_same, (by rw [l1, m1]; show 4 + 4 ≤ sizeLine; decide), fun D1 n1 => ?_⟩
  have t1 : Same (upd H1 B1 (.lst x1)) (upd (upd H1 B1 (.lst x1)) D1 (.lst (x0 ++ x1))) := fun b o e => by rw [upd_ne (ne_of_none e n1)]; exact e
  have S1 := S0.trans (s1.trans (r1.trans t1))
  have E1' := ((q1.keep r1).keep t1).app ((e1.keep r1).keep t1)
  have a1 : (upd (upd H1 B1 (.lst x1)) D1 (.lst (x0 ++ x1))) D1 = some (.lst (x0 ++ x1)) := upd_same
  generalize hy1 : x0 ++ x1 = y1 at *
  refine ⟨.ref D1, rfl, v, rfl, fun x2 H2 s2 e2 => ?_⟩
  have l2 := e2.length
  have q2 := E1'.keep s2
  have m2 := q2.length
  refine ⟨(by rw [l2]; show 4 ≤ sizeLine; decide), fun B2 p2 => ?_⟩
  have r2 : Same H2 (upd H2 B2 (.lst x2)) := fun b o e => by rw [upd_ne (ne_of_none e p2)]; exact e
  refine ⟨D1, B2, y1, x2, rfl, rfl, r2 _ _ (s2 _ _ a1), upd_same, (by rw [l2, m2]; show 8 + 4 ≤ sizeLine; decide), fun D2 n2 => ?_⟩
  have t2 : Same (upd H2 B2 (.lst x2)) (upd (upd H2 B2 (.lst x2)) D2 (.lst (y1 ++ x2))) := fun b o e => by rw [upd_ne (ne_of_none e n2)]; exact e
  have S2 := S1.trans (s2.trans (r2.trans t2))
  have E2' := ((q2.keep r2).keep t2).app ((e2.keep r2).keep t2)
  have a2 : (upd (upd H2 B2 (.lst x2)) D2 (.lst (y1 ++ x2))) D2 = some (.lst (y1 ++ x2)) := upd_same
  generalize hy2 : y1 ++ x2 = y2 at *
  refine ⟨.ref D2, rfl, v, rfl, fun x3 H3 s3 e3 => ?_⟩
  have l3 := e3.length
  have q3 := E2'.keep s3
  have m3 := q3.length
  refine ⟨(by rw [l3]; show 2 ≤ sizeLine; decide), fun B3 p3 => ?_⟩
  have r3 : Same H3 (upd H3 B3 (.lst x3)) := fun b o e => by rw [upd_ne (ne_of_none e p3)]; exact e
  refine ⟨D2, B3, y2, x3, rfl, rfl, r3 _ _ (s3 _ _ a2), upd_same, (by rw [l3, m3]; show 12 + 2 ≤ sizeLine; decide), fun D3 n3 => ?_⟩
  have t3 : Same (upd H3 B3 (.lst x3)) (upd (upd H3 B3 (.lst x3)) D3 (.lst (y2 ++ x3))) := fun b o e => by rw [upd_ne (ne_of_none e n3)]; exact e
  have S3 := S2.trans (s3.trans (r3.trans t3))
  have E3' := ((q3.keep r3).keep t3).app ((e3.keep r3).keep t3)
  have a3 : (upd (upd H3 B3 (.lst x3)) D3 (.lst (y2 ++ x3))) D3 = some (.lst (y2 ++ x3)) := upd_same
  generalize hy3 : y2 ++ x3 = y3 at *
  exact ⟨.ref D3, rfl, q D3 y3 _ S3 a3 E3'⟩
theorem ok_nvals {f : Addr} {fd : FuncData} (F : Fun K "_law_named_values" "_law_named_values" sNVals f fd) (X : TX P w K mg base c t s l) : FnOk P w K mg base CX0 3 f fd ["_law_thing"] (spRow "value" [c 0, c 1, c 2, c 3, c 4, c 5, c 6, c 7, c 8, c 9, c 10, c 11, c 12, c 13]) := by
  refine F.ok scNVals (fun vs H Q E h => ?_) (fun cv A ou s0 H vs Q E hr h => ?_)
  · obtain ⟨v, rfl, _⟩ := h
    rfl
  obtain ⟨v, rfl, q⟩ := h
  have hr2 : Room 2 _ := hr
  refine ⟨_, (pss_cons (ps_set (i := 1) scNVals.nd rfl (.inl rfl) (pe_lst (po_cons1 (pe_oneK X.o0 hr2 (by rfl) (pv 0)) (po_cons1 (pe_oneK X.o1 hr2 (by rfl) (pv 0)) (po_cons1 (pe_oneK X.o2 hr2 (by rfl) (pv 0)) (po_cons1 (pe_oneK X.o3 hr2 (by rfl) (pv 0)) po_nil1)))))) (pss_cons (ps_set (i := 1) scNVals.nd rfl (.inl rfl) (pe_op op_cat (pv 1) (pe_lst (po_cons1 (pe_oneK X.o4 hr2 (by rfl) (pv 0)) (po_cons1 (pe_oneK X.o5 hr2 (by rfl) (pv 0)) po_nil1))))) (pss_cons (ps_set (i := 1) scNVals.nd rfl (.inl rfl) (pe_op op_cat (pv 1) (pe_lst (po_cons1 (pe_oneK X.o6 hr2 (by rfl) (pv 0)) (po_cons1 (pe_oneK X.o7 hr2 (by rfl) (pv 0)) po_nil1))))) (pss_cons (ps_set (i := 1) scNVals.nd rfl (.inl rfl) (pe_op op_cat (pv 1) (pe_lst (po_cons1 (pe_oneK X.o8 hr2 (by rfl) (pv 0)) (po_cons1 (pe_oneK X.o9 hr2 (by rfl) (pv 0)) po_nil1))))) (pss_cons (ps_set (i := 1) scNVals.nd rfl (.inl rfl) (pe_op op_cat (pv 1) (pe_lst (po_cons1 (pe_oneK X.o10 hr2 (by rfl) (pv 0)) (po_cons1 (pe_oneK X.o11 hr2 (by rfl) (pv 0)) po_nil1))))) (pss_cons (ps_set (i := 1) scNVals.nd rfl (.inl rfl) (pe_op op_cat (pv 1) (pe_lst (po_cons1 (pe_oneK X.o12 hr2 (by rfl) (pv 0)) (po_cons1 (pe_oneK X.o13 hr2 (by rfl) (pv 0)) po_nil1))))) (pss_one (ps_ret (pv 1))))))))), ?_⟩
  refine ⟨v, rfl, fun x0 H0 s0 e0 => ?_⟩
  have l0 := e0.length
  refine ⟨(by rw [l0]; show 4 ≤ sizeLine; decide), fun D0 n0 => ?_⟩
  have S0 : Same H (upd H0 D0 (.lst x0)) := s0.trans (fun b o e => by rw [upd_ne (ne_of_none e n0)]; exact e)
  have E0' := e0.keep (H' := upd H0 D0 (.lst x0)) (fun b o e => by rw [upd_ne (ne_of_none e n0)]; exact e)
  have a0 : (upd H0 D0 (.lst x0)) D0 = some (.lst x0) := upd_same
  clear l0
  refine ⟨.ref D0, rfl, v, rfl, fun x1 H1 s1 e1 => ?_⟩
  have l1 := e1.length
  have q1 := E0'.keep s1
  have m1 := q1.length
  refine ⟨(by rw [l1]; show 2 ≤ sizeLine; decide), fun B1 p1 => ?_⟩
  have r1 : Same H1 (upd H1 B1 (.lst x1)) := fun b o e => by rw [upd_ne (ne_of_none e p1)]; exact e
  refine ⟨D0, B1, x0, x1, rfl, rfl, r1 _ _ (s1 _ _ a0), upd_same, (by rw [l1, m1]; show 4 + 2 ≤ sizeLine; decide), fun D1 n1 => ?_⟩
  have t1 : Same (upd H1 B1 (.lst x1)) (upd (upd H1 B1 (.lst x1)) D1 (.lst (x0 ++ x1))) := fun b o e => by rw [upd_ne (ne_of_none e n1)]; exact e
  have S1 := S0.trans (s1.trans (r1.trans t1))
  have E1' := ((q1.keep r1).keep t1).app ((e1.keep r1).keep t1)
  have a1 : (upd (upd H1 B1 (.lst x1)) D1 (.lst (x0 ++ x1))) D1 = some (.lst (x0 ++ x1)) := upd_same
  generalize hy1 : x0 ++ x1 = y1 at *
  refine ⟨.ref D1, rfl, v, rfl, fun x2 H2 s2 e2 => ?_⟩
  have l2 := e2.length
  have q2 := E1'.keep s2
  have m2 := q2.length
  refine ⟨(by rw [l2]; show 2 ≤ sizeLine; decide), fun B2 p2 => ?_⟩
  have r2 : Same H2 (upd H2 B2 (.lst x2)) := fun b o e => by rw [upd_ne (ne_of_none e p2)]; exact e
  refine ⟨D1, B2, y1, x2, rfl, rfl, r2 _ _ (s2 _ _ a1), upd_same, (by rw [l2, m2]; show 6 + 2 ≤ sizeLine; decide), fun D2 n2 => ?_⟩
  have t2 : Same (upd H2 B2 (.lst x2)) (upd (upd H2 B2 (.lst x2)) D2 (.lst (y1 ++ x2))) := fun b o e => by rw [upd_ne (ne_of_none e n2)]; exact e
  have S2 := S1.trans (s2.trans (r2.trans t2))
  have E2' := ((q2.keep r2).keep t2).app ((e2.keep r2).keep t2)
  have a2 : (upd (upd H2 B2 (.lst x2)) D2 (.lst (y1 ++ x2))) D2 = some (.lst (y1 ++ x2)) := upd_same
  generalize hy2 : y1 ++ x2 = y2 at *
  refine ⟨.ref D2, rfl, v, rfl, fun x3 H3 s3 e3 => ?_⟩
  have l3 := e3.length
  have q3 := E2'.keep s3
  have m3 := q3.length
  refine ⟨(by rw [l3]; show 2 ≤ sizeLine; decide), fun B3 p3 => ?_⟩
  have r3 : Same H3 (upd H3 B3 (.lst x3)) := fun b o e => by rw [upd_ne (ne_of_none e p3)]; exact e
  refine ⟨D2, B3, y2, x3, rfl, rfl, r3 _ _ (s3 _ _ a2), upd_same, (by rw [l3, m3]; show 8 + 2 ≤ sizeLine; decide), fun D3 n3 => ?_⟩
  have t3 : Same (upd H3 B3 (.lst x3)) (upd (upd H3 B3 (.lst x3)) D3 (.lst (y2 ++ x3))) := fun b o e => by rw [upd_ne (ne_of_none e n3)]; exact e
  have S3 := S2.trans (s3.trans (r3.trans t3))
  have E3' := ((q3.keep r3).keep t3).app ((e3.keep r3).keep t3)
  have a3 : (upd (upd H3 B3 (.lst x3)) D3 (.lst (y2 ++ x3))) D3 = some (.lst (y2 ++ x3)) := upd_same
  generalize hy3 : y2 ++ x3 = y3 at *
  refine ⟨.ref D3, rfl, v, rfl, fun x4 H4 s4 e4 => ?_⟩
  have l4 := e4.length
  have q4 := E3'.keep s4
  have m4 := q4.length
  refine ⟨(by rw [l4]; show 2 ≤ sizeLine; decide), fun B4 p4 => ?_⟩
  have r4 : Same H4 (upd H4 B4 (.lst x4)) := fun b o e => by rw [upd_ne (ne_of_none e p4)]; exact e
  refine ⟨D3, B4, y3, x4, rfl, rfl, r4 _ _ (s4 _ _ a3), upd_same, (by rw [l4, m4]; show 10 + 2 ≤ sizeLine; decide), fun D4 n4 => ?_⟩
  have t4 : Same (upd H4 B4 (.lst x4)) (upd (upd H4 B4 (.lst x4)) D4 (.lst (y3 ++ x4))) := fun b o e => by rw [upd_ne (ne_of_none e n4)]; exact e
  have S4 := S3.trans (s4.trans (r4.trans t4))
  have E4' := ((q4.keep r4).keep t4).app ((e4.keep r4).keep t4)
  have a4 : (upd (upd H4 B4 (.lst x4)) D4 (.lst (y3 ++ x4))) D4 = some (.lst (y3 ++ x4)) := upd_same
  generalize hy4 : y3 ++ x4 = y4 at *
  refine ⟨.ref D4, rfl, v, rfl, fun x5 H5 s5 e5 => ?_⟩
  have l5 := e5.length
  have q5 := E4'.keep s5
  have m5 := q5.length
  refine ⟨(by rw [l5]; show 2 ≤ sizeLine; decide), fun B5 p5 => ?_⟩
  have r5 : Same H5 (upd H5 B5 (.lst x5)) := fun b o e => by rw [upd_ne (ne_of_none e p5)]; exact e
  refine ⟨D4, B5, y4, x5, rfl, rfl, r5 _ _ (s5 _ _ a4), upd_same, (by rw [l5, m5]; show 12 + 2 ≤ sizeLine; decide), fun D5 n5 => ?_⟩
  have t5 : Same (upd H5 B5 (.lst x5)) (upd (upd H5 B5 (.lst x5)) D5 (.lst (y4 ++ x5))) := fun b o e => by rw [upd_ne (ne_of_none e n5)]; exact e
  have S5 := S4.trans (s5.trans (r5.trans t5))
  have E5' := ((q5.keep r5).keep t5).app ((e5.keep r5).keep t5)
  have a5 : (upd (upd H5 B5 (.lst x5)) D5 (.lst (y4 ++ x5))) D5 = some (.lst (y4 ++ x5)) := upd_same
  generalize hy5 : y4 ++ x5 = y5 at *
  exact ⟨.ref D5, rfl, q D5 y5 _ S5 a5 E5'⟩
theorem ok_idx {f : Addr} {fd : FuncData} (F : Fun K "_law_indexes" "_law_indexes" sIdx f fd) (X : TX P w K mg base c t s l) : FnOk P w K mg base CX0 3 f fd ["_law_thing"] (spRow "index" [c 14, c 15, c 16, c 17, c 18, c 19, c 20, c 21, c 22, c 23]) := by
  refine F.ok scIdx (fun vs H Q E h => ?_) (fun cv A ou s0 H vs Q E hr h => ?_)
  · obtain ⟨v, rfl, _⟩ := h
    rfl
  obtain ⟨v, rfl, q⟩ := h
  have hr2 : Room 2 _ := hr
  refine ⟨_, (pss_cons (ps_set (i := 1) scIdx.nd rfl (.inl rfl) (pe_lst (po_cons1 (pe_one X.o14 hr2 (by rfl) (pv 0)) (po_cons1 (pe_one X.o15 hr2 (by rfl) (pv 0)) (po_cons1 (pe_one X.o16 hr2 (by rfl) (pv 0)) (po_cons1 (pe_one X.o17 hr2 (by rfl) (pv 0)) po_nil1)))))) (pss_cons (ps_set (i := 1) scIdx.nd rfl (.inl rfl) (pe_op op_cat (pv 1) (pe_lst (po_cons1 (pe_one X.o18 hr2 (by rfl) (pv 0)) (po_cons1 (pe_one X.o19 hr2 (by rfl) (pv 0)) (po_cons1 (pe_one X.o20 hr2 (by rfl) (pv 0)) (po_cons1 (pe_one X.o21 hr2 (by rfl) (pv 0)) po_nil1))))))) (pss_cons (ps_set (i := 1) scIdx.nd rfl (.inl rfl) (pe_op op_cat (pv 1) (pe_lst (po_cons1 (pe_one X.o22 hr2 (by rfl) (pv 0)) (po_cons1 (pe_one X.o23 hr2 (by rfl) (pv 0)) po_nil1))))) (pss_one (ps_ret (pv 1)))))), ?_⟩
  refine ⟨v, rfl, fun x0 H0 s0 e0 => ?_⟩
  have l0 := e0.length
  refine ⟨(by rw [l0]; show 4 ≤ sizeLine; decide), fun D0 n0 => ?_⟩
  have S0 : Same H (upd H0 D0 (.lst x0)) := s0.trans (fun b o e => by rw [upd_ne (ne_of_none e n0)]; exact e)
  have E0' := e0.keep (H' := upd H0 D0 (.lst x0)) (fun b o e => by rw [upd_ne (ne_of_none e n0)]; exact e)
  have a0 : (upd H0 D0 (.lst x0)) D0 = some (.lst x0) := upd_same
  clear l0
  refine ⟨.ref D0, rfl, v, rfl, fun x1 H1 s1 e1 => ?_⟩
  have l1 := e1.length
  have q1 := E0'.keep s1
  have m1 := q1.length
  refine ⟨(by rw [l1]; show 4 ≤ sizeLine; decide), fun B1 p1 => ?_⟩
  have r1 : Same H1 (upd H1 B1 (.lst x1)) := fun b o e => by rw [upd_ne (ne_of_none e p1)]; exact e
  refine ⟨D0, B1, x0, x1, rfl, rfl, r1 _ _ (s1 _ _ a0), upd_same, (by rw [l1, m1]; show 4 + 4 ≤ sizeLine; decide), fun D1 n1 => ?_⟩
  have t1 : Same (upd H1 B1 (.lst x1)) (upd (upd H1 B1 (.lst x1)) D1 (.lst (x0 ++ x1))) := fun b o e => by rw [upd_ne (ne_of_none e n1)]; exact e
  have S1 := S0.trans (s1.trans (r1.trans t1))
  have E1' := ((q1.keep r1).keep t1).app ((e1.keep r1).keep t1)
  have a1 : (upd (upd H1 B1 (.lst x1)) D1 (.lst (x0 ++ x1))) D1 = some (.lst (x0 ++ x1)) := upd_same
  generalize hy1 : x0 ++ x1 = y1 at *
  refine ⟨.ref D1, rfl, v, rfl, fun x2 H2 s2 e2 => ?_⟩
  have l2 := e2.length
  have q2 := E1'.keep s2
  have m2 := q2.length
  refine ⟨(by rw [l2]; show 2 ≤ sizeLine; decide), fun B2 p2 => ?_⟩
  have r2 : Same H2 (upd H2 B2 (.lst x2)) := fun b o e => by rw [upd_ne (ne_of_none e p2)]; exact e
  refine ⟨D1, B2, y1, x2, rfl, rfl, r2 _ _ (s2 _ _ a1), upd_same, (by rw [l2, m2]; show 8 + 2 ≤ sizeLine; decide), fun D2 n2 => ?_⟩
  have t2 : Same (upd H2 B2 (.lst x2)) (upd (upd H2 B2 (.lst x2)) D2 (.lst (y1 ++ x2))) := fun b o e => by rw [upd_ne (ne_of_none e n2)]; exact e
  have S2 := S1.trans (s2.trans (r2.trans t2))
  have E2' := ((q2.keep r2).keep t2).app ((e2.keep r2).keep t2)
  have a2 : (upd (upd H2 B2 (.lst x2)) D2 (.lst (y1 ++ x2))) D2 = some (.lst (y1 ++ x2)) := upd_same
  generalize hy2 : y1 ++ x2 = y2 at *
  exact ⟨.ref D2, rfl, q D2 y2 _ S2 a2 E2'⟩
theorem ok_nidx {f : Addr} {fd : FuncData} (F : Fun K "_law_named_indexes" "_law_named_indexes" sNIdx f fd) (X : TX P w K mg base c t s l) : FnOk P w K mg base CX0 3 f fd ["_law_thing"] (spRow "index" [c 14, c 15, c 16, c 17, c 18, c 19, c 20, c 21, c 22, c 23]) := by
  refine F.ok scNIdx (fun vs H Q E h => ?_) (fun cv A ou s0 H vs Q E hr h => ?_)
  · obtain ⟨v, rfl, _⟩ := h
    rfl
  obtain ⟨v, rfl, q⟩ := h
  have hr2 : Room 2 _ := hr
  refine ⟨_, (pss_cons (ps_set (i := 1) scNIdx.nd rfl (.inl rfl) (pe_lst (po_cons1 (pe_oneK X.o14 hr2 (by rfl) (pv 0)) (po_cons1 (pe_oneK X.o15 hr2 (by rfl) (pv 0)) po_nil1)))) (pss_cons (ps_set (i := 1) scNIdx.nd rfl (.inl rfl) (pe_op op_cat (pv 1) (pe_lst (po_cons1 (pe_oneK X.o16 hr2 (by rfl) (pv 0)) (po_cons1 (pe_oneK X.o17 hr2 (by rfl) (pv 0)) po_nil1))))) (pss_cons (ps_set (i := 1) scNIdx.nd rfl (.inl rfl) (pe_op op_cat (pv 1) (pe_lst (po_cons1 (pe_oneK X.o18 hr2 (by rfl) (pv 0)) (po_cons1 (pe_oneK X.o19 hr2 (by rfl) (pv 0)) po_nil1))))) (pss_cons (ps_set (i := 1) scNIdx.nd rfl (.inl rfl) (pe_op op_cat (pv 1) (pe_lst (po_cons1 (pe_oneK X.o20 hr2 (by rfl) (pv 0)) (po_cons1 (pe_oneK X.o21 hr2 (by rfl) (pv 0)) po_nil1))))) (pss_cons (ps_set (i := 1) scNIdx.nd rfl (.inl rfl) (pe_op op_cat (pv 1) (pe_lst (po_cons1 (pe_oneK X.o22 hr2 (by rfl) (pv 0)) (po_cons1 (pe_oneK X.o23 hr2 (by rfl) (pv 0)) po_nil1))))) (pss_one (ps_ret (pv 1)))))))), ?_⟩
  refine ⟨v, rfl, fun x0 H0 s0 e0 => ?_⟩
  have l0 := e0.length
  refine ⟨(by rw [l0]; show 2 ≤ sizeLine; decide), fun D0 n0 => ?_⟩
  have S0 : Same H (upd H0 D0 (.lst x0)) := s0.trans (fun b o e => by rw [upd_ne (ne_of_none e n0)]; exact e)
  have E0' := e0.keep (H' := upd H0 D0 (.lst x0)) (fun b o e => by rw [upd_ne (ne_of_none e n0)]; exact e)
  have a0 : (upd H0 D0 (.lst x0)) D0 = some (.lst x0) := upd_same
  clear l0
  refine ⟨.ref D0, rfl, v, rfl, fun x1 H1 s1 e1 => ?_⟩
  have l1 := e1.length
  have q1 := E0'.keep s1
  have m1 := q1.length
  refine ⟨(by rw [l1]; show 2 ≤ sizeLine; decide), fun B1 p1 => ?_⟩
  have r1 : Same H1 (upd H1 B1 (.lst x1)) := fun b o e => by rw [upd_ne (ne_of_none e p1)]; exact e
  refine ⟨D0, B1, x0, x1, rfl, rfl, r1 _ _ (s1 _ _ a0), upd_same, (by rw [l1, m1]; show 2 + 2 ≤ sizeLine; decide), fun D1 n1 => ?_⟩
  have t1 : Same (upd H1 B1 (.lst x1)) (upd (upd H1 B1 (.lst x1)) D1 (.lst (x0 ++ x1))) := fun b o e => by rw [upd_ne (ne_of_none e n1)]; exact e
  have S1 := S0.trans (s1.trans (r1.trans t1))
  have E1' := ((q1.keep r1).keep t1).app ((e1.keep r1).keep t1)
  have a1 : (upd (upd H1 B1 (.lst x1)) D1 (.lst (x0 ++ x1))) D1 = some (.lst (x0 ++ x1)) := upd_same
  generalize hy1 : x0 ++ x1 = y1 at *
  refine ⟨.ref D1, rfl, v, rfl, fun x2 H2 s2 e2 => ?_⟩
  have l2 := e2.length
  have q2 := E1'.keep s2
  have m2 := q2.length
  refine ⟨(by rw [l2]; show 2 ≤ sizeLine; decide), fun B2 p2 => ?_⟩
  have r2 : Same H2 (upd H2 B2 (.lst x2)) := fun b o e => by rw [upd_ne (ne_of_none e p2)]; exact e
  refine ⟨D1, B2, y1, x2, rfl, rfl, r2 _ _ (s2 _ _ a1), upd_same, (by rw [l2, m2]; show 4 + 2 ≤ sizeLine; decide), fun D2 n2 => ?_⟩
  have t2 : Same (upd H2 B2 (.lst x2)) (upd (upd H2 B2 (.lst x2)) D2 (.lst (y1 ++ x2))) := fun b o e => by rw [upd_ne (ne_of_none e n2)]; exact e
  have S2 := S1.trans (s2.trans (r2.trans t2))
  have E2' := ((q2.keep r2).keep t2).app ((e2.keep r2).keep t2)
  have a2 : (upd (upd H2 B2 (.lst x2)) D2 (.lst (y1 ++ x2))) D2 = some (.lst (y1 ++ x2)) := upd_same
  generalize hy2 : y1 ++ x2 = y2 at *
  refine ⟨.ref D2, rfl, v, rfl, fun x3 H3 s3 e3 => ?_⟩
  have l3 := e3.length
  have q3 := E2'.keep s3
  have m3 := q3.length
  refine ⟨(by rw [l3]; show 2 ≤ sizeLine; decide), fun B3 p3 => ?_⟩
  have r3 : Same H3 (upd H3 B3 (.lst x3)) := fun b o e => by rw [upd_ne (ne_of_none e p3)]; exact e
  refine ⟨D2, B3, y2, x3, rfl, rfl, r3 _ _ (s3 _ _ a2), upd_same, (by rw [l3, m3]; show 6 + 2 ≤ sizeLine; decide), fun D3 n3 => ?_⟩
  have t3 : Same (upd H3 B3 (.lst x3)) (upd (upd H3 B3 (.lst x3)) D3 (.lst (y2 ++ x3))) := fun b o e => by rw [upd_ne (ne_of_none e n3)]; exact e
  have S3 := S2.trans (s3.trans (r3.trans t3))
  have E3' := ((q3.keep r3).keep t3).app ((e3.keep r3).keep t3)
  have a3 : (upd (upd H3 B3 (.lst x3)) D3 (.lst (y2 ++ x3))) D3 = some (.lst (y2 ++ x3)) := upd_same
  generalize hy3 : y2 ++ x3 = y3 at *
  refine ⟨.ref D3, rfl, v, rfl, fun x4 H4 s4 e4 => ?_⟩
  have l4 := e4.length
  have q4 := E3'.keep s4
  have m4 := q4.length
  refine ⟨(by rw [l4]; show 2 ≤ sizeLine; decide), fun B4 p4 => ?_⟩
  have r4 : Same H4 (upd H4 B4 (.lst x4)) := fun b o e => by rw [upd_ne (ne_of_none e p4)]; exact e
  refine ⟨D3, B4, y3, x4, rfl, rfl, r4 _ _ (s4 _ _ a3), upd_same, (by rw [l4, m4]; show 8 + 2 ≤ sizeLine; decide), fun D4 n4 => ?_⟩
  have t4 : Same (upd H4 B4 (.lst x4)) (upd (upd H4 B4 (.lst x4)) D4 (.lst (y3 ++ x4))) := fun b o e => by rw [upd_ne (ne_of_none e n4)]; exact e
  have S4 := S3.trans (s4.trans (r4.trans t4))
  have E4' := ((q4.keep r4).keep t4).app ((e4.keep r4).keep t4)
  have a4 : (upd (upd H4 B4 (.lst x4)) D4 (.lst (y3 ++ x4))) D4 = some (.lst (y3 ++ x4)) := upd_same
  generalize hy4 : y3 ++ x4 = y4 at *
  exact ⟨.ref D4, rfl, q D4 y4 _ S4 a4 E4'⟩
theorem ok_tops {f : Addr} {fd : FuncData} (F : Fun K "_law_tops" "_law_tops" sTops f fd) (X : TX P w K mg base c t s l) : FnOk P w K mg base CX0 3 f fd ["_law_thing"] (spRow "limit" [c 24, c 25, c 26, c 27, c 24, c 25, c 26, c 27]) := by
  refine F.ok scTops (fun vs H Q E h => ?_) (fun cv A ou s0 H vs Q E hr h => ?_)
  · obtain ⟨v, rfl, _⟩ := h
    rfl
  obtain ⟨v, rfl, q⟩ := h
  have hr2 : Room 2 _ := hr
  refine ⟨_, (pss_cons (ps_set (i := 1) scTops.nd rfl (.inl rfl) (pe_lst (po_cons1 (pe_one X.o24 hr2 (by rfl) (pv 0)) (po_cons1 (pe_one X.o25 hr2 (by rfl) (pv 0)) (po_cons1 (pe_one X.o26 hr2 (by rfl) (pv 0)) (po_cons1 (pe_one X.o27 hr2 (by rfl) (pv 0)) po_nil1)))))) (pss_cons (ps_set (i := 1) scTops.nd rfl (.inl rfl) (pe_op op_cat (pv 1) (pe_lst (po_cons1 (pe_oneK X.o24 hr2 (by rfl) (pv 0)) (po_cons1 (pe_oneK X.o25 hr2 (by rfl) (pv 0)) po_nil1))))) (pss_one (ps_ret (pe_op op_cat (pv 1) (pe_lst (po_cons1 (pe_oneK X.o26 hr2 (by rfl) (pv 0)) (po_cons1 (pe_oneK X.o27 hr2 (by rfl) (pv 0)) po_nil1)))))))), ?_⟩
  refine ⟨v, rfl, fun x0 H0 s0 e0 => ?_⟩
  have l0 := e0.length
  refine ⟨(by rw [l0]; show 4 ≤ sizeLine; decide), fun D0 n0 => ?_⟩
  have S0 : Same H (upd H0 D0 (.lst x0)) := s0.trans (fun b o e => by rw [upd_ne (ne_of_none e n0)]; exact e)
  have E0' := e0.keep (H' := upd H0 D0 (.lst x0)) (fun b o e => by rw [upd_ne (ne_of_none e n0)]; exact e)
  have a0 : (upd H0 D0 (.lst x0)) D0 = some (.lst x0) := upd_same
  clear l0
  refine ⟨.ref D0, rfl, v, rfl, fun x1 H1 s1 e1 => ?_⟩
  have l1 := e1.length
  have q1 := E0'.keep s1
  have m1 := q1.length
  refine ⟨(by rw [l1]; show 2 ≤ sizeLine; decide), fun B1 p1 => ?_⟩
  have r1 : Same H1 (upd H1 B1 (.lst x1)) := fun b o e => by rw [upd_ne (ne_of_none e p1)]; exact e
  refine ⟨D0, B1, x0, x1, rfl, rfl, r1 _ _ (s1 _ _ a0), upd_same, (by rw [l1, m1]; show 4 + 2 ≤ sizeLine; decide), fun D1 n1 => ?_⟩
  have t1 : Same (upd H1 B1 (.lst x1)) (upd (upd H1 B1 (.lst x1)) D1 (.lst (x0 ++ x1))) := fun b o e => by rw [upd_ne (ne_of_none e n1)]; exact e
  have S1 := S0.trans (s1.trans (r1.trans t1))
  have E1' := ((q1.keep r1).keep t1).app ((e1.keep r1).keep t1)
  have a1 : (upd (upd H1 B1 (.lst x1)) D1 (.lst (x0 ++ x1))) D1 = some (.lst (x0 ++ x1)) := upd_same
  generalize hy1 : x0 ++ x1 = y1 at *
  refine ⟨.ref D1, rfl, v, rfl, fun x2 H2 s2 e2 => ?_⟩
  have l2 := e2.length
  have q2 := E1'.keep s2
  have m2 := q2.length
  refine ⟨(by rw [l2]; show 2 ≤ sizeLine; decide), fun B2 p2 => ?_⟩
  have r2 : Same H2 (upd H2 B2 (.lst x2)) := fun b o e => by rw [upd_ne (ne_of_none e p2)]; exact e
  refine ⟨D1, B2, y1, x2, rfl, rfl, r2 _ _ (s2 _ _ a1), upd_same, (by rw [l2, m2]; show 6 + 2 ≤ sizeLine; decide), fun D2 n2 => ?_⟩
  have t2 : Same (upd H2 B2 (.lst x2)) (upd (upd H2 B2 (.lst x2)) D2 (.lst (y1 ++ x2))) := fun b o e => by rw [upd_ne (ne_of_none e n2)]; exact e
  have S2 := S1.trans (s2.trans (r2.trans t2))
  have E2' := ((q2.keep r2).keep t2).app ((e2.keep r2).keep t2)
  have a2 : (upd (upd H2 B2 (.lst x2)) D2 (.lst (y1 ++ x2))) D2 = some (.lst (y1 ++ x2)) := upd_same
  generalize hy2 : y1 ++ x2 = y2 at *
  exact q D2 y2 _ S2 a2 E2'
theorem ok_cls {f : Addr} {fd : FuncData} (F : Fun K "_law_classes" "_law_classes" sCls f fd) (X : TX P w K mg base c t s l) : FnOk P w K mg base CX0 1 f fd ["_law_e"] (spCls K c) := by
  refine F.ok scCls (fun vs H Q E h => ?_) (fun cv A ou s0 H vs Q E hr h => ?_)
  · obtain ⟨x, C, rfl, _⟩ := h
    rfl
  obtain ⟨x, C, rfl, hi, hk, q⟩ := h
  refine ⟨_, (pss_cons (ps_set (i := 1) scCls.nd rfl (.inl rfl) (pe_lst (pi_cons1 (by rfl) X.isi (pv 0) (pe_glob (v := .ref (c 0)) (by rfl) X.o0.gl rfl) (.own _) (pi_cons1 (by rfl) X.isi (pv 0) (pe_glob (v := .ref (c 1)) (by rfl) X.o1.gl rfl) (.own _) (pi_cons1 (by rfl) X.isi (pv 0) (pe_glob (v := .ref (c 2)) (by rfl) X.o2.gl rfl) (.own _) pi_nil1))))) (pss_cons (ps_set (i := 1) scCls.nd rfl (.inl rfl) (pe_op op_cat (pv 1) (pe_lst (pi_cons1 (by rfl) X.isi (pv 0) (pe_glob (v := .ref (c 3)) (by rfl) X.o3.gl rfl) (.own _) (pi_cons1 (by rfl) X.isi (pv 0) (pe_glob (v := .ref (c 4)) (by rfl) X.o4.gl rfl) (.own _) (pi_cons1 (by rfl) X.isi (pv 0) (pe_glob (v := .ref (c 5)) (by rfl) X.o5.gl rfl) (.own _) pi_nil1)))))) (pss_cons (ps_set (i := 1) scCls.nd rfl (.inl rfl) (pe_op op_cat (pv 1) (pe_lst (pi_cons1 (by rfl) X.isi (pv 0) (pe_glob (v := .ref (c 6)) (by rfl) X.o6.gl rfl) (.own _) (pi_cons1 (by rfl) X.isi (pv 0) (pe_glob (v := .ref (c 7)) (by rfl) X.o7.gl rfl) (.own _) (pi_cons1 (by rfl) X.isi (pv 0) (pe_glob (v := .ref (c 8)) (by rfl) X.o8.gl rfl) (.own _) pi_nil1)))))) (pss_cons (ps_set (i := 1) scCls.nd rfl (.inl rfl) (pe_op op_cat (pv 1) (pe_lst (pi_cons1 (by rfl) X.isi (pv 0) (pe_glob (v := .ref (c 9)) (by rfl) X.o9.gl rfl) (.own _) (pi_cons1 (by rfl) X.isi (pv 0) (pe_glob (v := .ref (c 10)) (by rfl) X.o10.gl rfl) (.own _) (pi_cons1 (by rfl) X.isi (pv 0) (pe_glob (v := .ref (c 11)) (by rfl) X.o11.gl rfl) (.own _) pi_nil1)))))) (pss_cons (ps_set (i := 1) scCls.nd rfl (.inl rfl) (pe_op op_cat (pv 1) (pe_lst (pi_cons1 (by rfl) X.isi (pv 0) (pe_glob (v := .ref (c 12)) (by rfl) X.o12.gl rfl) (.own _) (pi_cons1 (by rfl) X.isi (pv 0) (pe_glob (v := .ref (c 13)) (by rfl) X.o13.gl rfl) (.own _) (pi_cons1 (by rfl) X.isi (pv 0) (pe_glob (v := .ref (c 14)) (by rfl) X.o14.gl rfl) (.own _) pi_nil1)))))) (pss_cons (ps_set (i := 1) scCls.nd rfl (.inl rfl) (pe_op op_cat (pv 1) (pe_lst (pi_cons1 (by rfl) X.isi (pv 0) (pe_glob (v := .ref (c 15)) (by rfl) X.o15.gl rfl) (.own _) (pi_cons1 (by rfl) X.isi (pv 0) (pe_glob (v := .ref (c 16)) (by rfl) X.o16.gl rfl) (.own _) (pi_cons1 (by rfl) X.isi (pv 0) (pe_glob (v := .ref (c 17)) (by rfl) X.o17.gl rfl) (.own _) pi_nil1)))))) (pss_cons (ps_set (i := 1) scCls.nd rfl (.inl rfl) (pe_op op_cat (pv 1) (pe_lst (pi_cons1 (by rfl) X.isi (pv 0) (pe_glob (v := .ref (c 18)) (by rfl) X.o18.gl rfl) (.own _) (pi_cons1 (by rfl) X.isi (pv 0) (pe_glob (v := .ref (c 19)) (by rfl) X.o19.gl rfl) (.own _) (pi_cons1 (by rfl) X.isi (pv 0) (pe_glob (v := .ref (c 20)) (by rfl) X.o20.gl rfl) (.own _) pi_nil1)))))) (pss_cons (ps_set (i := 1) scCls.nd rfl (.inl rfl) (pe_op op_cat (pv 1) (pe_lst (pi_cons1 (by rfl) X.isi (pv 0) (pe_glob (v := .ref (c 21)) (by rfl) X.o21.gl rfl) (.own _) (pi_cons1 (by rfl) X.isi (pv 0) (pe_glob (v := .ref (c 22)) (by rfl) X.o22.gl rfl) (.own _) (pi_cons1 (by rfl) X.isi (pv 0) (pe_glob (v := .ref (c 23)) (by rfl) X.o23.gl rfl) (.own _) pi_nil1)))))) (pss_cons (ps_set (i := 1) scCls.nd rfl (.inl rfl) (pe_op op_cat (pv 1) (pe_lst (pi_cons1 (by rfl) X.isi (pv 0) (pe_glob (v := .ref (c 24)) (by rfl) X.o24.gl rfl) (.own _) (pi_cons1 (by rfl) X.isi (pv 0) (pe_glob (v := .ref (c 25)) (by rfl) X.o25.gl rfl) (.own _) (pi_cons1 (by rfl) X.isi (pv 0) (pe_glob (v := .ref (c 26)) (by rfl) X.o26.gl rfl) (.own _) pi_nil1)))))) (pss_cons (ps_set (i := 1) scCls.nd rfl (.inl rfl) (pe_op op_cat (pv 1) (pe_lst (pi_cons1 (by rfl) X.isi (pv 0) (pe_glob (v := .ref (c 27)) (by rfl) X.o27.gl rfl) (.own _) (pi_cons1 (by rfl) X.isi (pv 0) (pe_glob (v := .ref (c 28)) (by rfl) X.o28.gl rfl) (.own _) (pi_cons1 (by rfl) X.isi (pv 0) (pe_glob (v := .ref (c 29)) (by rfl) X.o29.gl rfl) (.own _) pi_nil1)))))) (pss_cons (ps_set (i := 1) scCls.nd rfl (.inl rfl) (pe_op op_cat (pv 1) (pe_lst (pi_cons1 (by rfl) X.isi (pv 0) (pe_glob (v := .ref (c 30)) (by rfl) X.o30.gl rfl) (.own _) (pi_cons1 (by rfl) X.isi (pv 0) (pe_glob (v := .ref (c 31)) (by rfl) X.o31.gl rfl) (.own _) (pi_cons1 (by rfl) X.isi (pv 0) (pe_glob (v := .ref (c 32)) (by rfl) X.o32.1 rfl) (.own _) pi_nil1)))))) (pss_cons (ps_set (i := 1) scCls.nd rfl (.inl rfl) (pe_op op_cat (pv 1) (pe_lst (pi_cons1 (by rfl) X.isi (pv 0) (pe_glob (v := .ref (c 33)) (by rfl) X.o33.1 rfl) (.own _) (pi_cons1 (by rfl) X.isi (pv 0) (pe_glob (v := .ref (c 34)) (by rfl) X.o34.1 rfl) (.own _) (pi_cons1 (by rfl) X.isi (pv 0) (pe_glob (v := .ref (c 35)) (by rfl) X.o35.gl rfl) (.own _) pi_nil1)))))) (pss_one (ps_ret (pv 1))))))))))))))), ?_⟩
  have part : ∀ us : List Value, (∀ u ∈ us, u ∈ clsV c) → us.map (PySem.W.kitOne K (.ref C)) = (us.map (isV K C)).map some := fun us h => some_isV fun u hu => hk u (h u hu)
  refine seq_join (fun σ G => ∃ (D : Addr) (acc : List Bool), σ = [some x, some (.ref D)] ∧ Same H G ∧ G D = some (.lst (acc.map V.bl)) ∧ acc = ([.ref (c 0), .ref (c 1), .ref (c 2)] : List Value).map (isV K C)) ?_ fun rest => ?_
  rotate_left
  · refine ⟨x, C, ([.ref (c 0), .ref (c 1), .ref (c 2)] : List Value).map (isV K C), rfl, hi, part _ (by intro u hu; simp only [List.mem_cons, List.not_mem_nil, or_false] at hu; rcases hu with rfl | rfl | rfl <;> simp [clsV]), (by show 3 ≤ sizeLine; decide), fun D n => ?_⟩
    exact rest _ _ ⟨D, _, rfl, fun b o e => by rw [upd_ne (ne_of_none e n)]; exact e, upd_same, rfl⟩
  rintro σ G ⟨D, acc, rfl, S, a, hacc⟩
  refine seq_join (fun σ G => ∃ (D : Addr) (acc : List Bool), σ = [some x, some (.ref D)] ∧ Same H G ∧ G D = some (.lst (acc.map V.bl)) ∧ acc = ([.ref (c 0), .ref (c 1), .ref (c 2), .ref (c 3), .ref (c 4), .ref (c 5)] : List Value).map (isV K C)) ?_ fun rest => ?_
  rotate_left
  · have hl : acc.length = 3 := by rw [hacc]; rfl
    refine ⟨.ref D, rfl, x, C, ([.ref (c 3), .ref (c 4), .ref (c 5)] : List Value).map (isV K C), rfl, hi.keep S, part _ (by intro u hu; simp only [List.mem_cons, List.not_mem_nil, or_false] at hu; rcases hu with rfl | rfl | rfl <;> simp [clsV]), (by show 3 ≤ sizeLine; decide), fun B p => ?_⟩
    have r : Same G (upd G B (.lst ((([.ref (c 3), .ref (c 4), .ref (c 5)] : List Value).map (isV K C)).map V.bl))) := fun b o e => by rw [upd_ne (ne_of_none e p)]; exact e
    refine ⟨D, B, _, _, rfl, rfl, r _ _ a, upd_same, (by rw [List.length_map, hl]; show 3 + 3 ≤ sizeLine; decide), fun M m => ?_⟩
    refine rest _ _ ⟨M, acc ++ ([.ref (c 3), .ref (c 4), .ref (c 5)] : List Value).map (isV K C), rfl, S.trans (r.trans fun b o e => by rw [upd_ne (ne_of_none e m)]; exact e), ?_, ?_⟩
    · rw [upd_same, List.map_append]
    · rw [hacc]; rfl
  clear hacc S a acc G D
  rintro σ G ⟨D, acc, rfl, S, a, hacc⟩
  refine seq_join (fun σ G => ∃ (D : Addr) (acc : List Bool), σ = [some x, some (.ref D)] ∧ Same H G ∧ G D = some (.lst (acc.map V.bl)) ∧ acc = ([.ref (c 0), .ref (c 1), .ref (c 2), .ref (c 3), .ref (c 4), .ref (c 5), .ref (c 6), .ref (c 7), .ref (c 8)] : List Value).map (isV K C)) ?_ fun rest => ?_
  rotate_left
  · have hl : acc.length = 6 := by rw [hacc]; rfl
    refine ⟨.ref D, rfl, x, C, ([.ref (c 6), .ref (c 7), .ref (c 8)] : List Value).map (isV K C), rfl, hi.keep S, part _ (by intro u hu; simp only [List.mem_cons, List.not_mem_nil, or_false] at hu; rcases hu with rfl | rfl | rfl <;> simp [clsV]), (by show 3 ≤ sizeLine; decide), fun B p => ?_⟩
    have r : Same G (upd G B (.lst ((([.ref (c 6), .ref (c 7), .ref (c 8)] : List Value).map (isV K C)).map V.bl))) := fun b o e => by rw [upd_ne (ne_of_none e p)]; exact e
    refine ⟨D, B, _, _, rfl, rfl, r _ _ a, upd_same, (by rw [List.length_map, hl]; show 6 + 3 ≤ sizeLine; decide), fun M m => ?_⟩
    refine rest _ _ ⟨M, acc ++ ([.ref (c 6), .ref (c 7), .ref (c 8)] : List Value).map (isV K C), rfl, S.trans (r.trans fun b o e => by rw [upd_ne (ne_of_none e m)]; exact e), ?_, ?_⟩
    · rw [upd_same, List.map_append]
    · rw [hacc]; rfl
  clear hacc S a acc G D
  rintro σ G ⟨D, acc, rfl, S, a, hacc⟩
  refine seq_join (fun σ G => ∃ (D : Addr) (acc : List Bool), σ = [some x, some (.ref D)] ∧ Same H G ∧ G D = some (.lst (acc.map V.bl)) ∧ acc = ([.ref (c 0), .ref (c 1), .ref (c 2), .ref (c 3), .ref (c 4), .ref (c 5), .ref (c 6), .ref (c 7), .ref (c 8), .ref (c 9), .ref (c 10), .ref (c 11)] : List Value).map (isV K C)) ?_ fun rest => ?_
  rotate_left
  · have hl : acc.length = 9 := by rw [hacc]; rfl
    refine ⟨.ref D, rfl, x, C, ([.ref (c 9), .ref (c 10), .ref (c 11)] : List Value).map (isV K C), rfl, hi.keep S, part _ (by intro u hu; simp only [List.mem_cons, List.not_mem_nil, or_false] at hu; rcases hu with rfl | rfl | rfl <;> simp [clsV]), (by show 3 ≤ sizeLine; decide), fun B p => ?_⟩
    have r : Same G (upd G B (.lst ((([.ref (c 9), .ref (c 10), .ref (c 11)] : List Value).map (isV K C)).map V.bl))) := fun b o e => by rw [upd_ne (ne_of_none e p)]; exact e
    refine ⟨D, B, _, _, rfl, rfl, r _ _ a, upd_same, (by rw [List.length_map, hl]; show 9 + 3 ≤ sizeLine; decide), fun M m => ?_⟩
    refine rest _ _ ⟨M, acc ++ ([.ref (c 9), .ref (c 10), .ref (c 11)] : List Value).map (isV K C), rfl, S.trans (r.trans fun b o e => by rw [upd_ne (ne_of_none e m)]; exact e), ?_, ?_⟩
    · rw [upd_same, List.map_append]
    · rw [hacc]; rfl
  clear hacc S a acc G D
  rintro σ G ⟨D, acc, rfl, S, a, hacc⟩
  refine seq_join (fun σ G => ∃ (D : Addr) (acc : List Bool), σ = [some x, some (.ref D)] ∧ Same H G ∧ G D = some (.lst (acc.map V.bl)) ∧ acc = ([.ref (c 0), .ref (c 1), .ref (c 2), .ref (c 3), .ref (c 4), .ref (c 5), .ref (c 6), .ref (c 7), .ref (c 8), .ref (c 9), .ref (c 10), .ref (c 11), .ref (c 12), .ref (c 13), .ref (c 14)] : List Value).map (isV K C)) ?_ fun rest => ?_
  rotate_left
  · have hl : acc.length = 12 := by rw [hacc]; rfl
    refine ⟨.ref D, rfl, x, C, ([.ref (c 12), .ref (c 13), .ref (c 14)] : List Value).map (isV K C), rfl, hi.keep S, part _ (by intro u hu; simp only [List.mem_cons, List.not_mem_nil, or_false] at hu; rcases hu with rfl | rfl | rfl <;> simp [clsV]), (by show 3 ≤ sizeLine; decide), fun B p => ?_⟩
    have r : Same G (upd G B (.lst ((([.ref (c 12), .ref (c 13), .ref (c 14)] : List Value).map (isV K C)).map V.bl))) := fun b o e => by rw [upd_ne (ne_of_none e p)]; exact e
    refine ⟨D, B, _, _, rfl, rfl, r _ _ a, upd_same, (by rw [List.length_map, hl]; show 12 + 3 ≤ sizeLine; decide), fun M m => ?_⟩
    refine rest _ _ ⟨M, acc ++ ([.ref (c 12), .ref (c 13), .ref (c 14)] : List Value).map (isV K C), rfl, S.trans (r.trans fun b o e => by rw [upd_ne (ne_of_none e m)]; exact e), ?_, ?_⟩
    · rw [upd_same, List.map_append]
    · rw [hacc]; rfl
  clear hacc S a acc G D
  rintro σ G ⟨D, acc, rfl, S, a, hacc⟩
  refine seq_join (fun σ G => ∃ (D : Addr) (acc : List Bool), σ = [some x, some (.ref D)] ∧ Same H G ∧ G D = some (.lst (acc.map V.bl)) ∧ acc = ([.ref (c 0), .ref (c 1), .ref (c 2), .ref (c 3), .ref (c 4), .ref (c 5), .ref (c 6), .ref (c 7), .ref (c 8), .ref (c 9), .ref (c 10), .ref (c 11), .ref (c 12), .ref (c 13), .ref (c 14), .ref (c 15), .ref (c 16), .ref (c 17)] : List Value).map (isV K C)) ?_ fun rest => ?_
  rotate_left
  · have hl : acc.length = 15 := by rw [hacc]; rfl
    refine ⟨.ref D, rfl, x, C, ([.ref (c 15), .ref (c 16), .ref (c 17)] : List Value).map (isV K C), rfl, hi.keep S, part _ (by intro u hu; simp only [List.mem_cons, List.not_mem_nil, or_false] at hu; rcases hu with rfl | rfl | rfl <;> simp [clsV]), (by show 3 ≤ sizeLine; decide), fun B p => ?_⟩
    have r : Same G (upd G B (.lst ((([.ref (c 15), .ref (c 16), .ref (c 17)] : List Value).map (isV K C)).map V.bl))) := fun b o e => by rw [upd_ne (ne_of_none e p)]; exact e
    refine ⟨D, B, _, _, rfl, rfl, r _ _ a, upd_same, (by rw [List.length_map, hl]; show 15 + 3 ≤ sizeLine; decide), fun M m => ?_⟩
    refine rest _ _ ⟨M, acc ++ ([.ref (c 15), .ref (c 16), .ref (c 17)] : List Value).map (isV K C), rfl, S.trans (r.trans fun b o e => by rw [upd_ne (ne_of_none e m)]; exact e), ?_, ?_⟩
    · rw [upd_same, List.map_append]
    · rw [hacc]; rfl
  clear hacc S a acc G D
  rintro σ G ⟨D, acc, rfl, S, a, hacc⟩
  refine seq_join (fun σ G => ∃ (D : Addr) (acc : List Bool), σ = [some x, some (.ref D)] ∧ Same H G ∧ G D = some (.lst (acc.map V.bl)) ∧ acc = ([.ref (c 0), .ref (c 1), .ref (c 2), .ref (c 3), .ref (c 4), .ref (c 5), .ref (c 6), .ref (c 7), .ref (c 8), .ref (c 9), .ref (c 10), .ref (c 11), .ref (c 12), .ref (c 13), .ref (c 14), .ref (c 15), .ref (c 16), .ref (c 17), .ref (c 18), .ref (c 19), .ref (c 20)] : List Value).map (isV K C)) ?_ fun rest => ?_
  rotate_left
  · have hl : acc.length = 18 := by rw [hacc]; rfl
    refine ⟨.ref D, rfl, x, C, ([.ref (c 18), .ref (c 19), .ref (c 20)] : List Value).map (isV K C), rfl, hi.keep S, part _ (by intro u hu; simp only [List.mem_cons, List.not_mem_nil, or_false] at hu; rcases hu with rfl | rfl | rfl <;> simp [clsV]), (by show 3 ≤ sizeLine; decide), fun B p => ?_⟩
    have r : Same G (upd G B (.lst ((([.ref (c 18), .ref (c 19), .ref (c 20)] : List Value).map (isV K C)).map V.bl))) := fun b o e => by rw [upd_ne (ne_of_none e p)]; exact e
    refine ⟨D, B, _, _, rfl, rfl, r _ _ a, upd_same, (by rw [List.length_map, hl]; show 18 + 3 ≤ sizeLine; decide), fun M m => ?_⟩
    refine rest _ _ ⟨M, acc ++ ([.ref (c 18), .ref (c 19), .ref (c 20)] : List Value).map (isV K C), rfl, S.trans (r.trans fun b o e => by rw [upd_ne (ne_of_none e m)]; exact e), ?_, ?_⟩
    · rw [upd_same, List.map_append]
    · rw [hacc]; rfl
  clear hacc S a acc G D
  rintro σ G ⟨D, acc, rfl, S, a, hacc⟩
  refine seq_join (fun σ G => ∃ (D : Addr) (acc : List Bool), σ = [some x, some (.ref D)] ∧ Same H G ∧ G D = some (.lst (acc.map V.bl)) ∧ acc = ([.ref (c 0), .ref (c 1), .ref (c 2), .ref (c 3), .ref (c 4), .ref (c 5), .ref (c 6), .ref (c 7), .ref (c 8), .ref (c 9), .ref (c 10), .ref (c 11), .ref (c 12), .ref (c 13), .ref (c 14), .ref (c 15), .ref (c 16), .ref (c 17), .ref (c 18), .ref (c 19), .ref (c 20), .ref (c 21), .ref (c 22), .ref (c 23)] : List Value).map (isV K C)) ?_ fun rest => ?_
  rotate_left
  · have hl : acc.length = 21 := by rw [hacc]; rfl
    refine ⟨.ref D, rfl, x, C, ([.ref (c 21), .ref (c 22), .ref (c 23)] : List Value).map (isV K C), rfl, hi.keep S, part _ (by intro u hu; simp only [List.mem_cons, List.not_mem_nil, or_false] at hu; rcases hu with rfl | rfl | rfl <;> simp [clsV]), (by show 3 ≤ sizeLine; decide), fun B p => ?_⟩
    have r : Same G (upd G B (.lst ((([.ref (c 21), .ref (c 22), .ref (c 23)] : List Value).map (isV K C)).map V.bl))) := fun b o e => by rw [upd_ne (ne_of_none e p)]; exact e
    refine ⟨D, B, _, _, rfl, rfl, r _ _ a, upd_same, (by rw [List.length_map, hl]; show 21 + 3 ≤ sizeLine; decide), fun M m => ?_⟩
    refine rest _ _ ⟨M, acc ++ ([.ref (c 21), .ref (c 22), .ref (c 23)] : List Value).map (isV K C), rfl, S.trans (r.trans fun b o e => by rw [upd_ne (ne_of_none e m)]; exact e), ?_, ?_⟩
    · rw [upd_same, List.map_append]
    · rw [hacc]; rfl
  clear hacc S a acc G D
  rintro σ G ⟨D, acc, rfl, S, a, hacc⟩
  refine seq_join (fun σ G => ∃ (D : Addr) (acc : List Bool), σ = [some x, some (.ref D)] ∧ Same H G ∧ G D = some (.lst (acc.map V.bl)) ∧ acc = ([.ref (c 0), .ref (c 1), .ref (c 2), .ref (c 3), .ref (c 4), .ref (c 5), .ref (c 6), .ref (c 7), .ref (c 8), .ref (c 9), .ref (c 10), .ref (c 11), .ref (c 12), .ref (c 13), .ref (c 14), .ref (c 15), .ref (c 16), .ref (c 17), .ref (c 18), .ref (c 19), .ref (c 20), .ref (c 21), .ref (c 22), .ref (c 23), .ref (c 24), .ref (c 25), .ref (c 26)] : List Value).map (isV K C)) ?_ fun rest => ?_
  rotate_left
  · have hl : acc.length = 24 := by rw [hacc]; rfl
    refine ⟨.ref D, rfl, x, C, ([.ref (c 24), .ref (c 25), .ref (c 26)] : List Value).map (isV K C), rfl, hi.keep S, part _ (by intro u hu; simp only [List.mem_cons, List.not_mem_nil, or_false] at hu; rcases hu with rfl | rfl | rfl <;> simp [clsV]), (by show 3 ≤ sizeLine; decide), fun B p => ?_⟩
    have r : Same G (upd G B (.lst ((([.ref (c 24), .ref (c 25), .ref (c 26)] : List Value).map (isV K C)).map V.bl))) := fun b o e => by rw [upd_ne (ne_of_none e p)]; exact e
    refine ⟨D, B, _, _, rfl, rfl, r _ _ a, upd_same, (by rw [List.length_map, hl]; show 24 + 3 ≤ sizeLine; decide), fun M m => ?_⟩
    refine rest _ _ ⟨M, acc ++ ([.ref (c 24), .ref (c 25), .ref (c 26)] : List Value).map (isV K C), rfl, S.trans (r.trans fun b o e => by rw [upd_ne (ne_of_none e m)]; exact e), ?_, ?_⟩
    · rw [upd_same, List.map_append]
    · rw [hacc]; rfl
  clear hacc S a acc G D
  rintro σ G ⟨D, acc, rfl, S, a, hacc⟩
  refine seq_join (fun σ G => ∃ (D : Addr) (acc : List Bool), σ = [some x, some (.ref D)] ∧ Same H G ∧ G D = some (.lst (acc.map V.bl)) ∧ acc = ([.ref (c 0), .ref (c 1), .ref (c 2), .ref (c 3), .ref (c 4), .ref (c 5), .ref (c 6), .ref (c 7), .ref (c 8), .ref (c 9), .ref (c 10), .ref (c 11), .ref (c 12), .ref (c 13), .ref (c 14), .ref (c 15), .ref (c 16), .ref (c 17), .ref (c 18), .ref (c 19), .ref (c 20), .ref (c 21), .ref (c 22), .ref (c 23), .ref (c 24), .ref (c 25), .ref (c 26), .ref (c 27), .ref (c 28), .ref (c 29)] : List Value).map (isV K C)) ?_ fun rest => ?_
  rotate_left
  · have hl : acc.length = 27 := by rw [hacc]; rfl
    refine ⟨.ref D, rfl, x, C, ([.ref (c 27), .ref (c 28), .ref (c 29)] : List Value).map (isV K C), rfl, hi.keep S, part _ (by intro u hu; simp only [List.mem_cons, List.not_mem_nil, or_false] at hu; rcases hu with rfl | rfl | rfl <;> simp [clsV]), (by show 3 ≤ sizeLine; decide), fun B p => ?_⟩
    have r : Same G (upd G B (.lst ((([.ref (c 27), .ref (c 28), .ref (c 29)] : List Value).map (isV K C)).map V.bl))) := fun b o e => by rw [upd_ne (ne_of_none e p)]; exact e
    refine ⟨D, B, _, _, rfl, rfl, r _ _ a, upd_same, (by rw [List.length_map, hl]; show 27 + 3 ≤ sizeLine; decide), fun M m => ?_⟩
    refine rest _ _ ⟨M, acc ++ ([.ref (c 27), .ref (c 28), .ref (c 29)] : List Value).map (isV K C), rfl, S.trans (r.trans fun b o e => by rw [upd_ne (ne_of_none e m)]; exact e), ?_, ?_⟩
    · rw [upd_same, List.map_append]
    · rw [hacc]; rfl
  clear hacc S a acc G D
  rintro σ G ⟨D, acc, rfl, S, a, hacc⟩
  refine seq_join (fun σ G => ∃ (D : Addr) (acc : List Bool), σ = [some x, some (.ref D)] ∧ Same H G ∧ G D = some (.lst (acc.map V.bl)) ∧ acc = ([.ref (c 0), .ref (c 1), .ref (c 2), .ref (c 3), .ref (c 4), .ref (c 5), .ref (c 6), .ref (c 7), .ref (c 8), .ref (c 9), .ref (c 10), .ref (c 11), .ref (c 12), .ref (c 13), .ref (c 14), .ref (c 15), .ref (c 16), .ref (c 17), .ref (c 18), .ref (c 19), .ref (c 20), .ref (c 21), .ref (c 22), .ref (c 23), .ref (c 24), .ref (c 25), .ref (c 26), .ref (c 27), .ref (c 28), .ref (c 29), .ref (c 30), .ref (c 31), .ref (c 32)] : List Value).map (isV K C)) ?_ fun rest => ?_
  rotate_left
  · have hl : acc.length = 30 := by rw [hacc]; rfl
    refine ⟨.ref D, rfl, x, C, ([.ref (c 30), .ref (c 31), .ref (c 32)] : List Value).map (isV K C), rfl, hi.keep S, part _ (by intro u hu; simp only [List.mem_cons, List.not_mem_nil, or_false] at hu; rcases hu with rfl | rfl | rfl <;> simp [clsV]), (by show 3 ≤ sizeLine; decide), fun B p => ?_⟩
    have r : Same G (upd G B (.lst ((([.ref (c 30), .ref (c 31), .ref (c 32)] : List Value).map (isV K C)).map V.bl))) := fun b o e => by rw [upd_ne (ne_of_none e p)]; exact e
    refine ⟨D, B, _, _, rfl, rfl, r _ _ a, upd_same, (by rw [List.length_map, hl]; show 30 + 3 ≤ sizeLine; decide), fun M m => ?_⟩
    refine rest _ _ ⟨M, acc ++ ([.ref (c 30), .ref (c 31), .ref (c 32)] : List Value).map (isV K C), rfl, S.trans (r.trans fun b o e => by rw [upd_ne (ne_of_none e m)]; exact e), ?_, ?_⟩
    · rw [upd_same, List.map_append]
    · rw [hacc]; rfl
  clear hacc S a acc G D
  rintro σ G ⟨D, acc, rfl, S, a, hacc⟩
  refine seq_join (fun σ G => ∃ (D : Addr) (acc : List Bool), σ = [some x, some (.ref D)] ∧ Same H G ∧ G D = some (.lst (acc.map V.bl)) ∧ acc = ([.ref (c 0), .ref (c 1), .ref (c 2), .ref (c 3), .ref (c 4), .ref (c 5), .ref (c 6), .ref (c 7), .ref (c 8), .ref (c 9), .ref (c 10), .ref (c 11), .ref (c 12), .ref (c 13), .ref (c 14), .ref (c 15), .ref (c 16), .ref (c 17), .ref (c 18), .ref (c 19), .ref (c 20), .ref (c 21), .ref (c 22), .ref (c 23), .ref (c 24), .ref (c 25), .ref (c 26), .ref (c 27), .ref (c 28), .ref (c 29), .ref (c 30), .ref (c 31), .ref (c 32), .ref (c 33), .ref (c 34), .ref (c 35)] : List Value).map (isV K C)) ?_ fun rest => ?_
  rotate_left
  · have hl : acc.length = 33 := by rw [hacc]; rfl
    refine ⟨.ref D, rfl, x, C, ([.ref (c 33), .ref (c 34), .ref (c 35)] : List Value).map (isV K C), rfl, hi.keep S, part _ (by intro u hu; simp only [List.mem_cons, List.not_mem_nil, or_false] at hu; rcases hu with rfl | rfl | rfl <;> simp [clsV]), (by show 3 ≤ sizeLine; decide), fun B p => ?_⟩
    have r : Same G (upd G B (.lst ((([.ref (c 33), .ref (c 34), .ref (c 35)] : List Value).map (isV K C)).map V.bl))) := fun b o e => by rw [upd_ne (ne_of_none e p)]; exact e
    refine ⟨D, B, _, _, rfl, rfl, r _ _ a, upd_same, (by rw [List.length_map, hl]; show 33 + 3 ≤ sizeLine; decide), fun M m => ?_⟩
    refine rest _ _ ⟨M, acc ++ ([.ref (c 33), .ref (c 34), .ref (c 35)] : List Value).map (isV K C), rfl, S.trans (r.trans fun b o e => by rw [upd_ne (ne_of_none e m)]; exact e), ?_, ?_⟩
    · rw [upd_same, List.map_append]
    · rw [hacc]; rfl
  clear hacc S a acc G D
  rintro σ G ⟨D, acc, rfl, S, a, hacc⟩
  rw [hacc] at a
  exact ⟨.ref D, rfl, q D _ S a⟩
theorem ok_kin {f : Addr} {fd : FuncData} (F : Fun K "_law_kin" "_law_kin" sKin f fd) (X : TX P w K mg base c t s l) : FnOk P w K mg base CX0 1 f fd ["_law_e"] (spKin K t s l) := by
  refine F.ok scKin (fun vs H Q E h => ?_) (fun cv A ou s0 H vs Q E hr h => ?_)
  · obtain ⟨x, C, b1, b2, b3, b4, b5, b6, rfl, _⟩ := h
    rfl
  obtain ⟨x, C, b1, b2, b3, b4, b5, b6, rfl, hi, hk, q⟩ := h
  simp only [kinV, List.map_cons, List.map_nil, List.cons.injEq, and_true] at hk
  obtain ⟨k1, k2, k3, k4, k5, k6⟩ := hk
  refine ⟨_, pss_cons (ps_set (i := 1) scKin.nd rfl (.inl rfl) (pe_lst (pi_cons1 (by rfl) X.isi (pv 0) (pe_glob (v := .ref t) (by rfl) X.gT rfl) (.own _) (pi_cons1 (by rfl) X.isi (pv 0) (pe_glob (v := .ref s) (by rfl) X.gS rfl) (.own _) (pi_cons1 (by rfl) X.isi (pv 0) (pe_glob (v := .ref l) (by rfl) X.gL rfl) (.own _) pi_nil1))))) (pss_one (ps_ret (pe_op op_cat (pv 1) (pe_lst (pi_cons1 (by rfl) X.isi (pv 0) (pe_bltn (v := .ty "ValueError") (by rfl) X.bV PyProof.Rows.Boot.«ValueError» rfl) (.ty "ValueError") (pi_cons1 (by rfl) X.isi (pv 0) (pe_bltn (v := .ty "LookupError") (by rfl) X.bL PyProof.Rows.Boot.«LookupError» rfl) (.ty "LookupError") (pi_cons1 (by rfl) X.isi (pv 0) (pe_bltn (v := .ty "ArithmeticError") (by rfl) X.bA PyProof.Rows.Boot.«ArithmeticError» rfl) (.ty "ArithmeticError") pi_nil1))))))), ?_⟩
  have h1 : ([.ref t, .ref s, .ref l] : List Value).map (PySem.W.kitOne K (.ref C)) = ([b1, b2, b3] : List Bool).map some := by simp [k1, k2, k3]
  have h2 : ([.type "ValueError", .type "LookupError", .type "ArithmeticError"] : List Value).map (PySem.W.kitOne K (.ref C)) = ([b4, b5, b6] : List Bool).map some := by simp [k4, k5, k6]
  refine ⟨x, C, [b1, b2, b3], rfl, hi, h1, (by show 3 ≤ sizeLine; decide), fun D n => ?_⟩
  have S1 : Same H (upd H D (.lst [.bl b1, .bl b2, .bl b3])) := fun b o e => by rw [upd_ne (ne_of_none e n)]; exact e
  refine ⟨.ref D, rfl, x, C, [b4, b5, b6], rfl, hi.keep S1, h2, (by show 3 ≤ sizeLine; decide), fun B p => ?_⟩
  have S2 : Same (upd H D (.lst [.bl b1, .bl b2, .bl b3])) (upd (upd H D (.lst [.bl b1, .bl b2, .bl b3])) B (.lst [.bl b4, .bl b5, .bl b6])) := fun b o e => by rw [upd_ne (ne_of_none e p)]; exact e
  refine ⟨D, B, _, _, rfl, rfl, S2 _ _ upd_same, upd_same, (by show 3 + 3 ≤ sizeLine; decide), fun G m => ?_⟩
  exact q G _ (S1.trans (S2.trans fun b o e => by rw [upd_ne (ne_of_none e m)]; exact e)) upd_same
end
end Ky
namespace Ky
open PySem PySem.Spec PyProof.Rows L2 Gd
theorem scRight : FnScope ["_law_one", "_law_two", "_law_seen", "_law_more", "_law_tops_here", "_law_e"] ["_law_one", "_law_two"] (defScope sRight) := ⟨rfl, rfl, rfl, by decide +kernel, rfl, by decide +kernel, by decide +kernel⟩
theorem scOther : FnScope ["_law_one", "_law_two", "_law_seen", "_law_told", "_law_more", "_law_e"] ["_law_one", "_law_two"] (defScope sOther) := ⟨rfl, rfl, rfl, by decide +kernel, rfl, by decide +kernel, by decide +kernel⟩
/-- the things that the law passes -/
inductive Pl (H : Hp) : V → PyData → Prop where
  | non : Pl H .non .none
  | bl (b : Bool) : Pl H (.bl b) (.bool b)
  | int {i : Int} (h0 : 0 ≤ i) (h1 : i < 10 ^ 40) : Pl H (.int i) (.int i)
  | neg : Pl H (.int (-1)) (.int (-1))
  | str (n : _root_.Fin 89) : Pl H (.str (Str.ofString "a" ++ ((toString ((n.1 : Nat) : Int) : String) : Str))) (.str (Str.ofString "a" ++ ((toString ((n.1 : Nat) : Int) : String) : Str)))
  | tup0 {a : Addr} (e : H a = some (.tup [])) : Pl H (.ref a) (.tuple [])
  | tup2 {a : Addr} (n : _root_.Fin 5) (e : H a = some (.tup [.int 1, .int ((n.1 : Nat) : Int)])) : Pl H (.ref a) (.tuple [.int 1, .int ((n.1 : Nat) : Int)])
theorem Pl.keep {H H' : Hp} {v : V} {d : PyData} (h : Pl H v d) (s : Same H H') : Pl H' v d := by
  cases h with
  | non => exact .non
  | bl b => exact .bl b
  | int h0 h1 => exact .int h0 h1
  | neg => exact .neg
  | str n => exact .str n
  | tup0 e => exact .tup0 (s _ _ e)
  | tup2 n e => exact .tup2 n (s _ _ e)
theorem strs_ok : ∀ n : _root_.Fin 89, (reprText (Str.ofString "a" ++ ((toString ((n.1 : Nat) : Int) : String) : Str))).length ≤ 100 := by decide +kernel
theorem tups_ok : ∀ n : _root_.Fin 5, (PyData.tuple [.int 1, .int ((n.1 : Nat) : Int)]).showable = true ∧ (PyData.tuple [.int 1, .int ((n.1 : Nat) : Int)]).hasDict = false ∧ (PyData.tuple [.int 1, .int ((n.1 : Nat) : Int)]).depth ≤ 20 ∧ (PyData.tuple [.int 1, .int ((n.1 : Nat) : Int)]).shown.length ≤ 100 := by decide +kernel
theorem Pl.sh {K : PySem.W.Frag} {H : Hp} {v : V} {d : PyData} (h : Pl H v d) : Sh K H v d := by
  cases h with
  | non => exact ⟨.non, rfl, rfl, by decide, by decide +kernel⟩
  | bl b => exact ⟨.bl b, rfl, rfl, by cases b <;> decide, by cases b <;> decide +kernel⟩
  | int h0 h1 =>
    refine ⟨.int _, ?_, rfl, by rw [PyData.depth]; decide, ?_⟩
    · rw [PyData.showable]
      refine decide_eq_true ?_
      rename_i i
      by_cases z : i.natAbs = 0
      · rw [z]; decide
      · have e1 : (i.natAbs : Int) = i := by omega
        have e2 : ((10 ^ 40 : Nat) : Int) = (10 : Int) ^ 40 := by decide
        have : i.natAbs < 10 ^ 40 := by omega
        refine (Nat.log2_lt z).mpr (Nat.lt_of_lt_of_le this ?_)
        exact Nat.le_trans (show 10 ^ 40 ≤ 2 ^ 133 by decide) (Nat.pow_le_pow_right (by decide) (by decide))
    · rw [PyData.shown]
      have := PyProof.Rows.toString_length_le h0 (k := 40) (by decide) h1
      omega
  | neg => exact ⟨.int _, by decide, rfl, by decide, by decide +kernel⟩
  | str n => exact ⟨.str _, rfl, rfl, by rw [PyData.depth]; decide, strs_ok n⟩
  | tup0 e => exact ⟨.tup (SqT.of e) .nil, rfl, rfl, by decide, by decide +kernel⟩
  | tup2 n e =>
    obtain ⟨h1, h2, h3, h4⟩ := tups_ok n
    exact ⟨.tup (SqT.of e) (.cons (.int _) (.cons (.int _) .nil)), h1, h2, h3, h4⟩
theorem Pl.all {K : PySem.W.Frag} {H : Hp} {v : V} {d : PyData} (h : Pl H v d) : d.showable = true ∧ d.hasDict = false ∧ d.depth ≤ 20 ∧ d.shown.length ≤ 100 := by
  have s := h.sh (K := K)
  exact ⟨s.sh, s.nd, s.dp, s.ln⟩
theorem lookup1 {f : Str} {v : V} : ([(f, v)] : List (Str × V)).lookup f = some v := by simp [List.lookup]
theorem lookup2 {f g : Str} {v u : V} (h : (f == g) = false) : ([(g, u), (f, v)] : List (Str × V)).lookup f = some v := by simp [List.lookup, h]
theorem lookup3 {f g : Str} {v u : V} : ([(g, u), (f, v)] : List (Str × V)).lookup g = some u := by simp [List.lookup]
section
variable {P : Program} {w : World} {K : PySem.W.Frag} {mg : Str → Option Value} {base : Heap} {c : Nat → Addr} {t s l : Addr}
/-- instances of the classes with these numbers -/
abbrev Els (K : PySem.W.Frag) (c : Nat → Addr) (H : Hp) (xs : List V) (is : List Nat) : Prop := Paired (fun x i => i < 36 ∧ IsAt K H x (c i)) xs is
theorem Els.keep {H H' : Hp} {xs : List V} {is : List Nat} (h : Els K c H xs is) (s : Same H H') : Els K c H' xs is := Paired.mapP h fun x i ⟨hi, e⟩ => ⟨hi, e.keep s⟩
theorem Els.app {H : Hp} : ∀ {xs : List V} {is : List Nat} {ys : List V} {js : List Nat}, Els K c H xs is → Els K c H ys js → Els K c H (xs ++ ys) (is ++ js)
  | _, _, _, _, .nil, h => h
  | _, _, _, _, .cons r t, h => .cons r (Els.app t h)
theorem Els.at_ {H : Hp} : ∀ {xs : List V} {is : List Nat} {n : Nat} {x : V}, Els K c H xs is → xs[n]? = some x → ∃ i, is[n]? = some i ∧ i < 36 ∧ IsAt K H x (c i)
  | _, _, n, x, .nil, h => by simp at h
  | _, _, 0, x, .cons (b := i) r t, h => by
    have e := Option.some.inj h
    subst e
    exact ⟨i, rfl, r.1, r.2⟩
  | _, _, n + 1, x, .cons r t, h => by
    obtain ⟨i, e, q⟩ := Els.at_ (n := n) t (by simpa using h)
    exact ⟨i, by simpa using e, q⟩
theorem Errs.els {H : Hp} {f : Str} {v : V} : ∀ {xs : List V} {is : List Nat}, Errs H f v xs (is.map c) → (∀ i ∈ is, i < 36 ∧ XC K (c i)) → Els K c H xs is
  | _, [], .nil, _ => .nil
  | _, i :: is, .cons r t, h => by
    obtain ⟨a, e, k⟩ := r
    have hi := h i (List.mem_cons_self ..)
    exact .cons ⟨hi.1, a, e, hi.2, .inl ⟨_, k⟩⟩ (Errs.els t fun j hj => h j (List.mem_cons_of_mem _ hj))
theorem Errs.at_ {H : Hp} {f : Str} {v : V} : ∀ {xs : List V} {Cs : List Addr} {n : Nat} {x : V}, Errs H f v xs Cs → xs[n]? = some x → ∃ C, C ∈ Cs ∧ Er H f v x C
  | _, _, n, x, .nil, h => by simp at h
  | _, _, 0, x, .cons (b := C) r t, h => by
    have e := Option.some.inj h
    subst e
    exact ⟨C, List.mem_cons_self .., r⟩
  | _, _, n + 1, x, .cons r t, h => by
    obtain ⟨C, hC, q⟩ := Errs.at_ (n := n) t (by simpa using h)
    exact ⟨C, List.mem_cons_of_mem _ hC, q⟩
theorem six_shaped (b1 b2 b3 b4 b5 b6 : Bool) : SeqAt.shaped (.list [.bool b1, .bool b2, .bool b3, .bool b4, .bool b5, .bool b6]) = true := by
  cases b1 <;> cases b2 <;> cases b3 <;> cases b4 <;> cases b5 <;> cases b6 <;> decide +kernel
theorem six_eq (b1 b2 b3 b4 b5 b6 : Bool) : PyData.eqv (.list [.bool b1, .bool b2, .bool b3, .bool b4, .bool b5, .bool b6]) (.list [.bool b1, .bool b2, .bool b3, .bool b4, .bool b5, .bool b6]) = true := by
  cases b1 <;> cases b2 <;> cases b3 <;> cases b4 <;> cases b5 <;> cases b6 <;> decide +kernel
/-- the facts of a class by its number, as the promises ask them -/
theorem TX.kinT (X : TX P w K mg base c t s l) {i : Nat} (h : i < 24) : (kinV t s l).map (PySem.W.kitOne K (.ref (c i))) = [some true, some false, some false, some true, some false, some false] := by
  have := X.kin i (by omega)
  rw [if_pos h] at this
  exact this
theorem TX.kinL (X : TX P w K mg base c t s l) {i : Nat} (h : (24 ≤ i ∧ i < 28) ∨ i = 35) : (kinV t s l).map (PySem.W.kitOne K (.ref (c i))) = [some false, some false, some true, some false, some false, some true] := by
  have := X.kin i (by omega)
  rw [if_neg (show ¬ i < 24 by omega), if_pos (show i < 28 ∨ i = 35 by omega)] at this
  exact this
theorem TX.kinS (X : TX P w K mg base c t s l) {i : Nat} (h : 28 ≤ i ∧ i < 35) : (kinV t s l).map (PySem.W.kitOne K (.ref (c i))) = [some false, some true, some false, some false, some true, some false] := by
  have := X.kin i (by omega)
  rw [if_neg (show ¬ i < 24 by omega), if_neg (show ¬ (i < 28 ∨ i = 35) by omega)] at this
  exact this
end
end Ky
namespace Ky
open PySem PySem.Spec PyProof.Rows L2 Gd
section
variable {P : Program} {w : World} {K : PySem.W.Frag} {mg : Str → Option Value} {base : Heap} {c : Nat → Addr} {t s l : Addr}
def spTwo (K : PySem.W.Frag) : Sp := fun vs H Q _ => ∃ (v u : V) (d e : PyData), vs = [v, u] ∧ Pl H v d ∧ Pl H u e ∧ ∀ H', Same H H' → Q (.bl true) H'
/-- what the two defs lean on beside the classes -/
structure TR (P : Program) (w : World) (K : PySem.W.Frag) (mg : Str → Option Value) (base : Heap) (c : Nat → Addr) (t s l : Addr) : Prop where
  x : TX P w K mg base c t s l
  rp : mg "repr" = none
  al : mg "all" = none
  kin : ∃ f fd, mg "_law_kin" = some (.ref f) ∧ PySem.W.keepIn K (.ref f) = true ∧ Binds K fd ["_law_e"] [] ∧ FnOk P w K mg base CX0 1 f fd ["_law_e"] (spKin K t s l)
  cls : ∃ f fd, mg "_law_classes" = some (.ref f) ∧ PySem.W.keepIn K (.ref f) = true ∧ Binds K fd ["_law_e"] [] ∧ FnOk P w K mg base CX0 1 f fd ["_law_e"] (spCls K c)
theorem xcAll (X : TX P w K mg base c t s l) : ∀ i, i < 36 → XC K (c i)
  | 0, _ => X.o0.xc
  | 1, _ => X.o1.xc
  | 2, _ => X.o2.xc
  | 3, _ => X.o3.xc
  | 4, _ => X.o4.xc
  | 5, _ => X.o5.xc
  | 6, _ => X.o6.xc
  | 7, _ => X.o7.xc
  | 8, _ => X.o8.xc
  | 9, _ => X.o9.xc
  | 10, _ => X.o10.xc
  | 11, _ => X.o11.xc
  | 12, _ => X.o12.xc
  | 13, _ => X.o13.xc
  | 14, _ => X.o14.xc
  | 15, _ => X.o15.xc
  | 16, _ => X.o16.xc
  | 17, _ => X.o17.xc
  | 18, _ => X.o18.xc
  | 19, _ => X.o19.xc
  | 20, _ => X.o20.xc
  | 21, _ => X.o21.xc
  | 22, _ => X.o22.xc
  | 23, _ => X.o23.xc
  | 24, _ => X.o24.xc
  | 25, _ => X.o25.xc
  | 26, _ => X.o26.xc
  | 27, _ => X.o27.xc
  | 28, _ => X.o28.xc
  | 29, _ => X.o29.xc
  | 30, _ => X.o30.xc
  | 31, _ => X.o31.xc
  | 32, _ => X.o32.2.2.2
  | 33, _ => X.o33.2.2.2
  | 34, _ => X.o34.2.2.2
  | 35, _ => X.o35.xc
  | i + 36, h => absurd h (by omega)
/-- repr([e.f for e in xs]) over instances that all hold v -/
theorem fld_ok {H0 : Hp} {f : Str} {v : V} {xs : List V} {Cs : List Addr} {n : Nat} {x : V} (e : Errs H0 f v xs Cs) (h : xs[n]? = some x) (xc : ∀ C ∈ Cs, XC K C ∧ PySem.W.findIn K (.ref C) f = some none) :
    ∃ (a C : Addr) (fs : List (Str × V)), x = .ref a ∧ XC K C ∧ PySem.W.findIn K (.ref C) f = some none ∧ ErrAt H0 a C fs ∧ fs.lookup f = some v := by
  obtain ⟨C, hC, a, ea, k⟩ := Errs.at_ e h
  obtain ⟨x1, x2⟩ := xc C hC
  exact ⟨a, C, _, ea, x1, x2, k, lookup1⟩
theorem rep_ok {d : PyData} (h : d.showable = true ∧ d.hasDict = false ∧ d.depth ≤ 20 ∧ d.shown.length ≤ 100) {n : Nat} (hn : n ≤ 100) :
    (PyData.list (List.replicate n d)).showable = true ∧ (PyData.list (List.replicate n d)).hasDict = false ∧ (PyData.list (List.replicate n d)).depth ≤ 60 ∧ (PyData.list (List.replicate n d)).shown.length ≤ sizeLine :=
  sh_list (fun x hx => by rw [(List.mem_replicate.mp hx).2]; exact h) (by rw [List.length_replicate]; exact hn)
theorem flat_rep (n : Nat) (v : V) : (List.replicate n [v]).flatten = List.replicate n v := by
  induction n with
  | zero => rfl
  | succ n ih => rw [List.replicate_succ, List.flatten_cons, ih]; rfl
theorem Sh.keep' {H H' : Hp} {v : V} {d : PyData} (h : Pl H v d) (S : Same H H') : Sh K H' v d := (h.keep S).sh
def nsV : List Nat := [0, 1, 2, 3, 4, 5, 6, 7, 8, 9, 10, 11, 12, 13, 0, 1, 2, 3, 4, 5, 6, 7, 8, 9, 10, 11, 12, 13]
theorem xcV (X : TX P w K mg base c t s l) : ∀ C ∈ nsV.map c, XC K C ∧ PySem.W.findIn K (.ref C) "value" = some none := by
  intro C hC
  simp only [nsV, List.map_cons, List.map_nil, List.mem_cons, List.not_mem_nil, or_false] at hC
  rcases hC with rfl | rfl | rfl | rfl | rfl | rfl | rfl | rfl | rfl | rfl | rfl | rfl | rfl | rfl | rfl | rfl | rfl | rfl | rfl | rfl | rfl | rfl | rfl | rfl | rfl | rfl | rfl | rfl
  · exact ⟨X.o0.xc, X.o0.no⟩
  · exact ⟨X.o1.xc, X.o1.no⟩
  · exact ⟨X.o2.xc, X.o2.no⟩
  · exact ⟨X.o3.xc, X.o3.no⟩
  · exact ⟨X.o4.xc, X.o4.no⟩
  · exact ⟨X.o5.xc, X.o5.no⟩
  · exact ⟨X.o6.xc, X.o6.no⟩
  · exact ⟨X.o7.xc, X.o7.no⟩
  · exact ⟨X.o8.xc, X.o8.no⟩
  · exact ⟨X.o9.xc, X.o9.no⟩
  · exact ⟨X.o10.xc, X.o10.no⟩
  · exact ⟨X.o11.xc, X.o11.no⟩
  · exact ⟨X.o12.xc, X.o12.no⟩
  · exact ⟨X.o13.xc, X.o13.no⟩
  · exact ⟨X.o0.xc, X.o0.no⟩
  · exact ⟨X.o1.xc, X.o1.no⟩
  · exact ⟨X.o2.xc, X.o2.no⟩
  · exact ⟨X.o3.xc, X.o3.no⟩
  · exact ⟨X.o4.xc, X.o4.no⟩
  · exact ⟨X.o5.xc, X.o5.no⟩
  · exact ⟨X.o6.xc, X.o6.no⟩
  · exact ⟨X.o7.xc, X.o7.no⟩
  · exact ⟨X.o8.xc, X.o8.no⟩
  · exact ⟨X.o9.xc, X.o9.no⟩
  · exact ⟨X.o10.xc, X.o10.no⟩
  · exact ⟨X.o11.xc, X.o11.no⟩
  · exact ⟨X.o12.xc, X.o12.no⟩
  · exact ⟨X.o13.xc, X.o13.no⟩
def nsI : List Nat := [14, 15, 16, 17, 18, 19, 20, 21, 22, 23, 14, 15, 16, 17, 18, 19, 20, 21, 22, 23]
theorem xcI (X : TX P w K mg base c t s l) : ∀ C ∈ nsI.map c, XC K C ∧ PySem.W.findIn K (.ref C) "index" = some none := by
  intro C hC
  simp only [nsI, List.map_cons, List.map_nil, List.mem_cons, List.not_mem_nil, or_false] at hC
  rcases hC with rfl | rfl | rfl | rfl | rfl | rfl | rfl | rfl | rfl | rfl | rfl | rfl | rfl | rfl | rfl | rfl | rfl | rfl | rfl | rfl
  · exact ⟨X.o14.xc, X.o14.no⟩
  · exact ⟨X.o15.xc, X.o15.no⟩
  · exact ⟨X.o16.xc, X.o16.no⟩
  · exact ⟨X.o17.xc, X.o17.no⟩
  · exact ⟨X.o18.xc, X.o18.no⟩
  · exact ⟨X.o19.xc, X.o19.no⟩
  · exact ⟨X.o20.xc, X.o20.no⟩
  · exact ⟨X.o21.xc, X.o21.no⟩
  · exact ⟨X.o22.xc, X.o22.no⟩
  · exact ⟨X.o23.xc, X.o23.no⟩
  · exact ⟨X.o14.xc, X.o14.no⟩
  · exact ⟨X.o15.xc, X.o15.no⟩
  · exact ⟨X.o16.xc, X.o16.no⟩
  · exact ⟨X.o17.xc, X.o17.no⟩
  · exact ⟨X.o18.xc, X.o18.no⟩
  · exact ⟨X.o19.xc, X.o19.no⟩
  · exact ⟨X.o20.xc, X.o20.no⟩
  · exact ⟨X.o21.xc, X.o21.no⟩
  · exact ⟨X.o22.xc, X.o22.no⟩
  · exact ⟨X.o23.xc, X.o23.no⟩
def nsT : List Nat := [24, 25, 26, 27, 24, 25, 26, 27]
theorem xcT (X : TX P w K mg base c t s l) : ∀ C ∈ nsT.map c, XC K C ∧ PySem.W.findIn K (.ref C) "limit" = some none := by
  intro C hC
  simp only [nsT, List.map_cons, List.map_nil, List.mem_cons, List.not_mem_nil, or_false] at hC
  rcases hC with rfl | rfl | rfl | rfl | rfl | rfl | rfl | rfl
  · exact ⟨X.o24.xc, X.o24.no⟩
  · exact ⟨X.o25.xc, X.o25.no⟩
  · exact ⟨X.o26.xc, X.o26.no⟩
  · exact ⟨X.o27.xc, X.o27.no⟩
  · exact ⟨X.o24.xc, X.o24.no⟩
  · exact ⟨X.o25.xc, X.o25.no⟩
  · exact ⟨X.o26.xc, X.o26.no⟩
  · exact ⟨X.o27.xc, X.o27.no⟩

end
end Ky
namespace Ky
open PySem PySem.Spec PyProof.Rows L2 Gd
section
variable {P : Program} {w : World} {K : PySem.W.Frag} {mg : Str → Option Value} {base : Heap} {c : Nat → Addr} {t s l : Addr}
theorem el_kin {σ : L2.St} {H : Hp} {j : Nat} {x : V} {C : Addr} {b1 b2 b3 b4 b5 b6 : Bool} {q : VK} (hx : σ[j]? = some (some x)) (hi : IsAt K H x C) (hk : (kinV t s l).map (PySem.W.kitOne K (.ref C)) = [some b1, some b2, some b3, some b4, some b5, some b6]) (hq : ∀ H4, Same H H4 → q (.bl true) H4) :
    tOp (rEqD K) (tCall (spKin K t s l) [] E0 (tCons (tVar j) tNil)) (tLst (tCons (tC (.bl b1)) (tCons (tC (.bl b2)) (tCons (tC (.bl b3)) (tCons (tC (.bl b4)) (tCons (tC (.bl b5)) (tCons (tC (.bl b6)) tNil))))))) σ H q := by
  refine ⟨x, hx, x, C, b1, b2, b3, b4, b5, b6, rfl, hi, hk, fun D H' S e => ⟨(by show 6 ≤ sizeLine; decide), fun M nM => ?_⟩⟩
  have S2 : Same H' (upd H' M (.lst [.bl b1, .bl b2, .bl b3, .bl b4, .bl b5, .bl b6])) := fun b o e => by rw [upd_ne (ne_of_none e nM)]; exact e
  have dp : ∀ {a : Addr} {G : Hp}, G a = some (.lst [.bl b1, .bl b2, .bl b3, .bl b4, .bl b5, .bl b6]) → Dp K G (.ref a) (.list [.bool b1, .bool b2, .bool b3, .bool b4, .bool b5, .bool b6]) :=
    fun e => .lst (SqL.of e) (.cons (.bl _) (.cons (.bl _) (.cons (.bl _) (.cons (.bl _) (.cons (.bl _) (.cons (.bl _) .nil))))))
  refine ⟨_, _, dp (S2 _ _ e), dp upd_same, six_shaped _ _ _ _ _ _, six_shaped _ _ _ _ _ _, ?_⟩
  rw [six_eq]
  exact hq _ (S.trans S2)
theorem if_rep {f : Str} {j n : Nat} {T : TS} {D : Ends} {σ : L2.St} {H : Hp} {S : Addr} {v : V} {d : PyData} {xs : List V} {Cs : List Addr} (hj : σ[j]? = some (some (.ref S))) (h0 : σ[0]? = some (some v)) (hS : H S = some (.lst xs)) (e : Errs H f v xs Cs) (xc : ∀ C ∈ Cs, XC K C ∧ PySem.W.findIn K (.ref C) f = some none)
    (hn : Cs.length = n) (h100 : n ≤ 100) (hp : Pl H v d) (hw : ∀ x, wipe ((wipe σ [5]).set 5 (some x)) [5] = wipe σ [5]) (g5 : ∀ x : V, ((wipe σ [5]).set 5 (some x))[5]? = some (some x)) (q : ∀ H', Same H H' → D.nx σ H') :
    tIfS (tTest (tOp rNe (tCB (rShow K) (tCons (tLc (iList K (tVar j)) (gName 5) tYes (tEf K f (tVar 5)) [5]) tNil)) (tCB (rShow K) (tCons (tOp rRep (tLst (tCons (tVar 0) tNil)) (tC (.int (n : Int)))) tNil)))) T tNext D σ H := by
  have ln : xs.length = n := by rw [e.length, hn]
  refine ⟨.ref S, hj, S, rfl, ⟨_, SqL.of hS⟩, fun B nB => lc_same (K := K) (a := S) (xs := xs) (y := v) hw nB (SqL.of hS) (by omega) (fun i x H5 hx s5 p hq => ?_) fun H5 s5 eB => ?_⟩
  · obtain ⟨a, C, fs, ex, k1, k2, k3, k4⟩ := fld_ok e hx xc
    exact ⟨x, g5 x, a, C, fs, v, ex, k1, k2, k3.keep s5, k4, hq H5 same_rfl⟩
  rw [ln] at eB
  have hd := hp.all (K := K)
  obtain ⟨r1, r2, r3, r4⟩ := rep_ok hd h100
  refine ⟨B, .list (List.replicate n d), rfl, .lst (SqL.of eB) (sh_rep (Sh.keep' hp s5) n), r1, r2, r3, r4, ?_⟩
  refine ⟨v, h0, (by show 1 ≤ sizeLine; decide), fun M nM => ?_⟩
  have s6 : Same H5 (upd H5 M (.lst [v])) := fun b o e => by rw [upd_ne (ne_of_none e nM)]; exact e
  refine ⟨M, (n : Int), [v], rfl, rfl, upd_same, by omega, by omega, ?_, fun R nR => ?_⟩
  · show 1 * ((n : Int).toNat) ≤ sizeLine
    have := small1000 (n := n) (by omega)
    omega
  have en : (List.replicate ((n : Int).toNat) [v]).flatten = List.replicate n v := by rw [flat_rep]; congr 1
  rw [en]
  have s7 : Same (upd H5 M (.lst [v])) (upd (upd H5 M (.lst [v])) R (.lst (List.replicate n v))) := fun b o e => by rw [upd_ne (ne_of_none e nR)]; exact e
  refine ⟨R, .list (List.replicate n d), rfl, .lst (SqL.of upd_same) (sh_rep (Sh.keep' hp (s5.trans (s6.trans s7))) n), r1, r2, r3, r4, ?_⟩
  refine ⟨rfl, _, rfl, ?_⟩
  rw [decide_eq_true rfl]
  exact iteF (q _ (s5.trans (s6.trans s7)))
end
end Ky
namespace Ky
open PySem PySem.Spec PyProof.Rows L2 Gd
section
variable {P : Program} {w : World} {K : PySem.W.Frag} {mg : Str → Option Value} {base : Heap} {c : Nat → Addr} {t s l : Addr}
theorem nsV_lt : ∀ i ∈ nsV, i < 36 := by decide
theorem nsI_lt : ∀ i ∈ nsI, i < 36 := by decide
theorem nsT_lt : ∀ i ∈ nsT, i < 36 := by decide
theorem ns24 : ∀ i ∈ nsV ++ nsI, i < 24 := by decide
theorem ns28 : ∀ i ∈ nsT, 24 ≤ i ∧ i < 28 := by decide
theorem asTE {X : Cx} {e : Expr} {te te' : TE} (h : PE X e te') (q : te' = te) : PE X e te := q ▸ h
theorem el_cls {σ : L2.St} {H : Hp} {j : Nat} {x : V} {C : Addr} {q : VK} (hx : σ[j]? = some (some x)) (hi : IsAt K H x C) (hk : (∀ u ∈ clsV c, (PySem.W.kitOne K (.ref C) u).isSome = true) ∧ ((clsV c).map (isV K C)).count true = 1) (hq : ∀ H4, Same H H4 → q (.bl true) H4) :
    tOp rEq (tBM K "list" (fun x xs H Q => ∃ (p : Addr) (bs : List Bool), x = .ref p ∧ xs = [.bl true] ∧ SqL K H p (bs.map V.bl) ∧ Q (.int (bs.count true : Nat)) H) (tCall (spCls K c) [] E0 (tCons (tVar j) tNil)) (tCons (tC (.bl true)) tNil)) (tC (.int 1)) σ H q := by
  refine ⟨x, hx, x, C, rfl, hi, hk.1, fun D H' S e => ⟨.inl ⟨rfl, _, SqL.of e⟩, D, (clsV c).map (isV K C), rfl, rfl, SqL.of e, rfl, ?_⟩⟩
  rw [hk.2]
  rw [show decide (V.int ((1 : Nat) : Int) = V.int 1) = true from decide_eq_true rfl]
  exact hq _ S
/-- «if not all([..]): return False» over a list whose elements are all found true -/
theorem all_true {n : Nat} : (List.replicate n true).all id = true := by
  rw [List.all_eq_true]
  intro x hx
  rw [(List.mem_replicate.mp hx).2]
  rfl
theorem bl_rep (n : Nat) : List.replicate n (V.bl true) = (List.replicate n true).map V.bl := by rw [List.map_replicate]
theorem ok_right {f fv fnv fi fni ft fo : Addr} {fd fdv fdnv fdi fdni fdt fdo : FuncData} (F : Fun K "_law_right" "_law_right" sRight f fd) (T : TR P w K mg base c t s l)
    (Gv : FnOk P w K mg base CX0 3 fv fdv ["_law_thing"] (spRow "value" [c 0, c 1, c 2, c 3, c 4, c 5, c 6, c 7, c 8, c 9, c 10, c 11, c 12, c 13])) (kv : PySem.W.keepIn K (.ref fv) = true) (bv : Binds K fdv ["_law_thing"] []) (gv : mg "_law_values" = some (.ref fv))
    (Gnv : FnOk P w K mg base CX0 3 fnv fdnv ["_law_thing"] (spRow "value" [c 0, c 1, c 2, c 3, c 4, c 5, c 6, c 7, c 8, c 9, c 10, c 11, c 12, c 13])) (knv : PySem.W.keepIn K (.ref fnv) = true) (bnv : Binds K fdnv ["_law_thing"] []) (gnv : mg "_law_named_values" = some (.ref fnv))
    (Gi : FnOk P w K mg base CX0 3 fi fdi ["_law_thing"] (spRow "index" [c 14, c 15, c 16, c 17, c 18, c 19, c 20, c 21, c 22, c 23])) (ki : PySem.W.keepIn K (.ref fi) = true) (bi : Binds K fdi ["_law_thing"] []) (gi : mg "_law_indexes" = some (.ref fi))
    (Gni : FnOk P w K mg base CX0 3 fni fdni ["_law_thing"] (spRow "index" [c 14, c 15, c 16, c 17, c 18, c 19, c 20, c 21, c 22, c 23])) (kni : PySem.W.keepIn K (.ref fni) = true) (bni : Binds K fdni ["_law_thing"] []) (gni : mg "_law_named_indexes" = some (.ref fni))
    (Gt : FnOk P w K mg base CX0 3 ft fdt ["_law_thing"] (spRow "limit" [c 24, c 25, c 26, c 27, c 24, c 25, c 26, c 27])) (kt : PySem.W.keepIn K (.ref ft) = true) (bt : Binds K fdt ["_law_thing"] []) (gt : mg "_law_tops" = some (.ref ft))
    (Go : Pr P w K mg base CX0 3 fo fdo ["_law_one", "_law_two"] (spTwo K)) (ko : PySem.W.keepIn K (.ref fo) = true) (bo : Binds K fdo ["_law_one", "_law_two"] []) (go : mg "_law_other_right" = some (.ref fo)) :
    Pr P w K mg base CX0 4 f fd ["_law_one", "_law_two"] (spTwo K) := by
  obtain ⟨fk, fdk, gk, kk, bk, Gk⟩ := T.kin
  obtain ⟨fc, fdc, gc, kc, bc, Gc⟩ := T.cls
  refine okG F scRight (fun vs H Q E h => ?_) (fun cv A ou s0 H vs Q E hG hr h => ?_)
  · obtain ⟨v, u, d, e, rfl, _⟩ := h
    rfl
  obtain ⟨v, u, d, e, rfl, pv1, pu1, k⟩ := h
  have hr1 : Room 1 (A.deeper (envOfC "_law_right" (defScope sRight) s0.heap.objs.size f cv)) := hr.mono (by decide)
  have hu := hr.units
  refine ⟨_, pss_cons (ps_set (i := 2) scRight.nd rfl (.inl rfl) (pe_op op_cat (pe_call Gv hr (by rfl) gv kv bv .nil pass0 (pa_cons (pv 0) pa_nil)) (pe_call Gnv hr (by rfl) gnv knv bnv .nil pass0 (pa_cons (pv 0) pa_nil))))
    (pss_cons (ps_if (pt_cmpR op_ne (pe_callB (call_show hG hu) (by rfl) T.rp boot_repr (pa_cons (pe_lc (own := [("_law_e", 5)]) (g := gName 5) (tt := tYes) rfl scRight.nd (pi_list (pv 2)) (blkOk_by (own := [("_law_e", 5)]) (N := ["_law_one", "_law_two", "_law_seen", "_law_more", "_law_tops_here", "_law_e"]) (sc := defScope sRight) (by decide +kernel)) (fun _ _ _ _ _ => pg_name (i := 5) scRight.nd rfl (Or.inl rfl)) (fun _ _ _ _ _ => pts_nil) (fun _ _ _ _ _ => asTE (te := tEf K "value" (tVar 5)) (pe_ef (pv 5)) rfl)) pa_nil))
        (pe_callB (call_show hG hu) (by rfl) T.rp boot_repr (pa_cons (pe_op op_rep (pe_lst (pa_cons (pv 0) pa_nil)) pe_int) pa_nil)) (nomark _)) (pss_one (ps_ret pe_bl)) pss_nil)
    (pss_cons (ps_set (i := 3) scRight.nd rfl (.inl rfl) (pe_op op_cat (pe_call Gi hr (by rfl) gi ki bi .nil pass0 (pa_cons (pv 0) pa_nil)) (pe_call Gni hr (by rfl) gni kni bni .nil pass0 (pa_cons (pv 0) pa_nil))))
    (pss_cons (ps_if (pt_cmpR op_ne (pe_callB (call_show hG hu) (by rfl) T.rp boot_repr (pa_cons (pe_lc (own := [("_law_e", 5)]) (g := gName 5) (tt := tYes) rfl scRight.nd (pi_list (pv 3)) (blkOk_by (own := [("_law_e", 5)]) (N := ["_law_one", "_law_two", "_law_seen", "_law_more", "_law_tops_here", "_law_e"]) (sc := defScope sRight) (by decide +kernel)) (fun _ _ _ _ _ => pg_name (i := 5) scRight.nd rfl (Or.inl rfl)) (fun _ _ _ _ _ => pts_nil) (fun _ _ _ _ _ => asTE (te := tEf K "index" (tVar 5)) (pe_ef (pv 5)) rfl)) pa_nil))
        (pe_callB (call_show hG hu) (by rfl) T.rp boot_repr (pa_cons (pe_op op_rep (pe_lst (pa_cons (pv 0) pa_nil)) pe_int) pa_nil)) (nomark _)) (pss_one (ps_ret pe_bl)) pss_nil)
    (pss_cons (ps_set (i := 4) scRight.nd rfl (.inl rfl) (pe_call Gt hr (by rfl) gt kt bt .nil pass0 (pa_cons (pv 0) pa_nil)))
    (pss_cons (ps_if (pt_cmpR op_ne (pe_callB (call_show hG hu) (by rfl) T.rp boot_repr (pa_cons (pe_lc (own := [("_law_e", 5)]) (g := gName 5) (tt := tYes) rfl scRight.nd (pi_list (pv 4)) (blkOk_by (own := [("_law_e", 5)]) (N := ["_law_one", "_law_two", "_law_seen", "_law_more", "_law_tops_here", "_law_e"]) (sc := defScope sRight) (by decide +kernel)) (fun _ _ _ _ _ => pg_name (i := 5) scRight.nd rfl (Or.inl rfl)) (fun _ _ _ _ _ => pts_nil) (fun _ _ _ _ _ => asTE (te := tEf K "limit" (tVar 5)) (pe_ef (pv 5)) rfl)) pa_nil))
        (pe_callB (call_show hG hu) (by rfl) T.rp boot_repr (pa_cons (pe_op op_rep (pe_lst (pa_cons (pv 0) pa_nil)) pe_int) pa_nil)) (nomark _)) (pss_one (ps_ret pe_bl)) pss_nil)
    (pss_cons (ps_if (pt_not (pt_val (pe_callB (cr_all rfl) (by rfl) T.al boot_all (pa_cons (pe_lc (own := [("_law_e", 5)]) (g := gName 5) (tt := tYes) rfl scRight.nd (pi_list (pe_op op_cat (pv 2) (pv 3))) (blkOk_by (own := [("_law_e", 5)]) (N := ["_law_one", "_law_two", "_law_seen", "_law_more", "_law_tops_here", "_law_e"]) (sc := defScope sRight) (by decide +kernel)) (fun _ _ _ _ _ => pg_name (i := 5) scRight.nd rfl (Or.inl rfl)) (fun _ _ _ _ _ => pts_nil)
        (fun _ _ _ _ _ => asTE (te := tOp (rEqD K) (tCall (spKin K t s l) [] E0 (tCons (tVar 5) tNil)) (tLst (tCons (tC (.bl true)) (tCons (tC (.bl false)) (tCons (tC (.bl false)) (tCons (tC (.bl true)) (tCons (tC (.bl false)) (tCons (tC (.bl false)) tNil)))))))) (pe_cmpR (op_eqD hu) (pe_call Gk hr1 (by rfl) gk kk bk .nil pass0 (pa_cons (pv 5) pa_nil)) (pe_lst (pa_cons pe_bl (pa_cons pe_bl (pa_cons pe_bl (pa_cons pe_bl (pa_cons pe_bl (pa_cons pe_bl pa_nil))))))) (nomark _)) rfl)) pa_nil)))) (pss_one (ps_ret pe_bl)) pss_nil)
    (pss_cons (ps_if (pt_not (pt_val (pe_callB (cr_all rfl) (by rfl) T.al boot_all (pa_cons (pe_lc (own := [("_law_e", 5)]) (g := gName 5) (tt := tYes) rfl scRight.nd (pi_list (pv 4)) (blkOk_by (own := [("_law_e", 5)]) (N := ["_law_one", "_law_two", "_law_seen", "_law_more", "_law_tops_here", "_law_e"]) (sc := defScope sRight) (by decide +kernel)) (fun _ _ _ _ _ => pg_name (i := 5) scRight.nd rfl (Or.inl rfl)) (fun _ _ _ _ _ => pts_nil)
        (fun _ _ _ _ _ => asTE (te := tOp (rEqD K) (tCall (spKin K t s l) [] E0 (tCons (tVar 5) tNil)) (tLst (tCons (tC (.bl false)) (tCons (tC (.bl false)) (tCons (tC (.bl true)) (tCons (tC (.bl false)) (tCons (tC (.bl false)) (tCons (tC (.bl true)) tNil)))))))) (pe_cmpR (op_eqD hu) (pe_call Gk hr1 (by rfl) gk kk bk .nil pass0 (pa_cons (pv 5) pa_nil)) (pe_lst (pa_cons pe_bl (pa_cons pe_bl (pa_cons pe_bl (pa_cons pe_bl (pa_cons pe_bl (pa_cons pe_bl pa_nil))))))) (nomark _)) rfl)) pa_nil)))) (pss_one (ps_ret pe_bl)) pss_nil)
    (pss_one (ps_ret (pe_and (pe_callB (cr_all rfl) (by rfl) T.al boot_all (pa_cons (pe_lc (own := [("_law_e", 5)]) (g := gName 5) (tt := tYes) rfl scRight.nd (pi_list (pe_op op_cat (pe_op op_cat (pv 2) (pv 3)) (pv 4))) (blkOk_by (own := [("_law_e", 5)]) (N := ["_law_one", "_law_two", "_law_seen", "_law_more", "_law_tops_here", "_law_e"]) (sc := defScope sRight) (by decide +kernel)) (fun _ _ _ _ _ => pg_name (i := 5) scRight.nd rfl (Or.inl rfl)) (fun _ _ _ _ _ => pts_nil)
        (fun _ _ _ _ _ => asTE (te := tOp rEq (tBM K "list" (fun x xs H Q => ∃ (p : Addr) (bs : List Bool), x = .ref p ∧ xs = [.bl true] ∧ SqL K H p (bs.map V.bl) ∧ Q (.int (bs.count true : Nat)) H) (tCall (spCls K c) [] E0 (tCons (tVar 5) tNil)) (tCons (tC (.bl true)) tNil)) (tC (.int 1))) (pe_cmpR op_eq (pe_bm PySem.F.plainAttrs_list PySem.F.slot_list_count PySem.F.type_list_count mt_bcount (pe_call Gc hr1 (by rfl) gc kc bc .nil pass0 (pa_cons (pv 5) pa_nil)) (pa_cons pe_bl pa_nil)) pe_int (nomark _)) rfl)) pa_nil))
      (L2.pe_one (pe_callG Go hG hr (by rfl) go ko bo .nil pass0 (pa_cons (pv 0) (pa_cons (pv 1) pa_nil)))))))))))))), ?_⟩
  have nw : ∀ {G : Hp} {a : Addr} {o : HO}, G a = none → Same G (upd G a o) := fun n b o e => by rw [upd_ne (ne_of_none e n)]; exact e
  -- seen
  refine ⟨v, rfl, v, rfl, fun D1 x1 H1 s1 d1 e1 => ⟨v, rfl, v, rfl, fun D2 x2 H2 s2 d2 e2 => ⟨D1, D2, x1, x2, rfl, rfl, s2 _ _ d1, d2, ?_, fun S nS => ?_⟩⟩⟩
  · rw [e1.length, e2.length]
    show 14 + 14 ≤ sizeLine
    decide
  have eS : Errs (upd H2 S (.lst (x1 ++ x2))) "value" v (x1 ++ x2) (nsV.map c) := ((e1.keep s2).app e2).keep (nw nS)
  have sS : Same H (upd H2 S (.lst (x1 ++ x2))) := s1.trans (s2.trans (nw nS))
  have aS : (upd H2 S (.lst (x1 ++ x2))) S = some (.lst (x1 ++ x2)) := upd_same
  have lS : (x1 ++ x2).length = 28 := eS.length
  revert eS sS aS lS
  generalize upd H2 S (.lst (x1 ++ x2)) = H3
  generalize x1 ++ x2 = xs
  intro eS sS aS lS
  clear e1 e2 s1 s2 d1 d2 nS
  clear D1 D2 H1 H2 x1 x2
  dsimp only
  refine if_rep (f := "value") (j := 2) (n := 28) (S := S) (v := v) (d := d) (xs := xs) (Cs := nsV.map c) rfl rfl aS eS (xcV T.x) rfl (by decide) (pv1.keep sS) (fun _ => rfl) (fun _ => rfl) fun H4 s4 => ?_
  -- more
  refine ⟨v, rfl, v, rfl, fun D1 x1 H5 s5 d1 e1 => ⟨v, rfl, v, rfl, fun D2 x2 H6 s6 d2 e2 => ⟨D1, D2, x1, x2, rfl, rfl, s6 _ _ d1, d2, ?_, fun M nM => ?_⟩⟩⟩
  · rw [e1.length, e2.length]
    show 10 + 10 ≤ sizeLine
    decide
  have eM : Errs (upd H6 M (.lst (x1 ++ x2))) "index" v (x1 ++ x2) (nsI.map c) := ((e1.keep s6).app e2).keep (nw nM)
  have sM : Same H3 (upd H6 M (.lst (x1 ++ x2))) := s4.trans (s5.trans (s6.trans (nw nM)))
  have aM : (upd H6 M (.lst (x1 ++ x2))) M = some (.lst (x1 ++ x2)) := upd_same
  have lM : (x1 ++ x2).length = 20 := eM.length
  revert eM sM aM lM
  generalize upd H6 M (.lst (x1 ++ x2)) = H7
  generalize x1 ++ x2 = ys
  intro eM sM aM lM
  clear e1 e2 s5 s6 d1 d2 nM s4
  clear D1 D2 H5 H6 x1 x2 H4
  dsimp only
  refine if_rep (f := "index") (j := 3) (n := 20) (S := M) (v := v) (d := d) (xs := ys) (Cs := nsI.map c) rfl rfl aM eM (xcI T.x) rfl (by decide) (pv1.keep (sS.trans sM)) (fun _ => rfl) (fun _ => rfl) fun H8 s8 => ?_
  -- tops
  refine ⟨v, rfl, v, rfl, fun Tp zs H9 s9 aT eT => ?_⟩
  have lT : zs.length = 8 := eT.length
  dsimp only
  refine if_rep (f := "limit") (j := 4) (n := 8) (S := Tp) (v := v) (d := d) (xs := zs) (Cs := nsT.map c) rfl rfl aT eT (xcT T.x) rfl (by decide) (pv1.keep (sS.trans (sM.trans (s8.trans s9)))) (fun _ => rfl) (fun _ => rfl) fun H10 s10 => ?_
  have sA : Same H7 H10 := s8.trans (s9.trans s10)
  have aS' : H10 S = some (.lst xs) := sA _ _ (sM _ _ aS)
  have aM' : H10 M = some (.lst ys) := sA _ _ aM
  have aT' : H10 Tp = some (.lst zs) := s10 _ _ aT
  have eS' : Els K c H10 xs nsV := Errs.els (eS.keep (sM.trans sA)) fun i hi => ⟨nsV_lt i hi, xcAll T.x i (nsV_lt i hi)⟩
  have eM' : Els K c H10 ys nsI := Errs.els (eM.keep sA) fun i hi => ⟨nsI_lt i hi, xcAll T.x i (nsI_lt i hi)⟩
  have eT' : Els K c H10 zs nsT := Errs.els (eT.keep s10) fun i hi => ⟨nsT_lt i hi, xcAll T.x i (nsT_lt i hi)⟩
  have sB : Same H H10 := sS.trans (sM.trans sA)
  clear eS eM eT aS aM aT sS sM sA s8 s9 s10
  clear H3 H7 H8 H9
  have lxy : (xs ++ ys).length = 48 := by rw [List.length_append, lS, lM]
  -- the kinds of the errors
  refine ⟨.ref S, rfl, .ref M, rfl, S, M, xs, ys, rfl, rfl, aS', aM', ?_, fun L nL => ?_⟩
  · rw [lS, lM]
    show 28 + 20 ≤ sizeLine
    decide
  refine ⟨L, rfl, ⟨_, SqL.of upd_same⟩, fun D nD => lc_same (K := K) (a := L) (xs := xs ++ ys) (y := .bl true) (fun _ => rfl) nD (SqL.of upd_same) (by omega) (fun i x H5 hx s5 q hq => ?_) fun H5 s5 eD => ?_⟩
  · obtain ⟨j, hj, _, hi⟩ := Els.at_ ((eS'.app eM').keep ((nw nL).trans s5)) hx
    exact el_kin rfl hi (T.x.kinT (ns24 j (List.mem_of_getElem? hj))) hq
  rw [bl_rep] at eD
  refine ⟨D, List.replicate _ true, rfl, SqL.of eD, _, rfl, ?_⟩
  rw [all_true]
  refine iteF ?_
  have sC : Same H10 H5 := (nw nL).trans s5
  clear nL nD eD s5
  -- the kinds of the limits
  refine ⟨.ref Tp, rfl, Tp, rfl, ⟨_, SqL.of (sC _ _ aT')⟩, fun D nD => lc_same (K := K) (a := Tp) (xs := zs) (y := .bl true) (fun _ => rfl) nD (SqL.of (sC _ _ aT')) (by omega) (fun i x H6 hx s6 q hq => ?_) fun H6 s6 eD => ?_⟩
  · obtain ⟨j, hj, _, hi⟩ := Els.at_ (eT'.keep (sC.trans s6)) hx
    exact el_kin rfl hi (T.x.kinL (.inl (ns28 j (List.mem_of_getElem? hj)))) hq
  rw [bl_rep] at eD
  refine ⟨D, List.replicate _ true, rfl, SqL.of eD, _, rfl, ?_⟩
  rw [all_true]
  refine iteF ?_
  have sD : Same H10 H6 := sC.trans s6
  clear nD eD s6 sC
  -- one class each
  refine ⟨.ref S, rfl, .ref M, rfl, S, M, xs, ys, rfl, rfl, sD _ _ aS', sD _ _ aM', ?_, fun L nL => ?_⟩
  · rw [lS, lM]
    show 28 + 20 ≤ sizeLine
    decide
  refine ⟨.ref Tp, rfl, L, Tp, xs ++ ys, zs, rfl, rfl, upd_same, nw nL _ _ (sD _ _ aT'), ?_, fun L2 nL2 => ?_⟩
  · rw [lxy, lT]
    show 48 + 8 ≤ sizeLine
    decide
  have lxyz : (xs ++ ys ++ zs).length = 56 := by rw [List.length_append, lxy, lT]
  refine ⟨L2, rfl, ⟨_, SqL.of upd_same⟩, fun D nD => lc_same (K := K) (a := L2) (xs := xs ++ ys ++ zs) (y := .bl true) (fun _ => rfl) nD (SqL.of upd_same) (by omega) (fun i x H7 hx s7 q hq => ?_) fun H7 s7 eD => ?_⟩
  · obtain ⟨j, hj, j36, hi⟩ := Els.at_ (((eS'.app eM').app eT').keep (sD.trans ((nw nL).trans ((nw nL2).trans s7)))) hx
    exact el_cls rfl hi (T.x.cls j j36) hq
  rw [bl_rep] at eD
  refine ⟨D, List.replicate _ true, rfl, SqL.of eD, _, rfl, ?_⟩
  rw [all_true]
  have sE : Same H H7 := sB.trans (sD.trans ((nw nL).trans ((nw nL2).trans s7)))
  refine iteT ⟨v, rfl, u, rfl, v, u, d, e, rfl, pv1.keep sE, pu1.keep sE, fun H8 s8 => ?_⟩
  exact k H8 (sE.trans s8)
end
end Ky
namespace Ky
open PySem PySem.Spec PyProof.Rows L2 Gd
def nsO : List Nat := [28, 28, 30, 30, 29, 29, 31, 31, 32, 33, 34]
theorem ns35 : ∀ i ∈ nsO, 28 ≤ i ∧ i < 35 := by decide
theorem nsO_lt : ∀ i ∈ nsO, i < 36 := by decide
theorem nsM_lt : ∀ i ∈ ([35, 35] : List Nat), i = 35 := by decide
section
variable {P : Program} {w : World} {K : PySem.W.Frag} {mg : Str → Option Value} {base : Heap} {c : Nat → Addr} {t s l : Addr}
theorem nw {G : Hp} {a : Addr} {o : HO} (n : G a = none) : Same G (upd G a o) := fun b o e => by rw [upd_ne (ne_of_none e n)]; exact e
/-- the eight with fields -/
structure Eight (c : Nat → Addr) (G : Hp) (v u : V) (a0 a1 a2 a3 a4 a5 a6 a7 : Addr) : Prop where
  e0 : ErrAt G a0 (c 28) [("kind", v)]
  e1 : ErrAt G a1 (c 28) [("kind", v)]
  e2 : ErrAt G a2 (c 30) [("tree", v)]
  e3 : ErrAt G a3 (c 30) [("tree", v)]
  e4 : ErrAt G a4 (c 29) [("name", u), ("mode", v)]
  e5 : ErrAt G a5 (c 29) [("name", u), ("mode", v)]
  e6 : ErrAt G a6 (c 31) [("tree", u), ("deed", v)]
  e7 : ErrAt G a7 (c 31) [("tree", u), ("deed", v)]
theorem Eight.keep {G G' : Hp} {v u : V} {a0 a1 a2 a3 a4 a5 a6 a7 : Addr} (h : Eight c G v u a0 a1 a2 a3 a4 a5 a6 a7) (S : Same G G') : Eight c G' v u a0 a1 a2 a3 a4 a5 a6 a7 :=
  ⟨h.e0.keep S, h.e1.keep S, h.e2.keep S, h.e3.keep S, h.e4.keep S, h.e5.keep S, h.e6.keep S, h.e7.keep S⟩
theorem ok_other {f : Addr} {fd : FuncData} (F : Fun K "_law_other_right" "_law_other_right" sOther f fd) (T : TR P w K mg base c t s l) : Pr P w K mg base CX0 3 f fd ["_law_one", "_law_two"] (spTwo K) := by
  obtain ⟨fk, fdk, gk, kk, bk, Gk⟩ := T.kin
  obtain ⟨fc, fdc, gc, kc, bc, Gc⟩ := T.cls
  have X := T.x
  refine okG F scOther (fun vs H Q E h => ?_) (fun cv A ou s0 H vs Q E hG hr h => ?_)
  · obtain ⟨v, u, d, e, rfl, _⟩ := h
    rfl
  obtain ⟨v, u, d, e, rfl, pv1, pu1, k⟩ := h
  have hr1 : Room 1 (A.deeper (envOfC "_law_other_right" (defScope sOther) s0.heap.objs.size f cv)) := hr.mono (by decide)
  have hu := hr.units
  refine ⟨_, pss_cons (ps_set (i := 2) scOther.nd rfl (.inl rfl) (pe_lst (pa_cons (Gd.pe_one X.o28 hr (by rfl) (pv 0)) (pa_cons (pe_oneK X.o28 hr (by rfl) (pv 0)) (pa_cons (Gd.pe_one X.o30 hr (by rfl) (pv 0)) (pa_cons (pe_oneK X.o30 hr (by rfl) (pv 0)) (pa_cons (pe_two X.o29 hr (by rfl) (pv 0) (pv 1)) pa_nil)))))))
    (pss_cons (ps_set (i := 2) scOther.nd rfl (.inl rfl) (pe_op op_cat (pv 2) (pe_lst (pa_cons (pe_twoK X.o29 hr (by rfl) (pv 0) (pv 1)) (pa_cons (pe_two X.o31 hr (by rfl) (pv 0) (pv 1)) (pa_cons (pe_twoK X.o31 hr (by rfl) (pv 0) (pv 1)) pa_nil))))))
    (pss_cons (ps_set (i := 3) scOther.nd rfl (.inl rfl) (pe_lst (pa_cons (pe_ef (pe_ix ix_list (pv 2) pe_int (fun _ _ => rfl))) (pa_cons (pe_ef (pe_ix ix_list (pv 2) pe_int (fun _ _ => rfl))) (pa_cons (pe_ef (pe_ix ix_list (pv 2) pe_int (fun _ _ => rfl))) (pa_cons (pe_ef (pe_ix ix_list (pv 2) pe_int (fun _ _ => rfl)))
        (pa_cons (pe_ef (pe_ix ix_list (pv 2) pe_int (fun _ _ => rfl))) (pa_cons (pe_ef (pe_ix ix_list (pv 2) pe_int (fun _ _ => rfl))) pa_nil))))))))
    (pss_cons (ps_set (i := 3) scOther.nd rfl (.inl rfl) (pe_op op_cat (pv 3) (pe_lst (pa_cons (pe_ef (pe_ix ix_list (pv 2) pe_int (fun _ _ => rfl))) (pa_cons (pe_ef (pe_ix ix_list (pv 2) pe_int (fun _ _ => rfl))) (pa_cons (pe_ef (pe_ix ix_list (pv 2) pe_int (fun _ _ => rfl))) (pa_cons (pe_ef (pe_ix ix_list (pv 2) pe_int (fun _ _ => rfl)))
        (pa_cons (pe_ef (pe_ix ix_list (pv 2) pe_int (fun _ _ => rfl))) (pa_cons (pe_ef (pe_ix ix_list (pv 2) pe_int (fun _ _ => rfl))) pa_nil)))))))))
    (pss_cons (ps_set (i := 2) scOther.nd rfl (.inl rfl) (pe_op op_cat (pv 2) (pe_lst (pa_cons (pe_err0 PySem.F.excBase_LookupError X.o32.2.2.1 X.o32.1 X.o32.2.1 (by rfl)) (pa_cons (pe_err0 PySem.F.excBase_LookupError X.o33.2.2.1 X.o33.1 X.o33.2.1 (by rfl)) (pa_cons (pe_err0 PySem.F.excBase_LookupError X.o34.2.2.1 X.o34.1 X.o34.2.1 (by rfl)) pa_nil))))))
    (pss_cons (ps_if (pt_cmpR op_ne (pe_callB (call_show hG hu) (by rfl) T.rp boot_repr (pa_cons (pv 3) pa_nil)) (pe_callB (call_show hG hu) (by rfl) T.rp boot_repr (pa_cons (pe_op op_cat (pe_op op_rep (pe_lst (pa_cons (pv 0) pa_nil)) pe_int) (pe_op op_rep (pe_lst (pa_cons (pv 0) (pa_cons (pv 1) pa_nil))) pe_int)) pa_nil)) (nomark _)) (pss_one (ps_ret pe_bl)) pss_nil)
    (pss_cons (ps_if (pt_not (pt_val (pe_callB (cr_all rfl) (by rfl) T.al boot_all (pa_cons (pe_lc (own := [("_law_e", 5)]) (g := gName 5) (tt := tYes) rfl scOther.nd (pi_list (pv 2)) (blkOk_by (own := [("_law_e", 5)]) (N := ["_law_one", "_law_two", "_law_seen", "_law_told", "_law_more", "_law_e"]) (sc := defScope sOther) (by decide +kernel)) (fun _ _ _ _ _ => pg_name (i := 5) scOther.nd rfl (Or.inl rfl)) (fun _ _ _ _ _ => pts_nil)
        (fun _ _ _ _ _ => asTE (te := tOp (rEqD K) (tCall (spKin K t s l) [] E0 (tCons (tVar 5) tNil)) (tLst (tCons (tC (.bl false)) (tCons (tC (.bl true)) (tCons (tC (.bl false)) (tCons (tC (.bl false)) (tCons (tC (.bl true)) (tCons (tC (.bl false)) tNil)))))))) (pe_cmpR (op_eqD hu) (pe_call Gk hr1 (by rfl) gk kk bk .nil pass0 (pa_cons (pv 5) pa_nil)) (pe_lst (pa_cons pe_bl (pa_cons pe_bl (pa_cons pe_bl (pa_cons pe_bl (pa_cons pe_bl (pa_cons pe_bl pa_nil))))))) (nomark _)) rfl)) pa_nil)))) (pss_one (ps_ret pe_bl)) pss_nil)
    (pss_cons (ps_set (i := 4) scOther.nd rfl (.inl rfl) (pe_lst (pa_cons (Gd.pe_one X.o35 hr (by rfl) (pv 0)) (pa_cons (pe_oneK X.o35 hr (by rfl) (pv 0)) pa_nil))))
    (pss_cons (ps_if (pt_cmpR op_ne (pe_callB (call_show hG hu) (by rfl) T.rp boot_repr (pa_cons (pe_lc (own := [("_law_e", 5)]) (g := gName 5) (tt := tYes) rfl scOther.nd (pi_list (pv 4)) (blkOk_by (own := [("_law_e", 5)]) (N := ["_law_one", "_law_two", "_law_seen", "_law_told", "_law_more", "_law_e"]) (sc := defScope sOther) (by decide +kernel)) (fun _ _ _ _ _ => pg_name (i := 5) scOther.nd rfl (Or.inl rfl)) (fun _ _ _ _ _ => pts_nil)
        (fun _ _ _ _ _ => asTE (te := tEf K "found" (tVar 5)) (pe_ef (pv 5)) rfl)) pa_nil)) (pe_callB (call_show hG hu) (by rfl) T.rp boot_repr (pa_cons (pe_lst (pa_cons (pv 0) (pa_cons (pv 0) pa_nil))) pa_nil)) (nomark _)) (pss_one (ps_ret pe_bl)) pss_nil)
    (pss_cons (ps_if (pt_not (pt_val (pe_callB (cr_all rfl) (by rfl) T.al boot_all (pa_cons (pe_lc (own := [("_law_e", 5)]) (g := gName 5) (tt := tYes) rfl scOther.nd (pi_list (pv 4)) (blkOk_by (own := [("_law_e", 5)]) (N := ["_law_one", "_law_two", "_law_seen", "_law_told", "_law_more", "_law_e"]) (sc := defScope sOther) (by decide +kernel)) (fun _ _ _ _ _ => pg_name (i := 5) scOther.nd rfl (Or.inl rfl)) (fun _ _ _ _ _ => pts_nil)
        (fun _ _ _ _ _ => asTE (te := tOp (rEqD K) (tCall (spKin K t s l) [] E0 (tCons (tVar 5) tNil)) (tLst (tCons (tC (.bl false)) (tCons (tC (.bl false)) (tCons (tC (.bl true)) (tCons (tC (.bl false)) (tCons (tC (.bl false)) (tCons (tC (.bl true)) tNil)))))))) (pe_cmpR (op_eqD hu) (pe_call Gk hr1 (by rfl) gk kk bk .nil pass0 (pa_cons (pv 5) pa_nil)) (pe_lst (pa_cons pe_bl (pa_cons pe_bl (pa_cons pe_bl (pa_cons pe_bl (pa_cons pe_bl (pa_cons pe_bl pa_nil))))))) (nomark _)) rfl)) pa_nil)))) (pss_one (ps_ret pe_bl)) pss_nil)
    (pss_one (ps_ret (pe_callB (cr_all rfl) (by rfl) T.al boot_all (pa_cons (pe_lc (own := [("_law_e", 5)]) (g := gName 5) (tt := tYes) rfl scOther.nd (pi_list (pe_op op_cat (pv 2) (pv 4))) (blkOk_by (own := [("_law_e", 5)]) (N := ["_law_one", "_law_two", "_law_seen", "_law_told", "_law_more", "_law_e"]) (sc := defScope sOther) (by decide +kernel)) (fun _ _ _ _ _ => pg_name (i := 5) scOther.nd rfl (Or.inl rfl)) (fun _ _ _ _ _ => pts_nil)
        (fun _ _ _ _ _ => asTE (te := tOp rEq (tBM K "list" (fun x xs H Q => ∃ (p : Addr) (bs : List Bool), x = .ref p ∧ xs = [.bl true] ∧ SqL K H p (bs.map V.bl) ∧ Q (.int (bs.count true : Nat)) H) (tCall (spCls K c) [] E0 (tCons (tVar 5) tNil)) (tCons (tC (.bl true)) tNil)) (tC (.int 1)))
          (pe_cmpR op_eq (pe_bm PySem.F.plainAttrs_list PySem.F.slot_list_count PySem.F.type_list_count mt_bcount (pe_call Gc hr1 (by rfl) gc kc bc .nil pass0 (pa_cons (pv 5) pa_nil)) (pa_cons pe_bl pa_nil)) pe_int (nomark _)) rfl)) pa_nil))))))))))))), ?_⟩
  -- seen, the first five
  refine seq_join (fun σ G => ∃ D a0 a1 a2 a3 a4 : Addr, σ = [some v, some u, some (.ref D), none, none, none] ∧ Same H G ∧ G D = some (.lst [.ref a0, .ref a1, .ref a2, .ref a3, .ref a4]) ∧ ErrAt G a0 (c 28) [("kind", v)] ∧ ErrAt G a1 (c 28) [("kind", v)] ∧ ErrAt G a2 (c 30) [("tree", v)] ∧ ErrAt G a3 (c 30) [("tree", v)] ∧ ErrAt G a4 (c 29) [("name", u), ("mode", v)]) ?_ fun rest => ?_
  rotate_left
  · refine ⟨v, rfl, fun a0 H1 s1 n1 e1 => ⟨v, rfl, fun a1 H2 s2 n2 e2 => ⟨v, rfl, fun a2 H3 s3 n3 e3 => ⟨v, rfl, fun a3 H4 s4 n4 e4 => ⟨v, u, rfl, rfl, fun a4 H5 s5 n5 e5 => ⟨(by show 5 ≤ sizeLine; decide), fun D nD => ?_⟩⟩⟩⟩⟩⟩
    refine rest _ _ ⟨D, a0, a1, a2, a3, a4, rfl, s1.trans (s2.trans (s3.trans (s4.trans (s5.trans (nw nD))))), upd_same, ?_, ?_, ?_, ?_, ?_⟩
    · exact e1.keep (s2.trans (s3.trans (s4.trans (s5.trans (nw nD)))))
    · exact e2.keep (s3.trans (s4.trans (s5.trans (nw nD))))
    · exact e3.keep (s4.trans (s5.trans (nw nD)))
    · exact e4.keep (s5.trans (nw nD))
    · exact e5.keep (nw nD)
  rintro σ G ⟨D, a0, a1, a2, a3, a4, rfl, S, aD, z0, z1, z2, z3, z4⟩
  -- seen, all eight
  refine seq_join (fun σ G => ∃ D a0 a1 a2 a3 a4 a5 a6 a7 : Addr, σ = [some v, some u, some (.ref D), none, none, none] ∧ Same H G ∧ G D = some (.lst [.ref a0, .ref a1, .ref a2, .ref a3, .ref a4, .ref a5, .ref a6, .ref a7]) ∧ Eight c G v u a0 a1 a2 a3 a4 a5 a6 a7) ?_ fun rest => ?_
  rotate_left
  · refine ⟨.ref D, rfl, v, u, rfl, rfl, fun a5 H1 s1 n1 e1 => ⟨v, u, rfl, rfl, fun a6 H2 s2 n2 e2 => ⟨v, u, rfl, rfl, fun a7 H3 s3 n3 e3 => ⟨(by show 3 ≤ sizeLine; decide), fun B nB => ?_⟩⟩⟩⟩
    have sB : Same G (upd H3 B (.lst [.ref a5, .ref a6, .ref a7])) := s1.trans (s2.trans (s3.trans (nw nB)))
    refine ⟨D, B, _, _, rfl, rfl, sB _ _ aD, upd_same, (by show 5 + 3 ≤ sizeLine; decide), fun M nM => ?_⟩
    have sM := sB.trans (nw (o := .lst [.ref a0, .ref a1, .ref a2, .ref a3, .ref a4, .ref a5, .ref a6, .ref a7]) nM)
    exact rest _ _ ⟨M, a0, a1, a2, a3, a4, a5, a6, a7, rfl, S.trans sM, upd_same, z0.keep sM, z1.keep sM, z2.keep sM, z3.keep sM, z4.keep sM, e1.keep (s2.trans (s3.trans ((nw nB).trans (nw nM)))), e2.keep (s3.trans ((nw nB).trans (nw nM))), e3.keep ((nw nB).trans (nw nM))⟩
  clear z0 z1 z2 z3 z4 aD S D a0 a1 a2 a3 a4 G
  rintro σ G ⟨D, a0, a1, a2, a3, a4, a5, a6, a7, rfl, S, aD, Z⟩
  -- told, the first six
  refine seq_join (fun σ G' => ∃ M : Addr, σ = [some v, some u, some (.ref D), some (.ref M), none, none] ∧ Same G G' ∧ G' M = some (.lst [v, v, v, v, v, u])) ?_ fun rest => ?_
  rotate_left
  · refine ⟨.ref D, rfl, D, _, 0, .ref a0, rfl, rfl, SqL.of aD, rfl, a0, c 28, _, v, rfl, X.o28.xc, X.o28.no, Z.e0, lookup1, ?_⟩
    refine ⟨.ref D, rfl, D, _, 1, .ref a1, rfl, rfl, SqL.of aD, rfl, a1, c 28, _, v, rfl, X.o28.xc, X.o28.no, Z.e1, lookup1, ?_⟩
    refine ⟨.ref D, rfl, D, _, 2, .ref a2, rfl, rfl, SqL.of aD, rfl, a2, c 30, _, v, rfl, X.o30.xc, X.o30.no, Z.e2, lookup1, ?_⟩
    refine ⟨.ref D, rfl, D, _, 3, .ref a3, rfl, rfl, SqL.of aD, rfl, a3, c 30, _, v, rfl, X.o30.xc, X.o30.no, Z.e3, lookup1, ?_⟩
    refine ⟨.ref D, rfl, D, _, 4, .ref a4, rfl, rfl, SqL.of aD, rfl, a4, c 29, _, v, rfl, X.o29.xc, X.o29.nof, Z.e4, lookup2 (by decide +kernel), ?_⟩
    refine ⟨.ref D, rfl, D, _, 4, .ref a4, rfl, rfl, SqL.of aD, rfl, a4, c 29, _, u, rfl, X.o29.xc, X.o29.nog, Z.e4, lookup3, ?_⟩
    exact ⟨(by show 6 ≤ sizeLine; decide), fun M nM => rest _ _ ⟨M, rfl, nw nM, upd_same⟩⟩
  rintro σ G1 ⟨M, rfl, S1, aM⟩
  -- told, all twelve
  refine seq_join (fun σ G' => ∃ M : Addr, σ = [some v, some u, some (.ref D), some (.ref M), none, none] ∧ Same G G' ∧ G' M = some (.lst [v, v, v, v, v, u, v, u, v, u, v, u])) ?_ fun rest => ?_
  rotate_left
  · have aD1 := S1 _ _ aD
    have Z1 := Z.keep S1
    refine ⟨.ref M, rfl, .ref D, rfl, D, _, 5, .ref a5, rfl, rfl, SqL.of aD1, rfl, a5, c 29, _, v, rfl, X.o29.xc, X.o29.nof, Z1.e5, lookup2 (by decide +kernel), ?_⟩
    refine ⟨.ref D, rfl, D, _, 5, .ref a5, rfl, rfl, SqL.of aD1, rfl, a5, c 29, _, u, rfl, X.o29.xc, X.o29.nog, Z1.e5, lookup3, ?_⟩
    refine ⟨.ref D, rfl, D, _, 6, .ref a6, rfl, rfl, SqL.of aD1, rfl, a6, c 31, _, v, rfl, X.o31.xc, X.o31.nof, Z1.e6, lookup2 (by decide +kernel), ?_⟩
    refine ⟨.ref D, rfl, D, _, 6, .ref a6, rfl, rfl, SqL.of aD1, rfl, a6, c 31, _, u, rfl, X.o31.xc, X.o31.nog, Z1.e6, lookup3, ?_⟩
    refine ⟨.ref D, rfl, D, _, 7, .ref a7, rfl, rfl, SqL.of aD1, rfl, a7, c 31, _, v, rfl, X.o31.xc, X.o31.nof, Z1.e7, lookup2 (by decide +kernel), ?_⟩
    refine ⟨.ref D, rfl, D, _, 7, .ref a7, rfl, rfl, SqL.of aD1, rfl, a7, c 31, _, u, rfl, X.o31.xc, X.o31.nog, Z1.e7, lookup3, ?_⟩
    refine ⟨(by show 6 ≤ sizeLine; decide), fun B nB => ⟨M, B, _, _, rfl, rfl, nw nB _ _ aM, upd_same, (by show 6 + 6 ≤ sizeLine; decide), fun N nN => ?_⟩⟩
    exact rest _ _ ⟨N, rfl, S1.trans ((nw nB).trans (nw nN)), upd_same⟩
  clear aM S1 G1 M
  rintro σ G1 ⟨M, rfl, S1, aM⟩
  -- seen, with the three without fields
  refine seq_join (fun σ G' => ∃ (B : Addr) (xs : List V), σ = [some v, some u, some (.ref B), some (.ref M), none, none] ∧ Same G1 G' ∧ G' B = some (.lst xs) ∧ Els K c G' xs nsO) ?_ fun rest => ?_
  rotate_left
  · refine ⟨.ref D, rfl, fun a8 n8 => fun a9 n9 => fun a10 n10 => ⟨(by show 3 ≤ sizeLine; decide), fun B nB => ?_⟩⟩
    have t8 := nw (o := ExO (.ref (c 32)) a8) n8
    have t9 := nw (o := ExO (.ref (c 33)) a9) n9
    have t10 := nw (o := ExO (.ref (c 34)) a10) n10
    have tB := nw (o := .lst [.ref a8, .ref a9, .ref a10]) nB
    have sB := t8.trans (t9.trans (t10.trans tB))
    refine ⟨D, B, _, _, rfl, rfl, sB _ _ (S1 _ _ aD), upd_same, (by show 8 + 3 ≤ sizeLine; decide), fun N nN => ?_⟩
    have tN := nw (o := .lst [.ref a0, .ref a1, .ref a2, .ref a3, .ref a4, .ref a5, .ref a6, .ref a7, .ref a8, .ref a9, .ref a10]) nN
    have Z1 := Z.keep (S1.trans (sB.trans tN))
    refine rest _ _ ⟨N, _, rfl, sB.trans tN, upd_same, ?_⟩
    refine .cons ⟨by decide, a0, rfl, X.o28.xc, .inl ⟨_, Z1.e0⟩⟩ (.cons ⟨by decide, a1, rfl, X.o28.xc, .inl ⟨_, Z1.e1⟩⟩ (.cons ⟨by decide, a2, rfl, X.o30.xc, .inl ⟨_, Z1.e2⟩⟩ (.cons ⟨by decide, a3, rfl, X.o30.xc, .inl ⟨_, Z1.e3⟩⟩
      (.cons ⟨by decide, a4, rfl, X.o29.xc, .inl ⟨_, Z1.e4⟩⟩ (.cons ⟨by decide, a5, rfl, X.o29.xc, .inl ⟨_, Z1.e5⟩⟩ (.cons ⟨by decide, a6, rfl, X.o31.xc, .inl ⟨_, Z1.e6⟩⟩ (.cons ⟨by decide, a7, rfl, X.o31.xc, .inl ⟨_, Z1.e7⟩⟩
      (.cons ⟨by decide, a8, rfl, X.o32.2.2.2, .inr (tN _ _ (tB _ _ (t10 _ _ (t9 _ _ upd_same))))⟩ (.cons ⟨by decide, a9, rfl, X.o33.2.2.2, .inr (tN _ _ (tB _ _ (t10 _ _ upd_same)))⟩ (.cons ⟨by decide, a10, rfl, X.o34.2.2.2, .inr (tN _ _ (tB _ _ upd_same))⟩ .nil))))))))))
  clear Z aD
  rintro σ G2 ⟨B, xs, rfl, S2, aB, eB⟩
  have lB : xs.length = 11 := eB.length
  have sG : Same H G2 := S.trans (S1.trans S2)
  have aM2 := S2 _ _ aM
  clear aM S1 S2 S
  clear G G1 a0 a1 a2 a3 a4 a5 a6 a7 D
  -- what they told
  have hd := pv1.all (K := K)
  have he := pu1.all (K := K)
  have both : ∀ x ∈ ([d, d, d, d, d, e, d, e, d, e, d, e] : List PyData), x.showable = true ∧ x.hasDict = false ∧ x.depth ≤ 20 ∧ x.shown.length ≤ 100 := by
    intro x hx
    simp only [List.mem_cons, List.not_mem_nil, or_false] at hx
    rcases hx with rfl | rfl | rfl | rfl | rfl | rfl | rfl | rfl | rfl | rfl | rfl | rfl <;> assumption
  obtain ⟨r1, r2, r3, r4⟩ := sh_list both (by show 12 ≤ 100; decide)
  have dps : ∀ {G' : Hp}, Same H G' → DpAll K G' [v, v, v, v, v, u, v, u, v, u, v, u] [d, d, d, d, d, e, d, e, d, e, d, e] := by
    intro G' s
    have x1 := (pv1.keep s).sh (K := K) |>.at_
    have x2 := (pu1.keep s).sh (K := K) |>.at_
    exact .cons x1 (.cons x1 (.cons x1 (.cons x1 (.cons x1 (.cons x2 (.cons x1 (.cons x2 (.cons x1 (.cons x2 (.cons x1 (.cons x2 .nil)))))))))))
  refine seq_join (fun σ G' => σ = [some v, some u, some (.ref B), some (.ref M), none, none] ∧ Same G2 G') ?_ fun rest => ?_
  rotate_left
  · refine ⟨.ref M, rfl, M, _, rfl, .lst (SqL.of aM2) (dps sG), r1, r2, r3, r4, ?_⟩
    refine ⟨v, rfl, (by show 1 ≤ sizeLine; decide), fun A1 n1 => ⟨A1, 4, [v], rfl, rfl, upd_same, by decide, by decide, (by show 1 * 4 ≤ sizeLine; decide), fun A2 n2 => ?_⟩⟩
    refine ⟨v, rfl, u, rfl, (by show 2 ≤ sizeLine; decide), fun A3 n3 => ⟨A3, 4, [v, u], rfl, rfl, upd_same, by decide, by decide, (by show 2 * 4 ≤ sizeLine; decide), fun A4 n4 => ?_⟩⟩
    refine ⟨A2, A4, [v, v, v, v], [v, u, v, u, v, u, v, u], rfl, rfl, nw n4 _ _ (nw n3 _ _ upd_same), upd_same, (by show 4 + 8 ≤ sizeLine; decide), fun A5 n5 => ?_⟩
    have s5 := (nw (o := .lst [v]) n1).trans ((nw (o := .lst [v, v, v, v]) n2).trans ((nw (o := .lst [v, u]) n3).trans ((nw (o := .lst [v, u, v, u, v, u, v, u]) n4).trans (nw (o := .lst [v, v, v, v, v, u, v, u, v, u, v, u]) n5))))
    refine ⟨A5, _, rfl, .lst (SqL.of upd_same) (dps (sG.trans s5)), r1, r2, r3, r4, ?_⟩
    refine ⟨rfl, _, rfl, ?_⟩
    rw [decide_eq_true rfl]
    exact iteF (rest _ _ ⟨rfl, s5⟩)
  rintro σ G3 ⟨rfl, S3⟩
  have aB3 := S3 _ _ aB
  have eB3 := eB.keep S3
  have s3H : Same H G3 := sG.trans S3
  clear r1 r2 r3 r4 dps both aM2 aB eB sG S3
  -- the kinds of these
  refine ⟨.ref B, rfl, B, rfl, ⟨_, SqL.of aB3⟩, fun D nD => lc_same (K := K) (a := B) (xs := xs) (y := .bl true) (fun _ => rfl) nD (SqL.of aB3) (by omega) (fun i x H5 hx s5 q hq => ?_) fun H5 s5 eD => ?_⟩
  · obtain ⟨j, hj, _, hi⟩ := Els.at_ (eB3.keep s5) hx
    exact el_kin rfl hi (X.kinS (ns35 j (List.mem_of_getElem? hj))) hq
  rw [bl_rep] at eD
  refine ⟨D, List.replicate _ true, rfl, SqL.of eD, _, rfl, ?_⟩
  rw [all_true]
  refine iteF ?_
  have aB5 := s5 _ _ aB3
  have eB5 := eB3.keep s5
  have s5H := s3H.trans s5
  clear aB3 eB3 s3H s5 eD nD
  -- TooLong
  refine ⟨v, rfl, fun a0 H6 s6 n6 z0 => ⟨v, rfl, fun a1 H7 s7 n7 z1 => ⟨(by show 2 ≤ sizeLine; decide), fun C nC => ?_⟩⟩⟩
  have sC := s7.trans (nw (o := .lst [.ref a0, .ref a1]) nC)
  have eC : Errs (upd H7 C (.lst [.ref a0, .ref a1])) "found" v [.ref a0, .ref a1] (([35, 35] : List Nat).map c) := .cons ⟨a0, rfl, z0.keep sC⟩ (.cons ⟨a1, rfl, z1.keep (nw nC)⟩ .nil)
  have aC : (upd H7 C (.lst [.ref a0, .ref a1])) C = some (.lst [.ref a0, .ref a1]) := upd_same
  have sD : Same H5 (upd H7 C (.lst [.ref a0, .ref a1])) := s6.trans sC
  revert eC aC sD
  generalize upd H7 C (.lst [.ref a0, .ref a1]) = H8
  intro eC aC sD
  clear sC nC z0 z1 s6 s7 n6 n7
  have xcM : ∀ A ∈ ([35, 35] : List Nat).map c, XC K A ∧ PySem.W.findIn K (.ref A) "found" = some none := by
    intro A hA
    simp only [List.map_cons, List.map_nil, List.mem_cons, List.not_mem_nil, or_false] at hA
    rcases hA with rfl | rfl <;> exact ⟨X.o35.xc, X.o35.no⟩
  have eM : Els K c H8 [.ref a0, .ref a1] [35, 35] := Errs.els eC fun i hi => by rw [nsM_lt i hi]; exact ⟨by decide, X.o35.xc⟩
  -- what they hold
  dsimp only
  refine seq_join (fun σ G' => σ = [some v, some u, some (.ref B), some (.ref M), some (.ref C), none] ∧ Same H8 G') ?_ fun rest => ?_
  rotate_left
  · obtain ⟨r1, r2, r3, r4⟩ := rep_ok hd (n := 2) (by decide)
    refine ⟨.ref C, rfl, C, rfl, ⟨_, SqL.of aC⟩, fun D nD => lc_same (K := K) (a := C) (xs := [.ref a0, .ref a1]) (y := v) (fun _ => rfl) nD (SqL.of aC) (by show 2 ≤ 1000; decide) (fun i x H9 hx s9 p hq => ?_) fun H9 s9 eD => ?_⟩
    · obtain ⟨a, A', fs, ex, k1, k2, k3, k4⟩ := fld_ok eC hx xcM
      exact ⟨x, rfl, a, A', fs, v, ex, k1, k2, k3.keep s9, k4, hq H9 same_rfl⟩
    have p9 := pv1.keep (s5H.trans (sD.trans s9))
    refine ⟨D, .list (List.replicate 2 d), rfl, .lst (SqL.of eD) (sh_rep p9.sh 2), r1, r2, r3, r4, ?_⟩
    refine ⟨v, rfl, v, rfl, (by show 2 ≤ sizeLine; decide), fun R nR => ?_⟩
    refine ⟨R, .list (List.replicate 2 d), rfl, .lst (SqL.of upd_same) (sh_rep (p9.keep (nw nR)).sh 2), r1, r2, r3, r4, ?_⟩
    refine ⟨rfl, _, rfl, ?_⟩
    rw [decide_eq_true rfl]
    exact iteF (rest _ _ ⟨rfl, s9.trans (nw nR)⟩)
  rintro σ G9 ⟨rfl, S9⟩
  have aC9 := S9 _ _ aC
  have aB9 := S9 _ _ (sD _ _ aB5)
  have eM9 := eM.keep S9
  have eB9 := eB5.keep (sD.trans S9)
  have s9H := s5H.trans (sD.trans S9)
  clear eC aC sD eM S9 aB5 eB5 s5H xcM
  -- the kinds
  refine ⟨.ref C, rfl, C, rfl, ⟨_, SqL.of aC9⟩, fun D nD => lc_same (K := K) (a := C) (xs := [.ref a0, .ref a1]) (y := .bl true) (fun _ => rfl) nD (SqL.of aC9) (by show 2 ≤ 1000; decide) (fun i x H5 hx s5 q hq => ?_) fun H10 s10 eD => ?_⟩
  · obtain ⟨j, hj, _, hi⟩ := Els.at_ (eM9.keep s5) hx
    exact el_kin rfl hi (X.kinL (.inr (nsM_lt j (List.mem_of_getElem? hj)))) hq
  rw [bl_rep] at eD
  refine ⟨D, List.replicate _ true, rfl, SqL.of eD, _, rfl, ?_⟩
  rw [all_true]
  refine iteF ?_
  clear eD nD
  -- one class each
  refine ⟨.ref B, rfl, .ref C, rfl, B, C, xs, [.ref a0, .ref a1], rfl, rfl, s10 _ _ aB9, s10 _ _ aC9, ?_, fun L nL => ?_⟩
  · rw [lB]
    show 11 + 2 ≤ sizeLine
    decide
  have ll : (xs ++ [V.ref a0, .ref a1]).length = 13 := by rw [List.length_append, lB]; rfl
  refine ⟨L, rfl, ⟨_, SqL.of upd_same⟩, fun D nD => lc_same (K := K) (a := L) (xs := xs ++ [.ref a0, .ref a1]) (y := .bl true) (fun _ => rfl) nD (SqL.of upd_same) (by omega) (fun i x H7 hx s7 q hq => ?_) fun H7 s7 eD => ?_⟩
  · obtain ⟨j, hj, j36, hi⟩ := Els.at_ ((eB9.app eM9).keep (s10.trans ((nw nL).trans s7))) hx
    exact el_cls rfl hi (X.cls j j36) hq
  rw [bl_rep] at eD
  refine ⟨D, List.replicate _ true, rfl, SqL.of eD, ?_⟩
  rw [all_true]
  exact k _ (s9H.trans (s10.trans ((nw nL).trans s7)))
end
end Ky
namespace Ky
open PySem PySem.Spec PyProof.Rows L2 Gd Kx
theorem scLaw : FnScope ["_law_cells", "_law_told", "_law_k", "_law_number_here", "_law_deal_here", "_law_great", "_law_things"] ["_law_cells"] (defScope Ky.sLaw) := ⟨rfl, rfl, rfl, by decide +kernel, rfl, by decide +kernel, by decide +kernel⟩
/-- the limits -/
structure TLim (mg : Str → Option Value) : Prop where
  l0 : ∃ t, mg "MOST_KINDS" = some (.int 4 t)
  l1 : ∃ t, mg "MOST_CONSTRUCTORS" = some (.int 6 t)
  l2 : ∃ t, mg "MOST_FIELDS" = some (.int 3 t)
  l3 : ∃ t, mg "MOST_ROWS" = some (.int 200 t)
  l4 : ∃ t, mg "MOST_MODES" = some (.int 3 t)
  l5 : ∃ t, mg "MOST_RULES" = some (.int 40 t)
  l6 : ∃ t, mg "MOST_PIECES" = some (.int 9 t)
  l7 : ∃ t, mg "MOST_SIGNS" = some (.int 20 t)
  l8 : ∃ t, mg "MOST_JOINS" = some (.int 2000 t)
  l9 : ∃ t, mg "MOST_STANDS" = some (.int 5 t)
  l10 : ∃ t, mg "MOST_MOVES" = some (.int 30 t)
  l11 : ∃ t, mg "MOST_FACES" = some (.int 60 t)
  l12 : ∃ t, mg "MOST_WRITTEN" = some (.int 5000 t)
  l13 : ∃ t, mg "MOST_READ" = some (.int 40 t)
  l14 : ∃ t, mg "MOST_LISTED" = some (.int 20 t)
  l15 : ∃ t, mg "MOST_DEEDS" = some (.int 100 t)
  len : mg "len" = none
  range : mg "range" = none
  max : mg "max" = none
  min : mg "min" = none
  int : mg "int" = none
  abs : mg "abs" = none
  str : mg "str" = none
  repr : mg "repr" = none
section
variable {P : Program} {w : World} {K : PySem.W.Frag} {mg : Str → Option Value} {base : Heap}
def spLaw (K : PySem.W.Frag) : Sp := fun vs H Q _ => ∃ (a : Addr) (ns : List Int), vs = [.ref a] ∧ SqL K H a (ns.map V.int) ∧ ns.length ≤ 63 ∧ ∀ H', Q (.bl true) H'
def lims : List Int := [4, 6, 3, 200, 3, 40, 9, 20, 2000, 5, 30, 60, 5000, 40, 20, 100]
theorem lims_ok : ∀ i ∈ lims, 0 ≤ i ∧ i < 10 ^ 40 := by decide +kernel
theorem dp_ints {H : Hp} : ∀ is : List Int, DpAll K H (is.map V.int) (is.map PyData.int)
  | [] => .nil
  | i :: r => .cons (.int i) (dp_ints r)
theorem lims_sh : (PyData.list (lims.map PyData.int)).showable = true ∧ (PyData.list (lims.map PyData.int)).hasDict = false ∧ (PyData.list (lims.map PyData.int)).depth ≤ 60 ∧ (PyData.list (lims.map PyData.int)).shown.length ≤ sizeLine := by
  refine sh_list (fun d hd => ?_) (by decide)
  obtain ⟨i, hi, rfl⟩ := List.mem_map.mp hd
  obtain ⟨h0, h1⟩ := lims_ok i hi
  exact (Pl.int (H := fun _ => none) h0 h1).all (K := [])
def thingsV (g : Int) (T U : Addr) : List V := [.int (g % 10 ^ 40), .str (Str.ofString "a" ++ ((toString (g % 89) : String) : Str)), .non, .bl true, .bl false, .int 0, .ref T, .ref U, .int (-1), .int 1]
theorem things_at {G : Hp} {g : Int} {T U : Addr} (eT : G T = some (.tup [.int 1, .int (g % 5)])) (eU : G U = some (.tup [])) {d : Int} (h0 : 0 ≤ d) (h1 : d < 10) :
    ∃ (v : V) (e : PyData), atI (thingsV g T U) d = some v ∧ Pl G v e := by
  have q1 : ∃ e, Pl G (V.int (g % 10 ^ 40)) e := ⟨_, .int (Int.emod_nonneg _ (by decide)) (Int.emod_lt_of_pos _ (by decide))⟩
  have q2 : ∃ e, Pl G (V.str (Str.ofString "a" ++ ((toString (g % 89) : String) : Str))) e := by
    have a0 : 0 ≤ g % 89 := Int.emod_nonneg _ (by decide)
    have a1 : g % 89 < 89 := Int.emod_lt_of_pos _ (by decide)
    have := Pl.str (H := G) ⟨(g % 89).toNat, by omega⟩
    rw [Int.toNat_of_nonneg a0] at this
    exact ⟨_, this⟩
  have q3 : ∃ e, Pl G (V.ref T) e := by
    have a0 : 0 ≤ g % 5 := Int.emod_nonneg _ (by decide)
    have a1 : g % 5 < 5 := Int.emod_lt_of_pos _ (by decide)
    refine ⟨_, Pl.tup2 (H := G) ⟨(g % 5).toNat, by omega⟩ ?_⟩
    rw [Int.toNat_of_nonneg a0]
    exact eT
  obtain ⟨e1, p1⟩ := q1
  obtain ⟨e2, p2⟩ := q2
  obtain ⟨e3, p3⟩ := q3
  obtain ⟨j, rfl⟩ := Int.eq_ofNat_of_zero_le h0
  match j, h1 with
  | 0, _ => exact ⟨_, _, atI_nat rfl, p1⟩
  | 1, _ => exact ⟨_, _, atI_nat rfl, p2⟩
  | 2, _ => exact ⟨_, _, atI_nat rfl, .non⟩
  | 3, _ => exact ⟨_, _, atI_nat rfl, .bl true⟩
  | 4, _ => exact ⟨_, _, atI_nat rfl, .bl false⟩
  | 5, _ => exact ⟨_, _, atI_nat rfl, .int (i := 0) (by decide) (by decide)⟩
  | 6, _ => exact ⟨_, _, atI_nat rfl, p3⟩
  | 7, _ => exact ⟨_, _, atI_nat rfl, .tup0 eU⟩
  | 8, _ => exact ⟨_, _, atI_nat rfl, .neg⟩
  | 9, _ => exact ⟨_, _, atI_nat rfl, .int (i := 1) (by decide) (by decide)⟩
  | n + 10, h => omega
theorem ok_law {f fn fe fp fr : Addr} {fd fdn fde fdp fdr : FuncData} (F : Fun K "law" "law" Ky.sLaw f fd) (T : TLim mg)
    (GN : FnOk P w K mg base CX0 1 fn fdn ["_law_cells", "_law_k"] (spNum K)) (kn : PySem.W.keepIn K (.ref fn) = true) (bN : Binds K fdn ["_law_cells", "_law_k"] []) (gN : mg "_law_number" = some (.ref fn))
    (GE : FnOk P w K mg base CX0 1 fe fde ["_law_number_here"] spDeal) (ke : PySem.W.keepIn K (.ref fe) = true) (bE : Binds K fde ["_law_number_here"] []) (gE : mg "_law_deal" = some (.ref fe))
    (GP : FnOk P w K mg base CX0 1 fp fdp ["_law_deal_here", "_law_many"] spPick) (kp : PySem.W.keepIn K (.ref fp) = true) (bP : Binds K fdp ["_law_deal_here", "_law_many"] []) (gP : mg "_law_pick" = some (.ref fp))
    (GR : Pr P w K mg base CX0 4 fr fdr ["_law_one", "_law_two"] (spTwo K)) (kr : PySem.W.keepIn K (.ref fr) = true) (bR : Binds K fdr ["_law_one", "_law_two"] []) (gR : mg "_law_right" = some (.ref fr)) :
    Pr P w K mg base CX0 5 f fd ["_law_cells"] (Ky.spLaw K) := by
  obtain ⟨t0, g0⟩ := T.l0
  obtain ⟨t1, g1⟩ := T.l1
  obtain ⟨t2, g2⟩ := T.l2
  obtain ⟨t3, g3⟩ := T.l3
  obtain ⟨t4, g4⟩ := T.l4
  obtain ⟨t5, g5⟩ := T.l5
  obtain ⟨t6, g6⟩ := T.l6
  obtain ⟨t7, g7⟩ := T.l7
  obtain ⟨t8, g8⟩ := T.l8
  obtain ⟨t9, g9⟩ := T.l9
  obtain ⟨t10, g10⟩ := T.l10
  obtain ⟨t11, g11⟩ := T.l11
  obtain ⟨t12, g12⟩ := T.l12
  obtain ⟨t13, g13⟩ := T.l13
  obtain ⟨t14, g14⟩ := T.l14
  obtain ⟨t15, g15⟩ := T.l15
  refine okG F Ky.scLaw (fun vs H Q E h => ?_) (fun cv A ou s H vs Q E hG hr h => ?_)
  · obtain ⟨a, ns, rfl, _⟩ := h
    rfl
  obtain ⟨a, ns, rfl, hS, hl, k⟩ := h
  have hr1 : Room 1 (A.deeper (envOfC "law" (defScope Ky.sLaw) s.heap.objs.size f cv)) := hr.mono (by decide)
  have hu := hr.units
  refine ⟨_, pss_cons (ps_set (i := 1) Ky.scLaw.nd rfl (.inl rfl) (pe_lst (pa_cons (pe_glob (v := .int 4) (by rfl) g0 ⟨_, rfl⟩) (pa_cons (pe_glob (v := .int 6) (by rfl) g1 ⟨_, rfl⟩) (pa_cons (pe_glob (v := .int 3) (by rfl) g2 ⟨_, rfl⟩) (pa_cons (pe_glob (v := .int 200) (by rfl) g3 ⟨_, rfl⟩)
      (pa_cons (pe_glob (v := .int 3) (by rfl) g4 ⟨_, rfl⟩) (pa_cons (pe_glob (v := .int 40) (by rfl) g5 ⟨_, rfl⟩) (pa_cons (pe_glob (v := .int 9) (by rfl) g6 ⟨_, rfl⟩) (pa_cons (pe_glob (v := .int 20) (by rfl) g7 ⟨_, rfl⟩) pa_nil))))))))))
    (pss_cons (ps_set (i := 1) Ky.scLaw.nd rfl (.inl rfl) (pe_op op_cat (pv 1) (pe_lst (pa_cons (pe_glob (v := .int 2000) (by rfl) g8 ⟨_, rfl⟩) (pa_cons (pe_glob (v := .int 5) (by rfl) g9 ⟨_, rfl⟩) (pa_cons (pe_glob (v := .int 30) (by rfl) g10 ⟨_, rfl⟩) (pa_cons (pe_glob (v := .int 60) (by rfl) g11 ⟨_, rfl⟩)
      (pa_cons (pe_glob (v := .int 5000) (by rfl) g12 ⟨_, rfl⟩) (pa_cons (pe_glob (v := .int 40) (by rfl) g13 ⟨_, rfl⟩) (pa_cons (pe_glob (v := .int 20) (by rfl) g14 ⟨_, rfl⟩) (pa_cons (pe_glob (v := .int 100) (by rfl) g15 ⟨_, rfl⟩) pa_nil)))))))))))
    (pss_cons (ps_if (pt_cmpR op_ne (pe_callB (call_show hG hu) (by rfl) T.repr boot_repr (pa_cons (pv 1) pa_nil)) (pe_callB (call_show hG hu) (by rfl) T.repr boot_repr (pa_cons (pe_lst (pa_cons pe_int (pa_cons pe_int (pa_cons pe_int (pa_cons pe_int (pa_cons pe_int (pa_cons pe_int (pa_cons pe_int (pa_cons pe_int (pa_cons pe_int (pa_cons pe_int (pa_cons pe_int (pa_cons pe_int (pa_cons pe_int (pa_cons pe_int (pa_cons pe_int (pa_cons pe_int pa_nil))))))))))))))))) pa_nil)) (nomark _)) (pss_one (ps_ret pe_bl)) pss_nil)
    (pss_cons (ps_for PassesOwn.never rfl (pi_range1 rfl T.range (pa_cons (pe_callB (call_max2 rfl) (by rfl) T.max boot_max (pa_cons pe_int (pa_cons (pe_callB (call_min2 rfl) (by rfl) T.min boot_min (pa_cons (pe_callB call_len_seq (by rfl) T.len PySem.boot_len (pa_cons (pv 0) pa_nil)) (pa_cons pe_int pa_nil))) pa_nil))) pa_nil)) (pg_name (i := 2) Ky.scLaw.nd rfl (.inl rfl))
      (pss_cons (ps_set (i := 3) Ky.scLaw.nd rfl (.inl rfl) (pe_call GN hr1 (by rfl) gN kn bN .nil pass0 (pa_cons (pv 0) (pa_cons (pv 2) pa_nil))))
      (pss_cons (ps_par (i := 4) (j := 5) (by rfl) Ky.scLaw.nd rfl rfl (by decide) rfl rfl (pa_cons (pe_call GE hr1 (by rfl) gE ke bE .nil pass0 (pa_cons (pv 3) pa_nil)) (pa_cons (pe_callTy call_int1 (by rfl) T.int boot_int (pa_cons (pe_callB call_abs (by rfl) T.abs boot_abs (pa_cons (pv 3) pa_nil)) pa_nil)) pa_nil)) (by rfl))
      (pss_cons (ps_set (i := 6) Ky.scLaw.nd rfl (.inl rfl) (pe_lst (pa_cons (pe_op op_mod (pv 5) (pe_op op_pow pe_int pe_int))
          (pa_cons (pe_op op_add_str pe_str (pe_callTy call_str_int (by rfl) T.str boot_str (pa_cons (pe_op op_mod (pe_callTy call_int1 (by rfl) T.int boot_int (pa_cons (pv 5) pa_nil)) pe_int) pa_nil)))
          (pa_cons pe_non (pa_cons pe_bl (pa_cons pe_bl (pa_cons pe_int (pa_cons (pe_tup (pa_cons pe_int (pa_cons (pe_op op_mod (pe_callTy call_int1 (by rfl) T.int boot_int (pa_cons (pv 5) pa_nil)) pe_int) pa_nil))) (pa_cons (pe_tup pa_nil) (pa_cons (pe_un un_neg pe_int) (pa_cons pe_int pa_nil))))))))))))
      (pss_one (ps_if (pt_not (pt_val (pe_callG GR hG hr (by rfl) gR kr bR .nil pass0 (pa_cons (pe_ix ix_list (pv 6) (pe_call GP hr1 (by rfl) gP kp bP .nil pass0 (pa_cons (pv 4) (pa_cons pe_int pa_nil))) (fun _ _ => rfl)) (pa_cons (pe_ix ix_list (pv 6) (pe_call GP hr1 (by rfl) gP kp bP .nil pass0 (pa_cons (pv 4) (pa_cons pe_int pa_nil))) (fun _ _ => rfl)) pa_nil))))) (pss_one (ps_ret pe_bl)) pss_nil))))))
    (pss_one (ps_ret pe_bl))))), ?_⟩
  obtain ⟨w1, w2, w3, w4⟩ := lims_sh
  refine ⟨(by show 8 ≤ sizeLine; decide), fun A0 n0 => ?_⟩
  refine ⟨.ref A0, rfl, (by show 8 ≤ sizeLine; decide), fun B0 m0 => ?_⟩
  refine ⟨A0, B0, _, _, rfl, rfl, same_new m0 _ _ upd_same, upd_same, (by show 8 + 8 ≤ sizeLine; decide), fun C0 c0 => ?_⟩
  refine ⟨.ref C0, rfl, C0, .list (lims.map PyData.int), rfl, .lst (SqL.of upd_same) (dp_ints lims), w1, w2, w3, w4, ?_⟩
  refine ⟨(by show 16 ≤ sizeLine; decide), fun D0 d0 => ⟨D0, .list (lims.map PyData.int), rfl, .lst (SqL.of upd_same) (dp_ints lims), w1, w2, w3, w4, ?_⟩⟩
  refine ⟨rfl, _, rfl, ?_⟩
  rw [decide_eq_true rfl]
  refine iteF ?_
  have hS1 := (((same_new n0).trans (same_new m0)).trans ((same_new c0).trans (same_new (o := .lst [V.int 4, .int 6, .int 3, .int 200, .int 3, .int 40, .int 9, .int 20, .int 2000, .int 5, .int 30, .int 60, .int 5000, .int 40, .int 20, .int 100]) d0))).seq hS
  revert hS1
  generalize upd (upd (upd (upd H A0 (.lst [V.int 4, .int 6, .int 3, .int 200, .int 3, .int 40, .int 9, .int 20])) B0 (.lst [V.int 2000, .int 5, .int 30, .int 60, .int 5000, .int 40, .int 20, .int 100])) C0 (.lst ([V.int 4, .int 6, .int 3, .int 200, .int 3, .int 40, .int 9, .int 20] ++ [V.int 2000, .int 5, .int 30, .int 60, .int 5000, .int 40, .int 20, .int 100]))) D0 (.lst [V.int 4, .int 6, .int 3, .int 200, .int 3, .int 40, .int 9, .int 20, .int 2000, .int 5, .int 30, .int 60, .int 5000, .int 40, .int 20, .int 100]) = G0
  intro hS1
  clear w1 w2 w3 w4 n0 m0 c0 d0 hS
  refine ⟨.ref a, rfl, a, ns.map V.int, rfl, .inl hS1, _, _, rfl, _, _, rfl, _, rfl, ?_, ?_, for_range (fun i σ H' => ∃ o2 o3 o4 o5 o6 : Option V, σ = [some (.ref a), some (.ref C0), o2, o3, o4, o5, o6] ∧ Same G0 H') ⟨none, none, none, none, none, rfl, fun _ _ e => e⟩ ?_ ?_⟩
  · split <;> split <;> omega
  · rw [List.length_map]
    split <;> split <;> omega
  · rintro i σ H1 hi ⟨o2, o3, o4, o5, o6, rfl, s1⟩
    refine ⟨.ref a, rfl, .int (0 + (i : Int)), rfl, a, ns, i, ?_, s1.seq hS1, hl, fun z H2 s2 => ?_⟩
    · rw [Int.zero_add]
      rfl
    refine ⟨.int z, rfl, z, rfl, fun p H3 s3 np D3 => ⟨.int z, rfl, _, rfl, .inl ⟨_, rfl, _, _, rfl, ?_⟩⟩⟩
    generalize (if z < 0 then -z else z : Int) = g
    refine ⟨.int g, rfl, _, _, rfl, rfl, ⟨by decide, by decide, by decide⟩, _, _, rfl, rfl, (by show (0 : Int) < 10 ^ 40; decide), ?_⟩
    refine ⟨.int g, rfl, .inl ⟨_, rfl, _, _, rfl, rfl, (by show (0 : Int) < 89; decide), _, rfl, ?_, _, _, rfl, rfl, ?_, ?_⟩⟩
    · have a0 : 0 ≤ g % 89 := Int.emod_nonneg _ (by decide)
      have a1 : g % 89 < 89 := Int.emod_lt_of_pos _ (by decide)
      by_cases z0 : (g % 89).natAbs = 0
      · rw [z0]; decide
      · exact (Nat.log2_lt z0).mpr (Nat.lt_of_lt_of_le (show (g % 89).natAbs < 2 ^ 7 by omega) (Nat.pow_le_pow_right (by decide) (by decide)))
    · have a0 : 0 ≤ g % 89 := Int.emod_nonneg _ (by decide)
      have a1 : g % 89 < 89 := Int.emod_lt_of_pos _ (by decide)
      have e1 : (Str.ofString "a").length = 1 := by decide +kernel
      have e2 := PyProof.Rows.toString_length_le a0 (k := 2) (by decide) (by omega)
      have e3 := sizeLine_eq
      show (Str.ofString "a").length + (((toString (g % 89) : String) : Str)).length ≤ sizeLine
      omega
    refine ⟨.int g, rfl, .inl ⟨_, rfl, _, _, rfl, rfl, (by show (0 : Int) < 5; decide), (by show 2 ≤ sizeLine; decide), fun T nT => ⟨(by show 0 ≤ sizeLine; decide), fun U nU => ?_⟩⟩⟩
    refine ⟨_, rfl, (by show 10 ≤ sizeLine; decide), fun L nL => ?_⟩
    have s4 : Same H3 (upd H3 T (.tup [.int 1, .int (g % 5)])) := same_new nT
    have eT0 : upd H3 T (.tup [.int 1, .int (g % 5)]) T = some (.tup [.int 1, .int (g % 5)]) := upd_same
    have nTp : T ≠ p := fun e => by
      obtain ⟨_, _, _, ep, _⟩ := D3
      rw [← e, nT] at ep
      cases ep
    revert eT0 s4 nU nL
    generalize upd H3 T (.tup [.int 1, .int (g % 5)]) = H4
    intro nU nL s4 eT4
    have D4 := D3.keep s4
    have s5 : Same H4 (upd H4 U (.tup [])) := same_new nU
    have eU0 : upd H4 U (.tup []) U = some (.tup []) := upd_same
    have nUp : U ≠ p := fun e => by
      obtain ⟨_, _, _, ep, _⟩ := D4
      rw [← e, nU] at ep
      cases ep
    revert eU0 s5 nL
    generalize upd H4 U (.tup []) = H5
    intro nL s5 eU5
    have eT5 := s5 _ _ eT4
    have D5 := D4.keep s5
    have s6 : Same H5 (upd H5 L (.lst (thingsV g T U))) := same_new nL
    have eL6 : upd H5 L (.lst (thingsV g T U)) L = some (.lst (thingsV g T U)) := upd_same
    have nLp : L ≠ p := fun e => by
      obtain ⟨_, _, _, ep, _⟩ := D5
      rw [← e, nL] at ep
      cases ep
    have eT6 := s6 _ _ eT5
    have eU6 := s6 _ _ eU5
    have D6 := D5.keep s6
    refine ⟨.ref L, rfl, .ref p, rfl, p, 10, rfl, D6, by decide, by decide, fun d1 H7 a0 a1 D7 b7 => ?_⟩
    have eT7 := b7 _ _ nTp eT6
    have eU7 := b7 _ _ nUp eU6
    have eL7 := b7 _ _ nLp eL6
    obtain ⟨v1, e1, x1, _⟩ := things_at eT7 eU7 a0 a1
    refine ⟨L, thingsV g T U, d1, v1, rfl, rfl, SqL.of eL7, x1, ?_⟩
    refine ⟨.ref L, rfl, .ref p, rfl, p, 10, rfl, D7, by decide, by decide, fun d2 H8 a2 a3 D8 b8 => ?_⟩
    have eT8 := b8 _ _ nTp eT7
    have eU8 := b8 _ _ nUp eU7
    have eL8 := b8 _ _ nLp eL7
    obtain ⟨v2, e2, x2, p2⟩ := things_at eT8 eU8 a2 a3
    obtain ⟨v1', e1', x1', p1⟩ := things_at eT8 eU8 a0 a1
    rw [x1] at x1'
    cases x1'
    refine ⟨L, thingsV g T U, d2, v2, rfl, rfl, SqL.of eL8, x2, ?_⟩
    refine ⟨v1, v2, e1', e2, rfl, p1, p2, fun H9 s9 => ?_⟩
    refine ⟨true, rfl, iteF ⟨_, _, _, _, _, rfl, fun b o e => ?_⟩⟩
    have z2 := s2 _ _ (s1 _ _ e)
    have nb : b ≠ p := fun q => by rw [q, np] at z2; cases z2
    exact s9 _ _ (b8 _ _ nb (b7 _ _ nb (s6 _ _ (s5 _ _ (s4 _ _ (s3 _ _ z2))))))
  · rintro σ H' ⟨o2, o3, o4, o5, o6, rfl, s1⟩
    exact k H'
end
end Ky
namespace Ky
open PySem PySem.Spec PyProof.Rows L2 Gd
/-! ### what the Bools say -/
section
variable {P : Program} {w : World} {K : PySem.W.Frag} {mg : Str → Option Value} {base : Heap} {h : Heap}
theorem xc_of {C : Addr} {b : Nat} (q : xcB K C b = true) : XC K C := by
  obtain ⟨q1, q⟩ := He.ba q
  obtain ⟨q2, q⟩ := He.ba q
  obtain ⟨q3, q⟩ := He.ba q
  obtain ⟨q4, q⟩ := He.ba q
  obtain ⟨q5, q⟩ := He.ba q
  obtain ⟨q6, q⟩ := He.ba q
  obtain ⟨q7, q⟩ := He.ba q
  obtain ⟨q8, q⟩ := He.ba q
  obtain ⟨q9, q⟩ := He.ba q
  obtain ⟨q10, q⟩ := He.ba q
  obtain ⟨q11, q12⟩ := He.ba q
  refine ⟨?_, q3, He.eqO_ok q4, He.eqO_ok q5, He.eqO_ok q6, of_decide_eq_true q7, He.eqO_ok q8, He.eqO_ok q9, of_decide_eq_true q10, of_decide_eq_true q11, q12⟩
  match b, q1, q2 with
  | 0, q1, q2 => exact ⟨_, _, _, _, PySem.F.excBase_ValueError, PySem.F.store_ValueError, q1, q2⟩
  | 1, q1, q2 => exact ⟨_, _, _, _, PySem.F.excBase_LookupError, PySem.F.store_LookupError, q1, q2⟩
  | n + 2, q1, q2 => exact ⟨_, _, _, _, PySem.F.excBase_ArithmeticError, PySem.F.store_ArithmeticError, q1, q2⟩
theorem cd_glo {d : Cd} (q : cdB K d = true) : (He.Fa.glo d.nm).ok K = true := (He.ba q).1
theorem cd_xc {d : Cd} (q : cdB K d = true) : XC K (He.ga K d.nm) := xc_of (He.ba (He.ba q).2).1
theorem cd_f {d : Cd} (q : cdB K d = true) {f : Str} (hf : f ∈ d.fs) : PySem.W.takerIn K (He.ga K d.nm) f = some none ∧ PySem.W.findIn K (.ref (He.ga K d.nm)) f = some none := by
  have z := List.all_eq_true.mp (He.ba (He.ba (He.ba q).2).2).1 f hf
  obtain ⟨z1, z2⟩ := He.ba z
  exact ⟨He.eqO_ok z1, He.eqO_ok z2⟩
theorem cd_i {d : Cd} (q : cdB K d = true) {x : Str} {r : List Str} (e : d.fs = x :: r) : PySem.W.findIn K (.ref (He.ga K d.nm)) "__init__" = some (some (.ref (He.ma K (He.ga K d.nm) "__init__"))) ∧ PySem.W.typeIn K (.ref (He.ma K (He.ga K d.nm) "__init__")) = some (.type "function") := by
  have z := (He.ba (He.ba (He.ba q).2).2).2
  rw [e] at z
  obtain ⟨z1, z2⟩ := He.ba z
  exact ⟨He.eqO_ok z1, of_decide_eq_true z2⟩
theorem cd_n {d : Cd} (q : cdB K d = true) (e : d.fs = []) : PySem.W.excIn K (He.ga K d.nm) (tlOf d.ba) (nidOf d.ba) = true := by
  have z := (He.ba (He.ba (He.ba q).2).2).2
  rw [e] at z
  exact z
theorem one_of {d : Cd} {nm f qn : Str} {b pl : Nat} {st : Stmt} {fd : FuncData} {p1 p2 p3 p4 : Pos} (ed : d = ⟨nm, b, [f], pl⟩) (X : K.In h) (G : h.Ns mainGlobals mg) (q : cdB K d = true) (F : Fun K "__init__" qn st (He.ma K (He.ga K nm) "__init__") fd)
    (S : FnScope ["self", f] ["self", f] (defScope st)) (hb : defBody st = [.Assign [.Attribute (.Name "self" p1) f p2] (.Name f p3) p4])
    (hd : (f == ("__debug__" : Str)) = false) (hc : (f == ("__classdict__" : Str)) = false) (hs : ∀ env : Env, swapsWith (.Name f p3) (some (.Attribute (.Name "self" p1) f p2)) p4.line env = pure false)
    (b1 : ∀ (kV doc pm : Value) (an : Option Addr) (cdv ct : Value) (us : List Value), us.length = 2 → bindArgs (PySem.W.fnOf "__init__" qn (defArgs st) (defBody st) (defScope st) .none kV doc pm an cdv ct) ⟨us, []⟩ = pure ((["self", f] : List Str).zip us))
    (b2 : ∀ (kV doc pm : Value) (an : Option Addr) (cdv ct self v : Value), bindArgs (PySem.W.fnOf "__init__" qn (defArgs st) (defBody st) (defScope st) .none kV doc pm an cdv ct) ⟨[self], [(f, v)]⟩ = pure [(("self" : Str), self), (f, v)]) : One P w K mg base nm f (He.ga K nm) := by
  subst ed
  have T := cd_xc q
  obtain ⟨t1, t2⟩ := cd_f q (f := f) (List.mem_cons_self ..)
  obtain ⟨i1, i2⟩ := cd_i q rfl
  refine ⟨He.glo_ok X G (cd_glo q), ⟨_, fd, ⟨T, i1, i2⟩, ok_i1 F S hb hd hc hs T t1, F.binds b1, ⟨fun s self ws _ hl => ?_, fun z => z⟩⟩, t2⟩
  obtain ⟨oc, od, kV, doc, pm, an, cdv, ct, osl, rfl, lk, hcd⟩ := F.ex
  match ws, hl with
  | [v], _ => exact .of_eq (b2 kV doc pm an cdv ct self v)
theorem two_of {d : Cd} {nm f g qn : Str} {b pl : Nat} {st : Stmt} {fd : FuncData} {p1 p2 p3 p4 p5 p6 p7 p8 : Pos} (ed : d = ⟨nm, b, [f, g], pl⟩) (X : K.In h) (G : h.Ns mainGlobals mg) (q : cdB K d = true) (F : Fun K "__init__" qn st (He.ma K (He.ga K nm) "__init__") fd)
    (S : FnScope ["self", f, g] ["self", f, g] (defScope st)) (hb : defBody st = [.Assign [.Attribute (.Name "self" p1) f p2] (.Name f p3) p4, .Assign [.Attribute (.Name "self" p5) g p6] (.Name g p7) p8])
    (hd : (f == ("__debug__" : Str)) = false) (hc : (f == ("__classdict__" : Str)) = false) (hd2 : (g == ("__debug__" : Str)) = false) (hc2 : (g == ("__classdict__" : Str)) = false)
    (hs : ∀ env : Env, swapsWith (.Name f p3) (some (.Attribute (.Name "self" p1) f p2)) p4.line env = pure false) (hs2 : ∀ env : Env, swapsWith (.Name g p7) (some (.Attribute (.Name "self" p5) g p6)) p8.line env = pure false)
    (b1 : ∀ (kV doc pm : Value) (an : Option Addr) (cdv ct : Value) (us : List Value), us.length = 3 → bindArgs (PySem.W.fnOf "__init__" qn (defArgs st) (defBody st) (defScope st) .none kV doc pm an cdv ct) ⟨us, []⟩ = pure ((["self", f, g] : List Str).zip us))
    (b2 : ∀ (kV doc pm : Value) (an : Option Addr) (cdv ct self v u : Value), bindArgs (PySem.W.fnOf "__init__" qn (defArgs st) (defBody st) (defScope st) .none kV doc pm an cdv ct) ⟨[self], [(g, v), (f, u)]⟩ = pure [(("self" : Str), self), (f, u), (g, v)]) : Two P w K mg base nm f g (He.ga K nm) := by
  subst ed
  have T := cd_xc q
  obtain ⟨t1, t2⟩ := cd_f q (f := f) (List.mem_cons_self ..)
  obtain ⟨u1, u2⟩ := cd_f q (f := g) (.tail _ (List.mem_cons_self ..))
  obtain ⟨i1, i2⟩ := cd_i q rfl
  refine ⟨He.glo_ok X G (cd_glo q), ⟨_, fd, ⟨T, i1, i2⟩, ok_i2 F S hb hd hc hd2 hc2 hs hs2 T t1 u1, F.binds b1, ⟨fun s self ws _ hl => ?_, fun z => Vals.reverse z⟩⟩, t2, u2⟩
  obtain ⟨oc, od, kV, doc, pm, an, cdv, ct, osl, rfl, lk, hcd⟩ := F.ex
  match ws, hl with
  | [v, u], _ => exact .of_eq (b2 kV doc pm an cdv ct self v u)
end
end Ky
namespace Ky
open PySem PySem.Spec PyProof.Rows L2 Gd
section
variable {P : Program} {w : World} {K : PySem.W.Frag} {mg : Str → Option Value} {base : Heap} {h : Heap}
theorem tab_cd (c : tab K = true) {i : Nat} {d : Cd} (e : cs[i]? = some d) : cdB K d = true := List.all_eq_true.mp (He.ba (He.ba (He.ba (He.ba c).2).2).2).1 d (List.mem_of_getElem? e)
def d0 : Cd := ⟨"NotASchema", 0, ["value"], 4⟩
theorem ox0 (X : K.In h) (G : h.Ns mainGlobals mg) (c : SaysX tab fn K) : One P w K mg base "NotASchema" "value" (He.ga K "NotASchema") := by
  obtain ⟨fd, F⟩ := c.fun_ (st := iniS d0) 13 (d := iniAt d0) (by kernel_rfl) rfl
  exact one_of (d := d0) rfl X G (tab_cd c.facts (i := 0) (by kernel_rfl)) F ⟨rfl, rfl, rfl, by decide +kernel, rfl, by decide +kernel, by decide +kernel⟩ rfl (by decide +kernel) (by decide +kernel) (fun _ => rfl) (fun _ _ _ _ _ _ us hl => match us, hl with | [_, _], _ => rfl) (fun _ _ _ _ _ _ _ _ => rfl)
def d1 : Cd := ⟨"NotATree", 0, ["value"], 5⟩
theorem ox1 (X : K.In h) (G : h.Ns mainGlobals mg) (c : SaysX tab fn K) : One P w K mg base "NotATree" "value" (He.ga K "NotATree") := by
  obtain ⟨fd, F⟩ := c.fun_ (st := iniS d1) 14 (d := iniAt d1) (by kernel_rfl) rfl
  exact one_of (d := d1) rfl X G (tab_cd c.facts (i := 1) (by kernel_rfl)) F ⟨rfl, rfl, rfl, by decide +kernel, rfl, by decide +kernel, by decide +kernel⟩ rfl (by decide +kernel) (by decide +kernel) (fun _ => rfl) (fun _ _ _ _ _ _ us hl => match us, hl with | [_, _], _ => rfl) (fun _ _ _ _ _ _ _ _ => rfl)
def d2 : Cd := ⟨"NotAWriter", 0, ["value"], 6⟩
theorem ox2 (X : K.In h) (G : h.Ns mainGlobals mg) (c : SaysX tab fn K) : One P w K mg base "NotAWriter" "value" (He.ga K "NotAWriter") := by
  obtain ⟨fd, F⟩ := c.fun_ (st := iniS d2) 15 (d := iniAt d2) (by kernel_rfl) rfl
  exact one_of (d := d2) rfl X G (tab_cd c.facts (i := 2) (by kernel_rfl)) F ⟨rfl, rfl, rfl, by decide +kernel, rfl, by decide +kernel, by decide +kernel⟩ rfl (by decide +kernel) (by decide +kernel) (fun _ => rfl) (fun _ _ _ _ _ _ us hl => match us, hl with | [_, _], _ => rfl) (fun _ _ _ _ _ _ _ _ => rfl)
def d3 : Cd := ⟨"NotAPattern", 0, ["value"], 7⟩
theorem ox3 (X : K.In h) (G : h.Ns mainGlobals mg) (c : SaysX tab fn K) : One P w K mg base "NotAPattern" "value" (He.ga K "NotAPattern") := by
  obtain ⟨fd, F⟩ := c.fun_ (st := iniS d3) 16 (d := iniAt d3) (by kernel_rfl) rfl
  exact one_of (d := d3) rfl X G (tab_cd c.facts (i := 3) (by kernel_rfl)) F ⟨rfl, rfl, rfl, by decide +kernel, rfl, by decide +kernel, by decide +kernel⟩ rfl (by decide +kernel) (by decide +kernel) (fun _ => rfl) (fun _ _ _ _ _ _ us hl => match us, hl with | [_, _], _ => rfl) (fun _ _ _ _ _ _ _ _ => rfl)
def d4 : Cd := ⟨"UnknownKind", 0, ["value"], 8⟩
theorem ox4 (X : K.In h) (G : h.Ns mainGlobals mg) (c : SaysX tab fn K) : One P w K mg base "UnknownKind" "value" (He.ga K "UnknownKind") := by
  obtain ⟨fd, F⟩ := c.fun_ (st := iniS d4) 17 (d := iniAt d4) (by kernel_rfl) rfl
  exact one_of (d := d4) rfl X G (tab_cd c.facts (i := 4) (by kernel_rfl)) F ⟨rfl, rfl, rfl, by decide +kernel, rfl, by decide +kernel, by decide +kernel⟩ rfl (by decide +kernel) (by decide +kernel) (fun _ => rfl) (fun _ _ _ _ _ _ us hl => match us, hl with | [_, _], _ => rfl) (fun _ _ _ _ _ _ _ _ => rfl)
def d5 : Cd := ⟨"UnknownConstructor", 0, ["value"], 9⟩
theorem ox5 (X : K.In h) (G : h.Ns mainGlobals mg) (c : SaysX tab fn K) : One P w K mg base "UnknownConstructor" "value" (He.ga K "UnknownConstructor") := by
  obtain ⟨fd, F⟩ := c.fun_ (st := iniS d5) 18 (d := iniAt d5) (by kernel_rfl) rfl
  exact one_of (d := d5) rfl X G (tab_cd c.facts (i := 5) (by kernel_rfl)) F ⟨rfl, rfl, rfl, by decide +kernel, rfl, by decide +kernel, by decide +kernel⟩ rfl (by decide +kernel) (by decide +kernel) (fun _ => rfl) (fun _ _ _ _ _ _ us hl => match us, hl with | [_, _], _ => rfl) (fun _ _ _ _ _ _ _ _ => rfl)
def d6 : Cd := ⟨"UnknownMode", 0, ["value"], 10⟩
theorem ox6 (X : K.In h) (G : h.Ns mainGlobals mg) (c : SaysX tab fn K) : One P w K mg base "UnknownMode" "value" (He.ga K "UnknownMode") := by
  obtain ⟨fd, F⟩ := c.fun_ (st := iniS d6) 19 (d := iniAt d6) (by kernel_rfl) rfl
  exact one_of (d := d6) rfl X G (tab_cd c.facts (i := 6) (by kernel_rfl)) F ⟨rfl, rfl, rfl, by decide +kernel, rfl, by decide +kernel, by decide +kernel⟩ rfl (by decide +kernel) (by decide +kernel) (fun _ => rfl) (fun _ _ _ _ _ _ us hl => match us, hl with | [_, _], _ => rfl) (fun _ _ _ _ _ _ _ _ => rfl)
def d7 : Cd := ⟨"InvalidText", 0, ["value"], 11⟩
theorem ox7 (X : K.In h) (G : h.Ns mainGlobals mg) (c : SaysX tab fn K) : One P w K mg base "InvalidText" "value" (He.ga K "InvalidText") := by
  obtain ⟨fd, F⟩ := c.fun_ (st := iniS d7) 20 (d := iniAt d7) (by kernel_rfl) rfl
  exact one_of (d := d7) rfl X G (tab_cd c.facts (i := 7) (by kernel_rfl)) F ⟨rfl, rfl, rfl, by decide +kernel, rfl, by decide +kernel, by decide +kernel⟩ rfl (by decide +kernel) (by decide +kernel) (fun _ => rfl) (fun _ _ _ _ _ _ us hl => match us, hl with | [_, _], _ => rfl) (fun _ _ _ _ _ _ _ _ => rfl)
def d8 : Cd := ⟨"InvalidPath", 0, ["value"], 12⟩
theorem ox8 (X : K.In h) (G : h.Ns mainGlobals mg) (c : SaysX tab fn K) : One P w K mg base "InvalidPath" "value" (He.ga K "InvalidPath") := by
  obtain ⟨fd, F⟩ := c.fun_ (st := iniS d8) 21 (d := iniAt d8) (by kernel_rfl) rfl
  exact one_of (d := d8) rfl X G (tab_cd c.facts (i := 8) (by kernel_rfl)) F ⟨rfl, rfl, rfl, by decide +kernel, rfl, by decide +kernel, by decide +kernel⟩ rfl (by decide +kernel) (by decide +kernel) (fun _ => rfl) (fun _ _ _ _ _ _ us hl => match us, hl with | [_, _], _ => rfl) (fun _ _ _ _ _ _ _ _ => rfl)
def d9 : Cd := ⟨"InvalidTree", 0, ["value"], 13⟩
theorem ox9 (X : K.In h) (G : h.Ns mainGlobals mg) (c : SaysX tab fn K) : One P w K mg base "InvalidTree" "value" (He.ga K "InvalidTree") := by
  obtain ⟨fd, F⟩ := c.fun_ (st := iniS d9) 22 (d := iniAt d9) (by kernel_rfl) rfl
  exact one_of (d := d9) rfl X G (tab_cd c.facts (i := 9) (by kernel_rfl)) F ⟨rfl, rfl, rfl, by decide +kernel, rfl, by decide +kernel, by decide +kernel⟩ rfl (by decide +kernel) (by decide +kernel) (fun _ => rfl) (fun _ _ _ _ _ _ us hl => match us, hl with | [_, _], _ => rfl) (fun _ _ _ _ _ _ _ _ => rfl)
def d10 : Cd := ⟨"InvalidNumber", 0, ["value"], 14⟩
theorem ox10 (X : K.In h) (G : h.Ns mainGlobals mg) (c : SaysX tab fn K) : One P w K mg base "InvalidNumber" "value" (He.ga K "InvalidNumber") := by
  obtain ⟨fd, F⟩ := c.fun_ (st := iniS d10) 23 (d := iniAt d10) (by kernel_rfl) rfl
  exact one_of (d := d10) rfl X G (tab_cd c.facts (i := 10) (by kernel_rfl)) F ⟨rfl, rfl, rfl, by decide +kernel, rfl, by decide +kernel, by decide +kernel⟩ rfl (by decide +kernel) (by decide +kernel) (fun _ => rfl) (fun _ _ _ _ _ _ us hl => match us, hl with | [_, _], _ => rfl) (fun _ _ _ _ _ _ _ _ => rfl)
def d11 : Cd := ⟨"InvalidStart", 0, ["value"], 15⟩
theorem ox11 (X : K.In h) (G : h.Ns mainGlobals mg) (c : SaysX tab fn K) : One P w K mg base "InvalidStart" "value" (He.ga K "InvalidStart") := by
  obtain ⟨fd, F⟩ := c.fun_ (st := iniS d11) 24 (d := iniAt d11) (by kernel_rfl) rfl
  exact one_of (d := d11) rfl X G (tab_cd c.facts (i := 11) (by kernel_rfl)) F ⟨rfl, rfl, rfl, by decide +kernel, rfl, by decide +kernel, by decide +kernel⟩ rfl (by decide +kernel) (by decide +kernel) (fun _ => rfl) (fun _ _ _ _ _ _ us hl => match us, hl with | [_, _], _ => rfl) (fun _ _ _ _ _ _ _ _ => rfl)
def d12 : Cd := ⟨"InvalidString", 0, ["value"], 16⟩
theorem ox12 (X : K.In h) (G : h.Ns mainGlobals mg) (c : SaysX tab fn K) : One P w K mg base "InvalidString" "value" (He.ga K "InvalidString") := by
  obtain ⟨fd, F⟩ := c.fun_ (st := iniS d12) 25 (d := iniAt d12) (by kernel_rfl) rfl
  exact one_of (d := d12) rfl X G (tab_cd c.facts (i := 12) (by kernel_rfl)) F ⟨rfl, rfl, rfl, by decide +kernel, rfl, by decide +kernel, by decide +kernel⟩ rfl (by decide +kernel) (by decide +kernel) (fun _ => rfl) (fun _ _ _ _ _ _ us hl => match us, hl with | [_, _], _ => rfl) (fun _ _ _ _ _ _ _ _ => rfl)
def d13 : Cd := ⟨"InvalidLine", 0, ["value"], 17⟩
theorem ox13 (X : K.In h) (G : h.Ns mainGlobals mg) (c : SaysX tab fn K) : One P w K mg base "InvalidLine" "value" (He.ga K "InvalidLine") := by
  obtain ⟨fd, F⟩ := c.fun_ (st := iniS d13) 26 (d := iniAt d13) (by kernel_rfl) rfl
  exact one_of (d := d13) rfl X G (tab_cd c.facts (i := 13) (by kernel_rfl)) F ⟨rfl, rfl, rfl, by decide +kernel, rfl, by decide +kernel, by decide +kernel⟩ rfl (by decide +kernel) (by decide +kernel) (fun _ => rfl) (fun _ _ _ _ _ _ us hl => match us, hl with | [_, _], _ => rfl) (fun _ _ _ _ _ _ _ _ => rfl)
def d14 : Cd := ⟨"InvalidKinds", 0, ["index"], 18⟩
theorem ox14 (X : K.In h) (G : h.Ns mainGlobals mg) (c : SaysX tab fn K) : One P w K mg base "InvalidKinds" "index" (He.ga K "InvalidKinds") := by
  obtain ⟨fd, F⟩ := c.fun_ (st := iniS d14) 27 (d := iniAt d14) (by kernel_rfl) rfl
  exact one_of (d := d14) rfl X G (tab_cd c.facts (i := 14) (by kernel_rfl)) F ⟨rfl, rfl, rfl, by decide +kernel, rfl, by decide +kernel, by decide +kernel⟩ rfl (by decide +kernel) (by decide +kernel) (fun _ => rfl) (fun _ _ _ _ _ _ us hl => match us, hl with | [_, _], _ => rfl) (fun _ _ _ _ _ _ _ _ => rfl)
def d15 : Cd := ⟨"InvalidConstructors", 0, ["index"], 19⟩
theorem ox15 (X : K.In h) (G : h.Ns mainGlobals mg) (c : SaysX tab fn K) : One P w K mg base "InvalidConstructors" "index" (He.ga K "InvalidConstructors") := by
  obtain ⟨fd, F⟩ := c.fun_ (st := iniS d15) 28 (d := iniAt d15) (by kernel_rfl) rfl
  exact one_of (d := d15) rfl X G (tab_cd c.facts (i := 15) (by kernel_rfl)) F ⟨rfl, rfl, rfl, by decide +kernel, rfl, by decide +kernel, by decide +kernel⟩ rfl (by decide +kernel) (by decide +kernel) (fun _ => rfl) (fun _ _ _ _ _ _ us hl => match us, hl with | [_, _], _ => rfl) (fun _ _ _ _ _ _ _ _ => rfl)
def d16 : Cd := ⟨"InvalidFields", 0, ["index"], 20⟩
theorem ox16 (X : K.In h) (G : h.Ns mainGlobals mg) (c : SaysX tab fn K) : One P w K mg base "InvalidFields" "index" (He.ga K "InvalidFields") := by
  obtain ⟨fd, F⟩ := c.fun_ (st := iniS d16) 29 (d := iniAt d16) (by kernel_rfl) rfl
  exact one_of (d := d16) rfl X G (tab_cd c.facts (i := 16) (by kernel_rfl)) F ⟨rfl, rfl, rfl, by decide +kernel, rfl, by decide +kernel, by decide +kernel⟩ rfl (by decide +kernel) (by decide +kernel) (fun _ => rfl) (fun _ _ _ _ _ _ us hl => match us, hl with | [_, _], _ => rfl) (fun _ _ _ _ _ _ _ _ => rfl)
def d17 : Cd := ⟨"InvalidRows", 0, ["index"], 21⟩
theorem ox17 (X : K.In h) (G : h.Ns mainGlobals mg) (c : SaysX tab fn K) : One P w K mg base "InvalidRows" "index" (He.ga K "InvalidRows") := by
  obtain ⟨fd, F⟩ := c.fun_ (st := iniS d17) 30 (d := iniAt d17) (by kernel_rfl) rfl
  exact one_of (d := d17) rfl X G (tab_cd c.facts (i := 17) (by kernel_rfl)) F ⟨rfl, rfl, rfl, by decide +kernel, rfl, by decide +kernel, by decide +kernel⟩ rfl (by decide +kernel) (by decide +kernel) (fun _ => rfl) (fun _ _ _ _ _ _ us hl => match us, hl with | [_, _], _ => rfl) (fun _ _ _ _ _ _ _ _ => rfl)
def d18 : Cd := ⟨"InvalidRules", 0, ["index"], 22⟩
theorem ox18 (X : K.In h) (G : h.Ns mainGlobals mg) (c : SaysX tab fn K) : One P w K mg base "InvalidRules" "index" (He.ga K "InvalidRules") := by
  obtain ⟨fd, F⟩ := c.fun_ (st := iniS d18) 31 (d := iniAt d18) (by kernel_rfl) rfl
  exact one_of (d := d18) rfl X G (tab_cd c.facts (i := 18) (by kernel_rfl)) F ⟨rfl, rfl, rfl, by decide +kernel, rfl, by decide +kernel, by decide +kernel⟩ rfl (by decide +kernel) (by decide +kernel) (fun _ => rfl) (fun _ _ _ _ _ _ us hl => match us, hl with | [_, _], _ => rfl) (fun _ _ _ _ _ _ _ _ => rfl)
def d19 : Cd := ⟨"InvalidSigns", 0, ["index"], 23⟩
theorem ox19 (X : K.In h) (G : h.Ns mainGlobals mg) (c : SaysX tab fn K) : One P w K mg base "InvalidSigns" "index" (He.ga K "InvalidSigns") := by
  obtain ⟨fd, F⟩ := c.fun_ (st := iniS d19) 32 (d := iniAt d19) (by kernel_rfl) rfl
  exact one_of (d := d19) rfl X G (tab_cd c.facts (i := 19) (by kernel_rfl)) F ⟨rfl, rfl, rfl, by decide +kernel, rfl, by decide +kernel, by decide +kernel⟩ rfl (by decide +kernel) (by decide +kernel) (fun _ => rfl) (fun _ _ _ _ _ _ us hl => match us, hl with | [_, _], _ => rfl) (fun _ _ _ _ _ _ _ _ => rfl)
def d20 : Cd := ⟨"InvalidGood", 0, ["index"], 24⟩
theorem ox20 (X : K.In h) (G : h.Ns mainGlobals mg) (c : SaysX tab fn K) : One P w K mg base "InvalidGood" "index" (He.ga K "InvalidGood") := by
  obtain ⟨fd, F⟩ := c.fun_ (st := iniS d20) 33 (d := iniAt d20) (by kernel_rfl) rfl
  exact one_of (d := d20) rfl X G (tab_cd c.facts (i := 20) (by kernel_rfl)) F ⟨rfl, rfl, rfl, by decide +kernel, rfl, by decide +kernel, by decide +kernel⟩ rfl (by decide +kernel) (by decide +kernel) (fun _ => rfl) (fun _ _ _ _ _ _ us hl => match us, hl with | [_, _], _ => rfl) (fun _ _ _ _ _ _ _ _ => rfl)
def d21 : Cd := ⟨"InvalidMoves", 0, ["index"], 25⟩
theorem ox21 (X : K.In h) (G : h.Ns mainGlobals mg) (c : SaysX tab fn K) : One P w K mg base "InvalidMoves" "index" (He.ga K "InvalidMoves") := by
  obtain ⟨fd, F⟩ := c.fun_ (st := iniS d21) 34 (d := iniAt d21) (by kernel_rfl) rfl
  exact one_of (d := d21) rfl X G (tab_cd c.facts (i := 21) (by kernel_rfl)) F ⟨rfl, rfl, rfl, by decide +kernel, rfl, by decide +kernel, by decide +kernel⟩ rfl (by decide +kernel) (by decide +kernel) (fun _ => rfl) (fun _ _ _ _ _ _ us hl => match us, hl with | [_, _], _ => rfl) (fun _ _ _ _ _ _ _ _ => rfl)
def d22 : Cd := ⟨"InvalidDeed", 0, ["index"], 26⟩
theorem ox22 (X : K.In h) (G : h.Ns mainGlobals mg) (c : SaysX tab fn K) : One P w K mg base "InvalidDeed" "index" (He.ga K "InvalidDeed") := by
  obtain ⟨fd, F⟩ := c.fun_ (st := iniS d22) 35 (d := iniAt d22) (by kernel_rfl) rfl
  exact one_of (d := d22) rfl X G (tab_cd c.facts (i := 22) (by kernel_rfl)) F ⟨rfl, rfl, rfl, by decide +kernel, rfl, by decide +kernel, by decide +kernel⟩ rfl (by decide +kernel) (by decide +kernel) (fun _ => rfl) (fun _ _ _ _ _ _ us hl => match us, hl with | [_, _], _ => rfl) (fun _ _ _ _ _ _ _ _ => rfl)
def d23 : Cd := ⟨"InvalidWriters", 0, ["index"], 27⟩
theorem ox23 (X : K.In h) (G : h.Ns mainGlobals mg) (c : SaysX tab fn K) : One P w K mg base "InvalidWriters" "index" (He.ga K "InvalidWriters") := by
  obtain ⟨fd, F⟩ := c.fun_ (st := iniS d23) 36 (d := iniAt d23) (by kernel_rfl) rfl
  exact one_of (d := d23) rfl X G (tab_cd c.facts (i := 23) (by kernel_rfl)) F ⟨rfl, rfl, rfl, by decide +kernel, rfl, by decide +kernel, by decide +kernel⟩ rfl (by decide +kernel) (by decide +kernel) (fun _ => rfl) (fun _ _ _ _ _ _ us hl => match us, hl with | [_, _], _ => rfl) (fun _ _ _ _ _ _ _ _ => rfl)
def d24 : Cd := ⟨"TooManyRows", 2, ["limit"], 35⟩
theorem ox24 (X : K.In h) (G : h.Ns mainGlobals mg) (c : SaysX tab fn K) : One P w K mg base "TooManyRows" "limit" (He.ga K "TooManyRows") := by
  obtain ⟨fd, F⟩ := c.fun_ (st := iniS d24) 37 (d := iniAt d24) (by kernel_rfl) rfl
  exact one_of (d := d24) rfl X G (tab_cd c.facts (i := 24) (by kernel_rfl)) F ⟨rfl, rfl, rfl, by decide +kernel, rfl, by decide +kernel, by decide +kernel⟩ rfl (by decide +kernel) (by decide +kernel) (fun _ => rfl) (fun _ _ _ _ _ _ us hl => match us, hl with | [_, _], _ => rfl) (fun _ _ _ _ _ _ _ _ => rfl)
def d25 : Cd := ⟨"TooManyJoins", 2, ["limit"], 36⟩
theorem ox25 (X : K.In h) (G : h.Ns mainGlobals mg) (c : SaysX tab fn K) : One P w K mg base "TooManyJoins" "limit" (He.ga K "TooManyJoins") := by
  obtain ⟨fd, F⟩ := c.fun_ (st := iniS d25) 38 (d := iniAt d25) (by kernel_rfl) rfl
  exact one_of (d := d25) rfl X G (tab_cd c.facts (i := 25) (by kernel_rfl)) F ⟨rfl, rfl, rfl, by decide +kernel, rfl, by decide +kernel, by decide +kernel⟩ rfl (by decide +kernel) (by decide +kernel) (fun _ => rfl) (fun _ _ _ _ _ _ us hl => match us, hl with | [_, _], _ => rfl) (fun _ _ _ _ _ _ _ _ => rfl)
def d26 : Cd := ⟨"TooManyFaces", 2, ["limit"], 37⟩
theorem ox26 (X : K.In h) (G : h.Ns mainGlobals mg) (c : SaysX tab fn K) : One P w K mg base "TooManyFaces" "limit" (He.ga K "TooManyFaces") := by
  obtain ⟨fd, F⟩ := c.fun_ (st := iniS d26) 39 (d := iniAt d26) (by kernel_rfl) rfl
  exact one_of (d := d26) rfl X G (tab_cd c.facts (i := 26) (by kernel_rfl)) F ⟨rfl, rfl, rfl, by decide +kernel, rfl, by decide +kernel, by decide +kernel⟩ rfl (by decide +kernel) (by decide +kernel) (fun _ => rfl) (fun _ _ _ _ _ _ us hl => match us, hl with | [_, _], _ => rfl) (fun _ _ _ _ _ _ _ _ => rfl)
def d27 : Cd := ⟨"TooManyDeeds", 2, ["limit"], 38⟩
theorem ox27 (X : K.In h) (G : h.Ns mainGlobals mg) (c : SaysX tab fn K) : One P w K mg base "TooManyDeeds" "limit" (He.ga K "TooManyDeeds") := by
  obtain ⟨fd, F⟩ := c.fun_ (st := iniS d27) 40 (d := iniAt d27) (by kernel_rfl) rfl
  exact one_of (d := d27) rfl X G (tab_cd c.facts (i := 27) (by kernel_rfl)) F ⟨rfl, rfl, rfl, by decide +kernel, rfl, by decide +kernel, by decide +kernel⟩ rfl (by decide +kernel) (by decide +kernel) (fun _ => rfl) (fun _ _ _ _ _ _ us hl => match us, hl with | [_, _], _ => rfl) (fun _ _ _ _ _ _ _ _ => rfl)
def d28 : Cd := ⟨"EmptyKind", 1, ["kind"], 28⟩
theorem ox28 (X : K.In h) (G : h.Ns mainGlobals mg) (c : SaysX tab fn K) : One P w K mg base "EmptyKind" "kind" (He.ga K "EmptyKind") := by
  obtain ⟨fd, F⟩ := c.fun_ (st := iniS d28) 41 (d := iniAt d28) (by kernel_rfl) rfl
  exact one_of (d := d28) rfl X G (tab_cd c.facts (i := 28) (by kernel_rfl)) F ⟨rfl, rfl, rfl, by decide +kernel, rfl, by decide +kernel, by decide +kernel⟩ rfl (by decide +kernel) (by decide +kernel) (fun _ => rfl) (fun _ _ _ _ _ _ us hl => match us, hl with | [_, _], _ => rfl) (fun _ _ _ _ _ _ _ _ => rfl)
def d29 : Cd := ⟨"MissingRule", 1, ["mode", "name"], 29⟩
theorem ox29 (X : K.In h) (G : h.Ns mainGlobals mg) (c : SaysX tab fn K) : Two P w K mg base "MissingRule" "mode" "name" (He.ga K "MissingRule") := by
  obtain ⟨fd, F⟩ := c.fun_ (st := iniS d29) 42 (d := iniAt d29) (by kernel_rfl) rfl
  exact two_of (d := d29) rfl X G (tab_cd c.facts (i := 29) (by kernel_rfl)) F ⟨rfl, rfl, rfl, by decide +kernel, rfl, by decide +kernel, by decide +kernel⟩ rfl (by decide +kernel) (by decide +kernel) (by decide +kernel) (by decide +kernel) (fun _ => rfl) (fun _ => rfl) (fun _ _ _ _ _ _ us hl => match us, hl with | [_, _, _], _ => rfl) (fun _ _ _ _ _ _ _ _ _ => rfl)
def d30 : Cd := ⟨"Unlike", 1, ["tree"], 30⟩
theorem ox30 (X : K.In h) (G : h.Ns mainGlobals mg) (c : SaysX tab fn K) : One P w K mg base "Unlike" "tree" (He.ga K "Unlike") := by
  obtain ⟨fd, F⟩ := c.fun_ (st := iniS d30) 43 (d := iniAt d30) (by kernel_rfl) rfl
  exact one_of (d := d30) rfl X G (tab_cd c.facts (i := 30) (by kernel_rfl)) F ⟨rfl, rfl, rfl, by decide +kernel, rfl, by decide +kernel, by decide +kernel⟩ rfl (by decide +kernel) (by decide +kernel) (fun _ => rfl) (fun _ _ _ _ _ _ us hl => match us, hl with | [_, _], _ => rfl) (fun _ _ _ _ _ _ _ _ => rfl)
def d31 : Cd := ⟨"Refused", 1, ["deed", "tree"], 31⟩
theorem ox31 (X : K.In h) (G : h.Ns mainGlobals mg) (c : SaysX tab fn K) : Two P w K mg base "Refused" "deed" "tree" (He.ga K "Refused") := by
  obtain ⟨fd, F⟩ := c.fun_ (st := iniS d31) 44 (d := iniAt d31) (by kernel_rfl) rfl
  exact two_of (d := d31) rfl X G (tab_cd c.facts (i := 31) (by kernel_rfl)) F ⟨rfl, rfl, rfl, by decide +kernel, rfl, by decide +kernel, by decide +kernel⟩ rfl (by decide +kernel) (by decide +kernel) (by decide +kernel) (by decide +kernel) (fun _ => rfl) (fun _ => rfl) (fun _ _ _ _ _ _ us hl => match us, hl with | [_, _, _], _ => rfl) (fun _ _ _ _ _ _ _ _ _ => rfl)
def d35 : Cd := ⟨"TooLong", 2, ["found"], 39⟩
theorem ox35 (X : K.In h) (G : h.Ns mainGlobals mg) (c : SaysX tab fn K) : One P w K mg base "TooLong" "found" (He.ga K "TooLong") := by
  obtain ⟨fd, F⟩ := c.fun_ (st := iniS d35) 45 (d := iniAt d35) (by kernel_rfl) rfl
  exact one_of (d := d35) rfl X G (tab_cd c.facts (i := 35) (by kernel_rfl)) F ⟨rfl, rfl, rfl, by decide +kernel, rfl, by decide +kernel, by decide +kernel⟩ rfl (by decide +kernel) (by decide +kernel) (fun _ => rfl) (fun _ _ _ _ _ _ us hl => match us, hl with | [_, _], _ => rfl) (fun _ _ _ _ _ _ _ _ => rfl)
end
end Ky
namespace Ky
open PySem PySem.Spec PyProof.Rows L2 Gd
section
variable {P : Program} {w : World} {K : PySem.W.Frag} {mg : Str → Option Value} {base : Heap} {h : Heap}
theorem glo_x (X : K.In h) (G : h.Ns mainGlobals mg) (c : SaysX tab fn K) {x : Str} (e : x ∈ glos) : mg x = some (.ref (He.ga K x)) := He.glo_ok X G (List.all_eq_true.mp (He.ba c.facts).1 x e)
theorem free_x (X : K.In h) (G : h.Ns mainGlobals mg) (c : SaysX tab fn K) {x : Str} (e : x ∈ frees) : mg x = none := He.free_ok X G (List.all_eq_true.mp (He.ba (He.ba c.facts).2).1 x e)
theorem int_x (X : K.In h) (G : h.Ns mainGlobals mg) (c : SaysX tab fn K) {x : Str} {i : Int} (e : (x, i) ∈ lms) : ∃ t, mg x = some (.int i t) := He.int_ok X G (List.all_eq_true.mp (He.ba (He.ba (He.ba c.facts).2).2).1 (x, i) e)
theorem cls_x (c : SaysX tab fn K) {i : Nat} (hi : i < 36) : clsB K i = true ∧ kinB K i = true := He.ba (List.all_eq_true.mp (He.ba (He.ba (He.ba (He.ba c.facts).2).2).2).2 i (List.mem_range.mpr hi))
theorem no_x (X : K.In h) (G : h.Ns mainGlobals mg) (c : SaysX tab fn K) {i pl : Nat} {nm : Str} (e : cs[i]? = some ⟨nm, 1, [], pl⟩) : mg nm = some (.ref (He.ga K nm)) ∧ PySem.W.keepIn K (.ref (He.ga K nm)) = true ∧ PySem.W.excIn K (He.ga K nm) [.type "LookupError", .type "Exception", .type "BaseException", .type "object"] "LookupError.__new__" = true ∧ XC K (He.ga K nm) := by
  have q := tab_cd c.facts e
  have T : XC K (He.ga K nm) := cd_xc q
  exact ⟨He.glo_ok X G (cd_glo q), T.kp, cd_n q rfl, T⟩
theorem tx_of (X : K.In h) (G : h.Ns mainGlobals mg) (c : SaysX tab fn K) : TX P w K mg base (cOf K) (He.ga K "TreeError") (He.ga K "StateError") (He.ga K "LimitError") where
  isi := free_x X G c (by decide +kernel)
  gT := glo_x X G c (by decide +kernel)
  gS := glo_x X G c (by decide +kernel)
  gL := glo_x X G c (by decide +kernel)
  bV := free_x X G c (by decide +kernel)
  bL := free_x X G c (by decide +kernel)
  bA := free_x X G c (by decide +kernel)
  o0 := ox0 X G c
  o1 := ox1 X G c
  o2 := ox2 X G c
  o3 := ox3 X G c
  o4 := ox4 X G c
  o5 := ox5 X G c
  o6 := ox6 X G c
  o7 := ox7 X G c
  o8 := ox8 X G c
  o9 := ox9 X G c
  o10 := ox10 X G c
  o11 := ox11 X G c
  o12 := ox12 X G c
  o13 := ox13 X G c
  o14 := ox14 X G c
  o15 := ox15 X G c
  o16 := ox16 X G c
  o17 := ox17 X G c
  o18 := ox18 X G c
  o19 := ox19 X G c
  o20 := ox20 X G c
  o21 := ox21 X G c
  o22 := ox22 X G c
  o23 := ox23 X G c
  o24 := ox24 X G c
  o25 := ox25 X G c
  o26 := ox26 X G c
  o27 := ox27 X G c
  o28 := ox28 X G c
  o29 := ox29 X G c
  o30 := ox30 X G c
  o31 := ox31 X G c
  o32 := no_x X G c (i := 32) (pl := 32) (by kernel_rfl)
  o33 := no_x X G c (i := 33) (pl := 33) (by kernel_rfl)
  o34 := no_x X G c (i := 34) (pl := 34) (by kernel_rfl)
  o35 := ox35 X G c
  cls := fun i hi => by
    obtain ⟨q1, q2⟩ := He.ba (cls_x c hi).1
    exact ⟨List.all_eq_true.mp q1, of_decide_eq_true q2⟩
  kin := fun i hi => of_decide_eq_true (cls_x c hi).2
theorem tl_of (X : K.In h) (G : h.Ns mainGlobals mg) (c : SaysX tab fn K) : TLim mg where
  l0 := int_x X G c (by decide +kernel)
  l1 := int_x X G c (by decide +kernel)
  l2 := int_x X G c (by decide +kernel)
  l3 := int_x X G c (by decide +kernel)
  l4 := int_x X G c (by decide +kernel)
  l5 := int_x X G c (by decide +kernel)
  l6 := int_x X G c (by decide +kernel)
  l7 := int_x X G c (by decide +kernel)
  l8 := int_x X G c (by decide +kernel)
  l9 := int_x X G c (by decide +kernel)
  l10 := int_x X G c (by decide +kernel)
  l11 := int_x X G c (by decide +kernel)
  l12 := int_x X G c (by decide +kernel)
  l13 := int_x X G c (by decide +kernel)
  l14 := int_x X G c (by decide +kernel)
  l15 := int_x X G c (by decide +kernel)
  len := free_x X G c (by decide +kernel)
  range := free_x X G c (by decide +kernel)
  max := free_x X G c (by decide +kernel)
  min := free_x X G c (by decide +kernel)
  int := free_x X G c (by decide +kernel)
  abs := free_x X G c (by decide +kernel)
  str := free_x X G c (by decide +kernel)
  repr := free_x X G c (by decide +kernel)
theorem law_binds {f : Addr} {fd : FuncData} (F : Fun K "law" "law" (topS 69) f fd) (s : Shared) (v : Value) : BindsTo s fd ⟨[v], []⟩ [("_law_cells", v)] := by
  obtain ⟨oc, od, kV, doc, pm, an, cdv, ct, osl, rfl, lk, hcd⟩ := F.ex
  exact .of_eq rfl
theorem facts {f : Addr} (X : K.In h) (G : h.Ns mainGlobals mg) (hfa : mg ("law" : Str) = some (.ref f)) (c : SaysX tab fn K) :
    ∃ fd : FuncData, (∀ (s : Shared) (v : Value), BindsTo s fd ⟨[v], []⟩ [("_law_cells", v)]) ∧ ∀ base : Heap, K.In base → base.Ns mainGlobals mg → Pr P w K mg base CX0 5 f fd ["_law_cells"] (Ky.spLaw K) := by
  have e := hfa.symm.trans (glo_x X G c (x := "law") (by decide +kernel))
  cases e
  obtain ⟨fd0, F0⟩ := c.fun_ (st := Kx.sNum) 0 (d := fnAt "_law_number" 57) (by kernel_rfl) rfl
  obtain ⟨fd1, F1⟩ := c.fun_ (st := Kx.sDeal) 1 (d := fnAt "_law_deal" 58) (by kernel_rfl) rfl
  obtain ⟨fd2, F2⟩ := c.fun_ (st := Kx.sPick) 2 (d := fnAt "_law_pick" 59) (by kernel_rfl) rfl
  obtain ⟨fd3, F3⟩ := c.fun_ (st := topS 60) 3 (d := fnAt "_law_values" 60) (by kernel_rfl) rfl
  obtain ⟨fd4, F4⟩ := c.fun_ (st := topS 61) 4 (d := fnAt "_law_named_values" 61) (by kernel_rfl) rfl
  obtain ⟨fd5, F5⟩ := c.fun_ (st := topS 62) 5 (d := fnAt "_law_indexes" 62) (by kernel_rfl) rfl
  obtain ⟨fd6, F6⟩ := c.fun_ (st := topS 63) 6 (d := fnAt "_law_named_indexes" 63) (by kernel_rfl) rfl
  obtain ⟨fd7, F7⟩ := c.fun_ (st := topS 64) 7 (d := fnAt "_law_tops" 64) (by kernel_rfl) rfl
  obtain ⟨fd8, F8⟩ := c.fun_ (st := topS 65) 8 (d := fnAt "_law_classes" 65) (by kernel_rfl) rfl
  obtain ⟨fd9, F9⟩ := c.fun_ (st := topS 66) 9 (d := fnAt "_law_kin" 66) (by kernel_rfl) rfl
  obtain ⟨fd10, F10⟩ := c.fun_ (st := topS 67) 10 (d := fnAt "_law_other_right" 67) (by kernel_rfl) rfl
  obtain ⟨fd11, F11⟩ := c.fun_ (st := topS 68) 11 (d := fnAt "_law_right" 68) (by kernel_rfl) rfl
  obtain ⟨fd12, F12⟩ := c.fun_ (st := topS 69) 12 (d := fnAt "law" 69) (by kernel_rfl) rfl
  have b0 : Binds K fd0 ["_law_cells", "_law_k"] [] := F0.binds fun _ _ _ _ _ _ us hl => match us, hl with | [_, _], _ => rfl
  have b1 : Binds K fd1 ["_law_number_here"] [] := F1.binds fun _ _ _ _ _ _ us hl => match us, hl with | [_], _ => rfl
  have b2 : Binds K fd2 ["_law_deal_here", "_law_many"] [] := F2.binds fun _ _ _ _ _ _ us hl => match us, hl with | [_, _], _ => rfl
  have b3 : Binds K fd3 ["_law_thing"] [] := F3.binds fun _ _ _ _ _ _ us hl => match us, hl with | [_], _ => rfl
  have b4 : Binds K fd4 ["_law_thing"] [] := F4.binds fun _ _ _ _ _ _ us hl => match us, hl with | [_], _ => rfl
  have b5 : Binds K fd5 ["_law_thing"] [] := F5.binds fun _ _ _ _ _ _ us hl => match us, hl with | [_], _ => rfl
  have b6 : Binds K fd6 ["_law_thing"] [] := F6.binds fun _ _ _ _ _ _ us hl => match us, hl with | [_], _ => rfl
  have b7 : Binds K fd7 ["_law_thing"] [] := F7.binds fun _ _ _ _ _ _ us hl => match us, hl with | [_], _ => rfl
  have b8 : Binds K fd8 ["_law_e"] [] := F8.binds fun _ _ _ _ _ _ us hl => match us, hl with | [_], _ => rfl
  have b9 : Binds K fd9 ["_law_e"] [] := F9.binds fun _ _ _ _ _ _ us hl => match us, hl with | [_], _ => rfl
  have b10 : Binds K fd10 ["_law_one", "_law_two"] [] := F10.binds fun _ _ _ _ _ _ us hl => match us, hl with | [_, _], _ => rfl
  have b11 : Binds K fd11 ["_law_one", "_law_two"] [] := F11.binds fun _ _ _ _ _ _ us hl => match us, hl with | [_, _], _ => rfl
  have b12 : Binds K fd12 ["_law_cells"] [] := F12.binds fun _ _ _ _ _ _ us hl => match us, hl with | [_], _ => rfl
  have g0 := glo_x X G c (x := "_law_number") (by decide +kernel)
  have g1 := glo_x X G c (x := "_law_deal") (by decide +kernel)
  have g2 := glo_x X G c (x := "_law_pick") (by decide +kernel)
  have g3 := glo_x X G c (x := "_law_values") (by decide +kernel)
  have g4 := glo_x X G c (x := "_law_named_values") (by decide +kernel)
  have g5 := glo_x X G c (x := "_law_indexes") (by decide +kernel)
  have g6 := glo_x X G c (x := "_law_named_indexes") (by decide +kernel)
  have g7 := glo_x X G c (x := "_law_tops") (by decide +kernel)
  have g8 := glo_x X G c (x := "_law_classes") (by decide +kernel)
  have g9 := glo_x X G c (x := "_law_kin") (by decide +kernel)
  have g10 := glo_x X G c (x := "_law_other_right") (by decide +kernel)
  have g11 := glo_x X G c (x := "_law_right") (by decide +kernel)
  refine ⟨fd12, fun s v => law_binds F12 s v, fun base _ _ => ?_⟩
  have L : TLim mg := tl_of X G c
  have T : TX P w K mg base (cOf K) (He.ga K "TreeError") (He.ga K "StateError") (He.ga K "LimitError") := tx_of X G c
  have G8 : FnOk P w K mg base CX0 1 _ fd8 ["_law_e"] (spCls K (cOf K)) := ok_cls F8 T
  have G9 : FnOk P w K mg base CX0 1 _ fd9 ["_law_e"] (spKin K (He.ga K "TreeError") (He.ga K "StateError") (He.ga K "LimitError")) := ok_kin F9 T
  have R : TR P w K mg base (cOf K) (He.ga K "TreeError") (He.ga K "StateError") (He.ga K "LimitError") := ⟨T, L.repr, free_x X G c (by decide +kernel), ⟨_, _, g9, F9.kp, b9, G9⟩, ⟨_, _, g8, F8.kp, b8, G8⟩⟩
  have G10 : Pr P w K mg base CX0 3 _ fd10 ["_law_one", "_law_two"] (spTwo K) := ok_other F10 R
  have G11 : Pr P w K mg base CX0 4 _ fd11 ["_law_one", "_law_two"] (spTwo K) := ok_right F11 R (ok_vals F3 T) F3.kp b3 g3 (ok_nvals F4 T) F4.kp b4 g4 (ok_idx F5 T) F5.kp b5 g5 (ok_nidx F6 T) F6.kp b6 g6 (ok_tops F7 T) F7.kp b7 g7 G10 F10.kp b10 g10
  exact Ky.ok_law F12 L (Kx.ok_num F0 L.len L.int) F0.kp b0 g0 (Kx.ok_deal F1 L.abs L.int) F1.kp b1 g1 (Kx.ok_pick F2 L.int) F2.kp b2 g2 G11 F11.kp b11 g11
end
end Ky
open PySem PySem.W PySem.Calls PyProof.Rows
set_option maxHeartbeats 0 in
theorem PySem.Challenge.cw_fivetrees_k22_errors_and_limits_holds : PySem.Challenge.rw_fivetrees_k22_errors_and_limits.Holds := by
  w_on; o_law
  refine HandSHeadRun.head_any (r := OpenLaw.row PySem.Challenge.rw_fivetrees_k22_errors_and_limits) (q := view (OpenLaw.row PySem.Challenge.rw_fivetrees_k22_errors_and_limits).prog [69]) (H := Ky.hk) (ob := Ky.ob) (M := 12000) (loose := Ky.loose)
    (d := HandSHeadRun.topDef (OpenLaw.row PySem.Challenge.rw_fivetrees_k22_errors_and_limits).prog 69) (kwd := []) Ky.ob_eq (by kernel_rfl) (fun s => by kernel_rfl) Ky.run (by kernel_rfl) (by kernel_rfl) (by kernel_rfl) (by rfl)
    (by first | assumption | decide +kernel) (by decide +kernel) ⟨rfl, rfl, rfl, rfl, rfl, by decide +kernel⟩ ?hw ?hc
  case hw => w_witness2
  case hc =>
    refine Gd.walk_goE (l := PySem.Challenge.rw_fivetrees_k22_errors_and_limits) (n := 63) (k := 5) (x := "_law_cells") rfl (by decide) (by kernel_rfl) ⟨rfl, by decide, by decide⟩ ?F
    intro w mg fa h Y G hmg0
    obtain ⟨K, KX, c⟩ := Y
    have hmg : mg ("law" : PySem.Str) = some (.ref fa) := by
      have e : (HandSHeadRun.topDef (OpenLaw.row PySem.Challenge.rw_fivetrees_k22_errors_and_limits).prog 69).name = ("law" : PySem.Str) := by kernel_rfl
      rw [← e]
      exact hmg0
    obtain ⟨fd, hb, hF⟩ := Ky.facts (P := (PySem.Challenge.rw_fivetrees_k22_errors_and_limits).prog) (w := w) KX G hmg c
    exact ⟨K, fd, Ky.spLaw K, KX, hb, fun H a ns hl hS => ⟨a, ns, rfl, hS, hl, fun _ => rfl⟩, hF⟩
