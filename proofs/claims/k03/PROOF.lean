import PyProof.Rows.All
import Wide.All
import OpenK.AllK
import Wide.FinOn
import HandS.ForMost
import HandS.IsInst
import HandS.Head0
import HandS.Head1
import HandS.Head2
import HandS.HeadHook1
import HandS.Property
import HandS.HeadHook4
import HandS.ExcInit
import KE.KExcInit
import KE.KExcIs
import HandS.ExcValue
import KE.GoesEnum
import HandS.Iter
import HandS.OwnEq
import HandS.Conv
import HandS.Strs
import HandS.MakeKw
import HandS.DictComp
import OpenK.KOps
import OpenK.KMeth
import HandS.FStr
import HandS.TryMany
import HandS.HotCalls
import PyProof.CallFns
import HandS.Lambda
import HandS.WordsExc
import PyProof.StrLawsRepr
import HandS.TupAny
import HandS.EndTab
import PyProof.InstNe
import PyProof.EqKinds
import PyProof.CallStr
import KE.KRevSl
import HandS.Style
import HandS.Deep
import HandS.MakeKwOnly
import HandS.HeadEnd
import PySem.Challenge.RW_fivetrees_k03_schemas_refused
set_option Elab.async false
set_option linter.all false
set_option maxRecDepth 100000
set_option maxHeartbeats 4000000
/-! Promises of defs that are called while no repr is under way; repr of lists and tuples; a law's end over them. -/
namespace Gd
open PySem PySem.Spec PyProof.Rows L2

/-- as FnOk, for calls at which no repr is under way -/
structure Pr (P : Program) (w : World) (K : PySem.W.Frag) (mg : Str → Option Value) (base : Heap) (CX : CXT) (k : Nat) (f : Addr) (fd : FuncData) (ps : List Str) (sp : Sp) : Prop where
  size : ∀ us H Q E, sp us H Q E → us.length = ps.length
  go : ∀ (A : Around) (ou : List Env) (s : Shared) (H : Hp) (gs : Args) (us : List Value) (vs : List V) (Q : VK) (E : XK), A.guards = some [] → Room k A →
    Env0 P w K mg base A ou s H → BindsTo s fd gs (ps.zip us) → Vals vs us → sp vs H Q E → codeAny (model P w) A (.call (.ref f) gs) (CR CX ou P w H s Q E) s
theorem Pr.of {P : Program} {w : World} {K : PySem.W.Frag} {mg : Str → Option Value} {base : Heap} {CX : CXT} {k : Nat} {f : Addr} {fd : FuncData} {ps : List Str} {sp : Sp} (F : FnOk P w K mg base CX k f fd ps sp) : Pr P w K mg base CX k f fd ps sp :=
  ⟨F.len, fun A ou s H gs us vs Q E _ => F.run A ou s H gs us vs Q E⟩

theorem pr_of {CX : CXT} {P : Program} {w : World} {K : PySem.W.Frag} {mg : Str → Option Value} {base : Heap} {k : Nat} {f : Addr} {nm qn : Str} {pa : Arguments} {bd : List Stmt} {sc : Scope} {dV kV dc pm cv ct oc : Value} {an od : Option Addr}
    {osl : Array (Option Value)} {N ps : List Str} {sp : Sp} (lk : K.lookup f = some ⟨oc, od, .func (PySem.W.fnOf nm qn pa bd sc dV kV dc pm an cv ct), osl⟩) (hc : PySem.W.codeIn K cv qn = true) (S : FnScope N ps sc)
    (hl : ∀ us H Q E, sp us H Q E → us.length = ps.length)
    (hb : ∀ (A : Around) (ou : List Env) (s : Shared) (H : Hp) (vs : List V) (Q : VK) (E : XK), A.guards = some [] → Room k (A.deeper (envOfC qn sc s.heap.objs.size f cv)) → sp vs H Q E →
      ∃ t, PSs (cxOf CX P w K mg base N qn sc f cv A ou s H E) bd t ∧ t { nx := fun _ H' => Q .non H', rt := Q } (start N vs) H) :
    Pr P w K mg base CX (k + 1) f (PySem.W.fnOf nm qn pa bd sc dV kV dc pm an cv ct) ps sp := by
  constructor
  · exact hl
  intro A ou s H gs us vs Q E hG hR e0 hB hV hS
  have n1 := hl vs H Q E hS
  have inK : K.In s.heap := e0.mod.kin.keeps (fun b o e => (e0.bs b o e).left)
  have noL : s.heap.NoLimit := e0.mod.nolimit.keeps (fun b o e => (e0.bs b o e).left)
  have kinds : ∀ y ∈ ps.zip us, sc.names.lookup y.1 = some .local ∨ (sc.names.lookup y.1 = some .cell ∧ ((cellsFrom (s.heap.objs.size + 1) sc.names []).lookup y.1).isSome = true) := by
    rintro ⟨n, v⟩ hy
    cases S.par n (List.of_mem_zip hy).1 with
    | inl q => exact .inl q
    | inr q => exact .inr ⟨q, PySem.W.cellsFrom_some _ _ _ (.inl q)⟩
  refine codeAny_call_function hR.depth (inK _ _ lk) rfl S.co S.gen rfl (PySem.W.codeRec_of inK hc) (hB _ _ _ _ ?_)
  refine wpAny_newFunctionEnv_cells S.kind kinds fun ev he s2 y => ?_
  subst he
  refine ⟨noL.keeps y.toInCall.keep, codeAny_func ?_⟩
  obtain ⟨t, ht, hq⟩ := hb A ou s H vs Q E hG (hR.deeper _) hS
  have J0 : Inv (cxOf CX P w K mg base N qn sc f cv A ou s H E) [] (start N vs) H s2 := inv_start S hR.hd e0 n1 hV y
  refine wpAny_mono (ht.run [] s2 (start N vs) H _ J0 hq) (fun fl s3 h3 => ?_) fun _ _ z => z
  have fin : ∀ {τ : L2.St} {H' : Hp} {v : V} {u : Value}, Inv (cxOf CX P w K mg base N qn sc f cv A ou s H E) [] τ H' s3 → RelV v u → Q v H' → CE ou P w H s Q u s3 := by
    intro τ H' v u J rv q
    exact ⟨v, H', J.os, J.bare, J.base, J.hok, rv, q⟩
  match fl, h3 with
  | .ret u, ⟨v, τ, H', J, rv, q⟩ => exact fin J rv q
  | .next, ⟨τ, H', J, q⟩ => exact fin (v := V.non) (u := Value.none) J rfl q
  | .brk, ⟨_, _, _, q⟩ => exact False.elim q
  | .cont, ⟨_, _, _, q⟩ => exact False.elim q

section
variable {P : Program} {w : World} {K : PySem.W.Frag} {mg : Str → Option Value} {base : Heap}
/-- a def of the text, by its body -/
theorem okG {x qn : Str} {st : Stmt} {f : Addr} {fd : FuncData} {N ps : List Str} {k : Nat} {sp : Sp} (F : Fun K x qn st f fd) (S : FnScope N ps (defScope st)) (hl : ∀ us H Q E, sp us H Q E → us.length = ps.length)
    (hb : ∀ (cv : Value) (A : Around) (ou : List Env) (s : Shared) (H : Hp) (vs : List V) (Q : VK) (E : XK), A.guards = some [] → Room k (A.deeper (envOfC qn (defScope st) s.heap.objs.size f cv)) → sp vs H Q E →
      ∃ t, PSs (cxOf CX0 P w K mg base N qn (defScope st) f cv A ou s H E).nox (defBody st) t ∧ t { nx := fun _ H' => Q .non H', rt := Q } (start N vs) H) : Pr P w K mg base CX0 (k + 1) f fd ps sp := by
  obtain ⟨oc, od, kV, dc, pm, an, cv, ct, osl, rfl, lk, hc⟩ := F.ex
  refine pr_of lk hc S hl fun A ou s H vs Q E hG hR hS => ?_
  obtain ⟨t, h, q⟩ := hb cv A ou s H vs Q E hG hR hS
  exact ⟨t, h.nox, q⟩
end

section
variable {X : Cx} {CX : CXT} {k : Nat} {f C : Addr} {fd : FuncData} {ps ks : List Str} {sp : Sp} {dvs : List V} {ds : List Value} {E : XK} {x m : Str} {p pos apos : Pos} {e o : Expr} {es : List Expr} {kws : List Keyword} {ta : TE} {t tk : TA}
  {g : List Value → List Value → List Value} {gV : List V → List V → List V}
theorem run_pr {pins : List (Addr × Obj)} {σ : L2.St} {H : Hp} {s : Shared} {Q : VK} {us : List Value} {kw : List (Str × Value)} {ws : List Value} {zs : List V} (F : Pr X.prog X.w X.K X.mg X.base CX k f fd ps sp) (hG : X.A.guards = some []) (hR : Room k X.A) (hx : Passes CX X E)
    (I : Inv X pins σ H s) (hB : BindsTo s fd ⟨us, kw⟩ (ps.zip ws)) (hV : Vals zs ws) (h : sp zs H Q E) : wpAny (model X.prog X.w) X.A (call (.ref f) us kw) (EP X pins σ Q) X.xe s := by
  refine wpAny_call (codeAny_mono (F.go X.A X.stack s H ⟨us, kw⟩ ws zs Q E hG hR I.env0 hB hV h) fun r s' hq => ?_)
  match r, hq with
  | .error e, hq => exact hx pins σ H s e s' I hq
  | .ok (.ret u), hq => exact I.after hq
  | .ok .next, hq => exact False.elim hq
  | .ok .brk, hq => exact False.elim hq
  | .ok .cont, hq => exact False.elim hq
/-- f(e, ..) -/
theorem pe_callG (F : Pr X.prog X.w X.K X.mg X.base CX k f fd ps sp) (hG : X.A.guards = some []) (hR : Room k X.A) (hg : Gl X x) (hm : X.mg x = some (.ref f)) (hk : PySem.W.keepIn X.K (.ref f) = true) (hb : Binds X.K fd ps ds) (hd : Vals dvs ds) (hx : Passes CX X E)
    (ha : PA X (e :: es) t) (hdb : (x == ("__debug__" : Str)) = false := by decide) (he : starEach (e :: es) X.env = (false, eval e X.env) :: starEach es X.env := by rfl) (hpl : (backTo pos (starEach es X.env)).any (·.1) = false := by rfl) :
    PE X (.Call (.Name x p) (e :: es) [] pos) (tCall sp dvs E t) := by
  constructor
  intro pins s σ H Q I h
  refine wpAny_Call_Name_kw (ld_glob I hg hm ?_ hdb)
  refine PySem.W.callWith_K (h₀ := X.base) I.ok.mod.kin hk (thn (ha.run pos pins s σ H _ I h) fun us s2 z2 => ?_) he hpl
  obtain ⟨vs, H2, I2, r2, q2⟩ := z2
  refine ⟨I2.kIn, run_pr F hG hR hx I2 (hb s2 us I2.kIn ?_) (r2.append hd) q2⟩
  rw [← (r2.append hd).length]
  exact F.size _ _ _ _ q2
/-- f(k = v, ..): keywords alone -/
theorem pe_callGK0 (F : Pr X.prog X.w X.K X.mg X.base CX k f fd ps sp) (hG : X.A.guards = some []) (hR : Room k X.A) (hg : Gl X x) (hm : X.mg x = some (.ref f)) (hk : PySem.W.keepIn X.K (.ref f) = true) (hb : KBinds X.K fd ps ks g gV) (hx : Passes CX X E)
    (hkw : PK X kws tk) (hall : (backToKw pos (keywordEach kws X.env)).all (·.1.isSome) = true := by rfl) (hks : (backToKw pos (keywordEach kws X.env)).filterMap (·.1) = ks := by rfl)
    (hdb : (x == ("__debug__" : Str)) = false := by decide)
    (hpl : ((backTo pos (starEach [] X.env)).any (·.1) || (backToKw pos (keywordEach kws X.env)).any (·.1.isNone)) = false := by rfl) :
    PE X (.Call (.Name x p) [] kws pos) (tCallK sp gV E tNil tk) := by
  constructor
  intro pins s σ H Q I h
  refine wpAny_Call_Name_kw (ld_glob I hg hm ?_ hdb)
  refine PySem.W.callWith_KW0 (first := []) (h₀ := X.base) I.ok.mod.kin hk hall (thn (hkw.run pos pins s σ H _ I h) fun us s2 z2 => ?_) hpl
  obtain ⟨zs, H2, I2, r2, q2⟩ := z2
  refine ⟨I2.kIn, ?_⟩
  rw [hks]
  have rr : Vals (gV [] zs) (g [] us) := hb.rel .nil r2
  refine run_pr F hG hR hx I2 (hb.to s2 [] us I2.kIn ?_) rr q2
  rw [← rr.length]
  exact F.size _ _ _ _ q2
end

/-! ### repr of a list or a tuple of plain things -/
def rShow (K : PySem.W.Frag) : List V → Hp → VK → Prop := fun xs H Q => ∃ (a : Addr) (d : PyData), xs = [.ref a] ∧ Dp K H (.ref a) d ∧ d.showable = true ∧ d.hasDict = false ∧ d.depth ≤ 60 ∧ d.shown.length ≤ sizeLine ∧ Q (.str d.shown) H
theorem call_show {X : Cx} (hG : X.A.guards = some []) (hu : X.A.units + 64 < cLine) : CallR X (.builtin "repr") (rShow X.K) := by
  intro pins s σ H xs us Q I r h
  obtain ⟨a, d, rfl, hd, hs, hn, hz, hl, q⟩ := h
  have e1 := Vals.ref1 r
  subst e1
  obtain ⟨as, r1⟩ := Dp.reads I d (.ref a) (.ref a) hd rfl
  exact repr_of_reads' r1 hs (PyData.noDict_hsm hn) hG (by omega) (fun _ _ e => e) (fun h' u tk hk => ⟨.str d.shown, H, I.kept hk, ⟨_, rfl⟩, q⟩) hl

/-! ### a law's end -/
theorem law_go {P : Program} {w : World} {K : PySem.W.Frag} {mg mb : Str → Option Value} {CX : CXT} {k : Nat} {fa a : Addr} {fd : FuncData} {x : Str} {sp : Sp} {s1 : Shared} {vs : List Value} {ns : List Int}
    (KX : K.In s1.heap) (hm : s1.heap.Ns mainGlobals mg) (hb : s1.heap.Ns builtinsNs mb) (hbb : ∀ x : Str, x ≠ "__name__" → mb x = bootBuiltins x) (hlim : s1.heap.NoLimit) (hg : s1.gens = #[])
    (ha : s1.heap.get? a = some { cls := .type "list", data := .seq vs.toArray }) (hi : IntsAre vs ns) (hl : ns.length ≤ sizeLine) (hR : Room k callerA)
    (F : ∀ base : Heap, K.In base → base.Ns mainGlobals mg → Pr P w K mg base CX k fa fd [x] sp) (hbind : ∀ (s : Shared) (u : Value), BindsTo s fd ⟨[u], []⟩ [(x, u)])
    (hsp : ∀ H : Hp, Only H → SqL K H a (ns.map V.int) → sp [.ref a] H (fun v _ => v = .bl true) fun _ _ _ => False)
    (hCX : ∀ H e s', CX [] H s1 (fun _ _ _ => False) e s' → False) :
    codeAny (model P w) callerA (.call (.ref fa) ⟨[.ref a], []⟩) (fun r s' => r = .ok (.ret (.bool true)) ∧ OldK s1.heap s'.heap ∧ s'.os = s1.os ∧ AllBare s'.gens) s1 := by
  have rv := vals_ints hi
  have main : ∀ H : Hp, Only H → SqL K H a (ns.map V.int) → HOk P w H s1.heap → (∀ b, H b ≠ none → b = a) → (H a ≠ none → K.lookup a = none) →
      codeAny (model P w) callerA (.call (.ref fa) ⟨[.ref a], []⟩) (fun r s' => r = .ok (.ret (.bool true)) ∧ OldK s1.heap s'.heap ∧ s'.os = s1.os ∧ AllBare s'.gens) s1 := by
    intro H hO hS hok oa ok
    have only : ∀ {b : Addr}, H b ≠ none → b = a := fun {b} h => oa b h
    have none_of : ∀ {b : Addr}, b ≠ a → H b = none := by
      intro b hb
      rcases hO b with z | ⟨ob, xs, z⟩
      · exact z
      · exact absurd (only (by rw [z]; simp)) hb
    have stay : ∀ {b : Addr} {o : Obj}, s1.heap.get? b = some o → H b = none → (hidT s1.heap H).get? b = some o := fun e n => hidT_get e n
    have ns_of : ∀ {b : Addr} {m : Str → Option Value}, s1.heap.Ns b m → (hidT s1.heap H).Ns b m := by
      rintro b m ⟨o, es, ep, e, d, r⟩
      refine ⟨o, es, ep, stay e (none_of ?_), d, r⟩
      rintro rfl
      rw [ha] at e
      cases e
      exact absurd (show Data.seq vs.toArray 0 = Data.dict es ep from d) (by intro z; cases z)
    have inK : K.In (hidT s1.heap H) := by
      intro b o e
      refine stay (KX b o e) ?_
      rcases hO b with z | ⟨ob, xs, z⟩
      · exact z
      · have nz : H b ≠ none := by rw [z]; simp
        have e' := only nz
        subst e'
        rw [ok nz] at e
        cases e
    obtain ⟨mc, l1, l2⟩ := hlim
    have hM : Mod K mg (hidT s1.heap H) := ⟨inK, ns_of hm, ⟨mb, ns_of hb, hbb⟩, ⟨mc, ns_of l1, l2⟩⟩
    have e0 : Env0 P w K mg (hidT s1.heap H) callerA [] s1 H :=
      ⟨rfl, hM, fun b o e => of_hidT e, Nat.le_of_eq (hidT_size _ _), trivial, fun b z => by simp [frs] at z, hok, .of_eq hg⟩
    refine codeAny_mono ((F _ inK (ns_of hm)).go callerA [] s1 H ⟨[.ref a], []⟩ [.ref a] [.ref a] _ _ rfl hR e0 (hbind s1 (.ref a)) (.cons rfl .nil) (hsp H hO hS)) fun r s2 h => ?_
    match r, h with
    | .error e, h => exact (hCX H e s2 h).elim
    | .ok .next, h => exact False.elim h
    | .ok .brk, h => exact False.elim h
    | .ok .cont, h => exact False.elim h
    | .ok (.ret u), ⟨v, H', os, bare, un, hok', r', q⟩ =>
      have q' : v = .bl true := q
      subst q'
      have r2 : u = Value.bool true := r'
      subst r2
      refine ⟨rfl, OldK.of_keep fun b o e => ?_, os, bare⟩
      rcases hO b with z | ⟨ob, xs, z⟩
      · exact un.keep b o e z (by simp [frs]) (by simp)
      · have z2 := un.frzs b ob _ z
        have g1 := (hok b _ z).1
        have g2 := (hok' b _ z2).1
        rw [e] at g1
        cases g1
        exact g2
  cases hk : K.lookup a with
  | some o =>
    have e := KX a o hk
    rw [ha] at e
    cases e
    exact main (fun _ => none) (fun _ => .inl rfl) (.inr ⟨_, vs.toArray, _, hk, rfl, rfl, rfl, by rw [List.size_toArray, hi.length]; exact hl, by simpa using rv⟩) (fun b u z => by cases (show (none : Option HO) = some u from z)) (fun b z => absurd rfl z) fun z => absurd rfl z
  | none =>
    have at_ : (fun b => if b = a then some (HO.frz { cls := .type "list", data := .seq vs.toArray } (.lst (ns.map V.int))) else none) a = some (HO.frz { cls := .type "list", data := .seq vs.toArray } (.lst (ns.map V.int))) := if_pos rfl
    refine main (fun b => if b = a then some (HO.frz { cls := .type "list", data := .seq vs.toArray } (.lst (ns.map V.int))) else none) (fun b => ?_) (.inl (.inr ⟨_, at_⟩)) (fun b u z => ?_) (fun b z => ?_) fun _ => hk
    · by_cases hb : b = a
      · exact .inr ⟨_, _, if_pos hb⟩
      · exact .inl (if_neg hb)
    · by_cases hb : b = a
      · subst hb
        cases at_.symm.trans z
        exact ⟨ha, by rw [List.length_map]; exact hl, vs, _, rv, ha⟩
      · cases (if_neg hb).symm.trans z
    · by_cases hb : b = a
      · exact hb
      · exact absurd (if_neg hb) z

theorem walk_go {l : PySem.W.OpenLaw} {n k : Nat} {q : Program} {loose : List Str} {XP : (Str → Option Value) → Heap → Prop} {YP : World → Heap → Prop} {d : DefRec} {K : Params → PySem.W.Frag} {x : Str} {sp : PySem.W.Frag → Sp}
    (hn : l.most = some n) (hn2 : n ≤ sizeLine) (hdf : d.params.defaults = []) (hR : Room k callerA)
    (hY : ∀ (w : World) (h : Heap), YP w h → (K w.params).In h)
    (F : ∀ (w : World) (mg : Str → Option Value) (fa : Addr) (h : Heap), (K w.params).In h → h.Ns mainGlobals mg → mg d.name = some (.ref fa) →
      ∃ fd : FuncData, (∀ (s : Shared) (u : Value), BindsTo s fd ⟨[u], []⟩ [(x, u)]) ∧ ∀ base : Heap, (K w.params).In base → base.Ns mainGlobals mg → Pr l.prog w (K w.params) mg base CX0 k fa fd [x] (sp (K w.params)))
    (hsp : ∀ (K : PySem.W.Frag) (H : Hp) (a : Addr) (ns : List Int), ns.length ≤ n → SqL K H a (ns.map V.int) → sp K [.ref a] H (fun v _ => v = .bl true) fun _ _ _ => False) :
    PySem.W.WalkO q loose XP YP l.row.toRowW d [] (fun f vs => PySem.call f vs) := by
  refine Att.attach_call hn hdf fun w s0 s1 mg mb fa o pm cd doc a vs ns G Y ho hd hcd hmg hobj hints hlen hg => ?_
  obtain ⟨fd, hb, hF⟩ := F w mg fa _ (hY w _ Y) G.T.g hmg
  exact law_go (hY w _ Y) G.T.g G.T.b G.T.builtins G.T.nolimit hg hobj hints (Nat.le_trans hlen hn2) hR hF hb (fun H _ hS => hsp _ H a ns hlen hS) fun _ _ _ z => z
end Gd
set_option Elab.async false
set_option linter.all false
set_option maxRecDepth 100000
set_option maxHeartbeats 4000000
/-! A head by one run, with facts of one's own: a Bool over the written part, and the defs. -/
namespace Gd
open PySem PySem.Spec PyProof.Rows L2
abbrev AlX : Type := Bool × List He.FnV
def obsX (tab : PySem.W.Frag → Bool) (fn : List He.FnD) (K : PySem.W.Frag) : AlX := (tab K && fn.all fun d => PySem.W.keepIn K (.ref (He.fAd K d.at_)) && (He.Fa.code d.at_ d.qual).ok K, fn.map fun d => He.fnObs K d.at_)
def SaysX (tab : PySem.W.Frag → Bool) (fn : List He.FnD) (K : PySem.W.Frag) : Prop := obsX tab fn K = (true, fn.map He.FnD.val)
def obsXG (n : Nat) (tab : PySem.W.Frag → Bool) (fn : List He.FnD) (g : Addr → Option Obj) : AlX := obsX tab fn (He.frG g (He.asG g n))
def hookX (n : Nat) (tab : PySem.W.Frag → Bool) (fn : List He.FnD) : PySem.W.Hook where
  α := AlX
  obs := fun s => obsXG n tab fn s.heap.get?
  val := fun _ => (true, fn.map He.FnD.val)
  says := fun _ h => ∃ K : PySem.W.Frag, K.In h ∧ SaysX tab fn K
  of := fun _ _ e => ⟨_, He.frG_in, e⟩
  keeps := fun _ _ _ ⟨K, hK, c⟩ k => ⟨K, PySem.W.Frag.In.keeps hK k, c⟩
theorem obsXG_eq {n : Nat} {tab : PySem.W.Frag → Bool} {fn : List He.FnD} {g : Addr → Option Obj} {s : Shared} (h : ∀ a, g a = s.heap.get? a) : obsXG n tab fn g = (hookX n tab fn).obs s := by
  obtain rfl : g = s.heap.get? := funext h
  rfl
section
variable {tab : PySem.W.Frag → Bool} {fn : List He.FnD} {K : PySem.W.Frag}
theorem SaysX.facts (c : SaysX tab fn K) : tab K = true := (He.ba (show (tab K && fn.all fun d => PySem.W.keepIn K (.ref (He.fAd K d.at_)) && (He.Fa.code d.at_ d.qual).ok K) = true from congrArg Prod.fst c)).1
/-- a def of the text where the run left it -/
theorem SaysX.fun_ (c : SaysX tab fn K) (i : Nat) {d : He.FnD} {st : Stmt} (h : fn[i]? = some d) (e : d = ⟨d.at_, d.name, d.qual, defArgs st, defBody st, defScope st⟩) : ∃ fd, Fun K d.name d.qual st (He.fAd K d.at_) fd := by
  have c2 := (He.ba (show (tab K && fn.all fun d => PySem.W.keepIn K (.ref (He.fAd K d.at_)) && (He.Fa.code d.at_ d.qual).ok K) = true from congrArg Prod.fst c)).2
  obtain ⟨k1, k2⟩ := He.ba (List.all_eq_true.mp c2 d (List.mem_of_getElem? h))
  have e1 : fn.map (fun d => He.fnObs K d.at_) = fn.map He.FnD.val := congrArg Prod.snd c
  have e2 : (fn.map fun d => He.fnObs K d.at_)[i]? = (fn.map He.FnD.val)[i]? := by rw [e1]
  rw [List.getElem?_map, List.getElem?_map, h] at e2
  obtain ⟨oc, od, osl, kV, doc, pm, an, cdv, ct, lk, hc⟩ := He.fn_ok (Option.some.inj e2) k2
  rw [e] at lk
  exact ⟨_, ⟨⟨oc, od, kV, doc, pm, an, cdv, ct, osl, rfl, lk, hc⟩, k1⟩⟩
end
theorem walk_goE {l : PySem.W.OpenLaw} {n k : Nat} {q : Program} {loose : List Str} {XP : (Str → Option Value) → Heap → Prop} {YP : World → Heap → Prop} {d : DefRec} {x : Str}
    (hn : l.most = some n) (hn2 : n ≤ sizeLine) (hdf : d.params.defaults = []) (hR : Room k callerA)
    (F : ∀ (w : World) (mg : Str → Option Value) (fa : Addr) (h : Heap), YP w h → h.Ns mainGlobals mg → mg d.name = some (.ref fa) →
      ∃ (K : PySem.W.Frag) (fd : FuncData) (sp : Sp), K.In h ∧ (∀ (s : Shared) (u : Value), BindsTo s fd ⟨[u], []⟩ [(x, u)]) ∧ (∀ (H : Hp) (a : Addr) (ns : List Int), ns.length ≤ n → SqL K H a (ns.map V.int) → sp [.ref a] H (fun v _ => v = .bl true) fun _ _ _ => False) ∧
        ∀ base : Heap, K.In base → base.Ns mainGlobals mg → Pr l.prog w K mg base CX0 k fa fd [x] sp) :
    PySem.W.WalkO q loose XP YP l.row.toRowW d [] (fun f vs => PySem.call f vs) := by
  refine Att.attach_call hn hdf fun w s0 s1 mg mb fa o pm cd doc a vs ns G Y ho hd hcd hmg hobj hints hlen hg => ?_
  obtain ⟨K, fd, sp, KX, hb, hsp, hF⟩ := F w mg fa _ Y G.T.g hmg
  exact law_go KX G.T.g G.T.b G.T.builtins G.T.nolimit hg hobj hints (Nat.le_trans hlen hn2) hR hF hb (fun H _ hS => hsp H a ns hlen hS) fun _ _ _ z => z
end Gd
set_option Elab.async false
set_option linter.all false
set_option maxRecDepth 100000
set_option maxHeartbeats 4000000
/-! A head by one run: each def where a function of the written part says (a global, a method, a property's getter). -/
namespace Gd
open PySem PySem.Spec PyProof.Rows L2
structure FnX where
  ad : PySem.W.Frag → Addr
  name : Str
  qual : Str
  st : Stmt
def FnX.val (d : FnX) : He.FnV := some (d.name, d.qual, defArgs d.st, .stmts (defBody d.st), defScope d.st, mainGlobals, [], .none, builtinsNs)
def fnObsA (K : PySem.W.Frag) (a : Addr) : He.FnV := match K.lookup a with
  | some ⟨_, _, .func fd, _⟩ => some (fd.name, fd.qualname, fd.params, fd.body, fd.scope, fd.globals, fd.closure, fd.defaults, fd.builtins)
  | _ => none
def codeA (K : PySem.W.Frag) (a : Addr) (q : Str) : Bool := match K.lookup a with
  | some ⟨_, _, .func fd, _⟩ => PySem.W.codeIn K fd.code q
  | _ => false
theorem fnA_ok {K : PySem.W.Frag} {a : Addr} {d : FnX} (e : fnObsA K a = d.val) (c : codeA K a d.qual = true) :
    ∃ oc od osl kV doc pm an cdv ct, K.lookup a = some ⟨oc, od, .func (PySem.W.fnOf d.name d.qual (defArgs d.st) (defBody d.st) (defScope d.st) .none kV doc pm an cdv ct), osl⟩ ∧ PySem.W.codeIn K cdv d.qual = true := by
  unfold codeA at c
  unfold fnObsA at e
  cases q : K.lookup a with
  | none =>
    rw [q] at c
    cases c
  | some o =>
    obtain ⟨oc, od, dt, osl⟩ := o
    rw [q] at c e
    cases dt with
    | func fd =>
      obtain ⟨m1, m2, m3, m4, m5, m6, m7, m8, m9, m10, m11, m12, m13, m14, m15⟩ := fd
      have e2 : (some (m1, m2, m3, m4, m5, m6, m7, m8, m15) : He.FnV) = some (d.name, d.qual, defArgs d.st, .stmts (defBody d.st), defScope d.st, mainGlobals, [], .none, builtinsNs) := e
      simp only [Option.some.injEq, Prod.mk.injEq] at e2
      obtain ⟨g1, g2, g3, g4, g5, g6, g7, g8, g9⟩ := e2
      subst g1 g2 g3 g4 g5 g6 g7 g8 g9
      exact ⟨oc, od, osl, m9, m10, m11, m12, m13, m14, rfl, c⟩
    | _ => cases c
def obsY (tab : PySem.W.Frag → Bool) (fn : List FnX) (K : PySem.W.Frag) : AlX := (tab K && fn.all fun d => PySem.W.keepIn K (.ref (d.ad K)) && codeA K (d.ad K) d.qual, fn.map fun d => fnObsA K (d.ad K))
def SaysY (tab : PySem.W.Frag → Bool) (fn : List FnX) (K : PySem.W.Frag) : Prop := obsY tab fn K = (true, fn.map FnX.val)
def obsYG (n : Nat) (tab : PySem.W.Frag → Bool) (fn : List FnX) (g : Addr → Option Obj) : AlX := obsY tab fn (He.frG g (He.asG g n))
def hookY (n : Nat) (tab : PySem.W.Frag → Bool) (fn : List FnX) : PySem.W.Hook where
  α := AlX
  obs := fun s => obsYG n tab fn s.heap.get?
  val := fun _ => (true, fn.map FnX.val)
  says := fun _ h => ∃ K : PySem.W.Frag, K.In h ∧ SaysY tab fn K
  of := fun _ _ e => ⟨_, He.frG_in, e⟩
  keeps := fun _ _ _ ⟨K, hK, c⟩ k => ⟨K, PySem.W.Frag.In.keeps hK k, c⟩
theorem obsYG_eq {n : Nat} {tab : PySem.W.Frag → Bool} {fn : List FnX} {g : Addr → Option Obj} {s : Shared} (h : ∀ a, g a = s.heap.get? a) : obsYG n tab fn g = (hookY n tab fn).obs s := by
  obtain rfl : g = s.heap.get? := funext h
  rfl
section
variable {tab : PySem.W.Frag → Bool} {fn : List FnX} {K : PySem.W.Frag}
theorem SaysY.facts (c : SaysY tab fn K) : tab K = true := (He.ba (show (tab K && fn.all fun d => PySem.W.keepIn K (.ref (d.ad K)) && codeA K (d.ad K) d.qual) = true from congrArg Prod.fst c)).1
theorem SaysY.fun_ (c : SaysY tab fn K) (i : Nat) {d : FnX} (h : fn[i]? = some d) : ∃ fd, Fun K d.name d.qual d.st (d.ad K) fd := by
  have c2 := (He.ba (show (tab K && fn.all fun d => PySem.W.keepIn K (.ref (d.ad K)) && codeA K (d.ad K) d.qual) = true from congrArg Prod.fst c)).2
  obtain ⟨k1, k2⟩ := He.ba (List.all_eq_true.mp c2 d (List.mem_of_getElem? h))
  have e1 : fn.map (fun d => fnObsA K (d.ad K)) = fn.map FnX.val := congrArg Prod.snd c
  have e2 : (fn.map fun d => fnObsA K (d.ad K))[i]? = (fn.map FnX.val)[i]? := by rw [e1]
  rw [List.getElem?_map, List.getElem?_map, h] at e2
  obtain ⟨oc, od, osl, kV, doc, pm, an, cdv, ct, lk, hc⟩ := fnA_ok (Option.some.inj e2) k2
  exact ⟨_, ⟨⟨oc, od, kV, doc, pm, an, cdv, ct, osl, rfl, lk, hc⟩, k1⟩⟩
end
/-- a global's function, a class's method, a property's getter -/
def gAd (x : Str) : PySem.W.Frag → Addr := fun K => He.ga K x
def mAd (C m : Str) : PySem.W.Frag → Addr := fun K => He.ma K (He.ga K C) m
def pAd (C m : Str) : PySem.W.Frag → Addr := fun K => match PySem.W.recIn K (He.ma K (He.ga K C) m) "property" with
  | some (.ref g :: _) => g
  | _ => 0
/-- a property's facts -/
def propB (K : PySem.W.Frag) (C m : Str) : Bool := He.eqO (PySem.W.findIn K (.ref (He.ga K C)) m) (some (some (.ref (He.ma K (He.ga K C) m)))) && (He.eqO (PySem.W.specialIn K (.ref (He.ma K (He.ga K C) m)) "__get__") (some (some (.builtin "property.__get__"))) &&
  (decide (PySem.W.takesIn K (.ref (He.ma K (He.ga K C) m)) = some true) && (match PySem.W.recIn K (He.ma K (He.ga K C) m) "property" with
    | some (.ref _ :: _) => true
    | _ => false)))
theorem prop_ok {K : PySem.W.Frag} {C m : Str} (q : propB K C m = true) : PropOf K (He.ga K C) m (He.ma K (He.ga K C) m) (pAd C m K) := by
  obtain ⟨q1, q⟩ := He.ba q
  obtain ⟨q2, q⟩ := He.ba q
  obtain ⟨q3, q4⟩ := He.ba q
  refine ⟨He.eqO_ok q1, He.eqO_ok q2, of_decide_eq_true q3, ?_⟩
  unfold pAd
  split at q4
  · rename_i g r e
    rw [e]
    exact ⟨r, rfl⟩
  · cases q4
end Gd
set_option Elab.async false
set_option linter.all false
set_option maxRecDepth 100000
set_option maxHeartbeats 4000000
/-! A head by one run, as HY's, and of some defs the tables of their code, still empty. -/
namespace Gd
open PySem PySem.Spec PyProof.Rows L2
def obsZG (n : Nat) (tab : PySem.W.Frag → Bool) (fn : List FnX) (tf : List He.Defn) (g : Addr → Option Obj) : AlX :=
  ((obsY tab fn (He.frT g (He.asG g n))).1 && He.tabsB g tf (He.frT g (He.asG g n)), (obsY tab fn (He.frT g (He.asG g n))).2)
structure SaysZ (tab : PySem.W.Frag → Bool) (fn : List FnX) (tf : List He.Defn) (h : Heap) (K : PySem.W.Frag) : Prop where
  y : SaysY tab fn K
  hd : ∀ p ∈ tf, PySem.W.codeHdIn K (He.cT K p).1 (He.cT K p).2 = true
  out : ∀ p ∈ tf, K.lookup (He.cT K p).2 = none
  emp : ∀ p ∈ tf, h.get? (He.cT K p).2 = some { cls := .none, data := .fields #[] }
theorem saysZ_of {n : Nat} {tab : PySem.W.Frag → Bool} {fn : List FnX} {tf : List He.Defn} {h : Heap} (e : obsZG n tab fn tf h.get? = (true, fn.map FnX.val)) : SaysZ tab fn tf h (He.frT h.get? (He.asG h.get? n)) := by
  have e1 : ((obsY tab fn (He.frT h.get? (He.asG h.get? n))).1 && He.tabsB h.get? tf (He.frT h.get? (He.asG h.get? n))) = true := congrArg Prod.fst e
  have e2 : (obsY tab fn (He.frT h.get? (He.asG h.get? n))).2 = fn.map FnX.val := congrArg Prod.snd e
  obtain ⟨q1, q2⟩ := He.ba e1
  have all : ∀ p ∈ tf, PySem.W.codeHdIn (He.frT h.get? (He.asG h.get? n)) (He.cT (He.frT h.get? (He.asG h.get? n)) p).1 (He.cT (He.frT h.get? (He.asG h.get? n)) p).2 = true ∧ ∃ o, h.get? (He.cT (He.frT h.get? (He.asG h.get? n)) p).2 = some o ∧ He.emptyTab o = true := by
    intro p hp
    obtain ⟨z1, z2⟩ := He.ba (List.all_eq_true.mp q2 p hp)
    refine ⟨z1, ?_⟩
    split at z2
    · rename_i o eo
      exact ⟨o, eo, z2⟩
    · cases z2
  refine ⟨Prod.ext q1 e2, fun p hp => (all p hp).1, fun p hp => ?_, fun p hp => ?_⟩
  · obtain ⟨_, o, eo, em⟩ := all p hp
    exact He.frT_none eo em
  · obtain ⟨_, o, eo, em⟩ := all p hp
    rw [eo, He.emptyTab_eq em]
def hookZ (n : Nat) (tab : PySem.W.Frag → Bool) (fn : List FnX) (tf : List He.Defn) : PySem.W.Hook where
  α := AlX
  obs := fun s => obsZG n tab fn tf s.heap.get?
  val := fun _ => (true, fn.map FnX.val)
  says := fun _ h => ∃ K : PySem.W.Frag, K.In h ∧ SaysZ tab fn tf h K
  of := fun _ _ e => ⟨_, He.frT_in, saysZ_of e⟩
  keeps := fun _ _ _ ⟨K, hK, c⟩ k => ⟨K, PySem.W.Frag.In.keeps hK k, c.y, c.hd, c.out, fun p hp => k _ _ (c.emp p hp)⟩
theorem obsZG_eq {n : Nat} {tab : PySem.W.Frag → Bool} {fn : List FnX} {tf : List He.Defn} {g : Addr → Option Obj} {s : Shared} (h : ∀ a, g a = s.heap.get? a) : obsZG n tab fn tf g = (hookZ n tab fn tf).obs s := by
  obtain rfl : g = s.heap.get? := funext h
  rfl
end Gd
set_option Elab.async false
set_option linter.all false
set_option maxRecDepth 100000
set_option maxHeartbeats 4000000
/-! Exceptions of own classes as values: made (by place and by name), their fields read, their classes asked. -/
namespace Gd
open PySem PySem.Spec PyProof.Rows L2
open PySem.W (excInitIn excOver excTail)

/-- what is asked of an exception class of one's own over the built-in class B -/
structure XC (K : PySem.W.Frag) (C : Addr) : Prop where
  base : ∃ (B nid iid : String) (tl : List Value), ExcBaseFacts B nid iid tl ∧ StoreFacts B tl "object.__setattr__" "object" ∧ excInitIn K C tl nid = true ∧ excOver K C tl = true
  hd : PySem.W.hasDictIn K C = true
  sa : PySem.W.findIn K (.ref C) "__setattr__" = some (some (.builtin "object.__setattr__"))
  ga : PySem.W.findIn K (.ref C) "__getattribute__" = some (some (.builtin "BaseException.__getattribute__"))
  gg : PySem.W.findIn K (.ref C) "__getattr__" = some none
  sB : PySem.W.subIn K (.ref C) (.type "BaseException") = some true
  ca : PySem.W.findIn K (.ref C) "__class__" = some (some (.builtin "object.__class__"))
  cn : PySem.W.specialIn K (.builtin "object.__class__") "__get__" = some (some (.builtin "getset_descriptor.__get__"))
  ct : PySem.W.takesIn K (.builtin "object.__class__") = some true
  mo : PySem.W.mroIn K C (.type "object") = some true
  kp : PySem.W.keepIn K (.ref C) = true
/-- its instance at a, with these fields -/
def ErrAt (H : Hp) (a C : Addr) (fs : List (Str × V)) : Prop := ∃ d, H a = some (exo a C (some d)) ∧ H d = some (exd d fs)
theorem ErrAt.keep {H H' : Hp} {a C : Addr} {fs : List (Str × V)} (h : ErrAt H a C fs) (s : Same H H') : ErrAt H' a C fs := by
  obtain ⟨d, h1, h2⟩ := h
  exact ⟨d, s _ _ h1, s _ _ h2⟩

/-! ### the first store of a field, a further one -/
section
variable {prog : Program} {w : World} {A : Around} {E : Value → Shared → Prop} {R : Result → Shared → Prop} {hp : Heap} {g : Array GenState} {d : Drawn} {t : Nat} {os : OsState}
theorem store_first {K : PySem.W.Frag} {name : Str} {tk : Tok} {v : Value} {x C t1 : Addr} {B : String} {tl : List Value} (SF : StoreFacts B tl "object.__setattr__" "object") (X : K.In hp)
    (hx : hp.get? x = some { cls := .ref C, data := .fields #[.ref t1, .none, .none, .none, .bool false, .none] }) (ho : excOver K C tl = true) (hd : PySem.W.hasDictIn K C = true) (ht : PySem.W.takerIn K C name = some none)
    (hq : ∀ h' tk' dx, (∀ b o, b ≠ x → hp.get? b = some o → h'.get? b = some o) → hp.objs.size ≤ dx → dx ≠ x → h'.get? x = some { cls := .ref C, dict := some dx, data := .fields #[.ref t1, .none, .none, .none, .bool false, .none] } →
      h'.Ns1 dx (fun y => if y = name then some v else none) → R (.ok (.ret .none)) ⟨h', g, d, tk', os⟩) :
    codeAny (model prog w) A (.call (.builtin "object.__setattr__") ⟨[.ref x, .str name tk, v], []⟩) R ⟨hp, g, d, t, os⟩ := by
  refine PySem.W.osa_openX (od := none) SF X ⟨hx, rfl, rfl, trivial⟩ ho ht fun b => ?_
  obtain ⟨cd, hc, hd'⟩ := PySem.W.any_some hd
  have hxs : x ≠ hp.objs.size := Nat.ne_of_lt (Heap.lt_size hx)
  refine wpAny_bind (wpAny_pure (wpAny_bind (PySem.W.instanceDict_exc (c2 := .none) hx (PySem.W.looks_clsIn X hc) hd' ?_)))
  show wpAny _ _ (Builtin.ObjectAttr.storeInDict hp.objs.size (.str name tk) name v) _ _ _
  refine HandSPX.store_in_new ?_ ?_
  · exact ⟨_, #[], _, (Heap.get?_update_ne _ _ _ _ hxs.symm).trans (Heap.get?_push_at rfl rfl), rfl, fun e he => absurd he (by simp), fun _ => rfl⟩
  · intro h' tk' hn' hs
    have hx2 : (hp.push (PySem.W.dictOf [] 0)).get? x = some { cls := .ref C, data := .fields #[.ref t1, .none, .none, .none, .bool false, .none] } := Heap.get?_push_of_some _ hx
    refine hq h' tk' hp.objs.size (fun b o hb q => ?_) (Nat.le_refl _) hxs.symm ?_ hn'
    · exact (hs.2 b (Nat.ne_of_lt (Heap.lt_size q))).trans ((Heap.get?_update_ne _ _ _ _ hb).trans (Heap.get?_push_of_some _ q))
    · exact (hs.2 x hxs).trans (Heap.get?_update_self _ hx2 rfl)
end

section
variable {X : Cx} {pins : List (Addr × Obj)} {σ : L2.St} {H : Hp} {s : Shared} {a C dx : Addr} {f : Str} {y : V} {u : Value} {fs : List (Str × V)} {Q : Unit → Shared → Prop} {E : Value → Shared → Prop} {A : Around}
/-- self.f = y on an exception without a dict -/
theorem est_first (T : XC X.K C) (I : Inv X pins σ H s) (e : H a = some (exo a C none)) (ht : PySem.W.takerIn X.K C f = some none) (ry : RelV y u)
    (h : ∀ dx s', H dx = none → dx ≠ a → Inv X pins σ (upd (upd H dx (exd dx [(f, y)])) a (exo a C (some dx))) s' → Q () s') : wpAny (model X.prog X.w) A (setAttr (.ref a) f u) Q E s := by
  obtain ⟨B, nid, iid, tl, FB, SF, hin, hov⟩ := T.base
  obtain ⟨t1, ho⟩ := exo_at I.hok e
  obtain ⟨hp, g, d, t, os⟩ := s
  refine PySem.W.set_plain I.kIn (ox := { cls := .ref C, dict := none, data := .fields #[.ref t1, .none, .none, .none, .bool false, .none] }) (od := none) ⟨ho, rfl, rfl, trivial⟩ T.sa ?_
  refine store_first SF I.kIn ho hov T.hd ht fun h' tk' dx k dn dne hx hn => ?_
  have n1 : H dx = none := I.hok.fresh dn
  have old : ∀ {b : Addr} {o : Obj}, hp.get? b = some o → b ≠ dx := by
    intro b o q z
    have := Heap.lt_size q
    rw [z] at this
    exact absurd dn (Nat.not_le.mpr this)
  have offA : ∀ {b : Addr}, H b = none → b ≠ a := by
    intro b n z
    rw [z, e] at n
    cases n
  have onA : ∀ {b : Addr} {o : HO}, H b = some o → o ≠ exo a C none → b ≠ a := by
    intro b o q n z
    rw [z, e] at q
    exact n (Option.some.inj q).symm
  have un : Un X.fs [] H (upd (upd H dx (exd dx [(f, y)])) a (exo a C (some dx))) hp h' := by
    constructor
    · intro b o q n _ _
      exact k b o (offA n) q
    · intro b o q n _ _
      exact ⟨o.slots, k b o (offA n) q⟩
    · intro b o q n _
      rw [upd_ne (offA n), upd_ne (old q)]
      exact n
    · intro b o q _
      by_cases hb : b = a
      · subst hb
        exact ⟨_, hx⟩
      · exact ⟨o, k b o hb q⟩
    · intro b xs q
      rw [upd_ne (onA q (fun z => exo_tup z.symm)), upd_ne (ne_of_none q n1)]
      exact q
    · intro b o v q
      rw [upd_ne (onA q (fun z => exo_frz z.symm)), upd_ne (ne_of_none q n1)]
      exact q
    · intro b ps q
      refine ⟨#[], ?_⟩
      rw [upd_ne (onA q (fun z => exo_tbl z.symm)), upd_ne (ne_of_none q n1), q]
      simp
  refine h dx _ n1 dne (I.un (t' := tk') un fun b o q => ?_)
  by_cases hb : b = a
  · subst hb
    rw [upd_same] at q
    cases q
    exact exo_ok hx
  rw [upd_ne hb] at q
  by_cases hd : b = dx
  · subst hd
    rw [upd_same] at q
    cases q
    exact exd_ok hn (relO_put (fs := []) ry fun g => True.intro)
  rw [upd_ne hd] at q
  refine (I.hok b o q).stay (fun c v hc z => k c v ?_ z) (fun c hc => ?_) fun c xs hc => ?_
  · rcases hc with hc | hc
    · rw [hc]
      exact hb
    · exact onA hc (fun z => exo_own z.symm)
  · rw [upd_ne (onA hc (fun z => exo_own z.symm)), upd_ne (ne_of_none hc n1)]
    exact hc
  · rw [upd_ne (onA hc (fun z => exo_tup z.symm)), upd_ne (ne_of_none hc n1)]
    exact hc
end
end Gd
set_option Elab.async false
set_option linter.all false
set_option maxRecDepth 100000
set_option maxHeartbeats 4000000
namespace PySem
namespace Gk
open PySem.W PySem.Calls PyProof.Rows PySem.HandSPX
open Builtin Builtin.ObjectAttr
section
variable {M : Model} {A : Around} {E : Value → Shared → Prop} {h : Heap} {g : Array GenState} {d : Drawn} {t : Nat} {os : OsState}
variable {nm q : Str} {C N : Addr} {bs bm bmB : List Value} {hdct : Bool} {sn : List Str} {sub : List Value} {ab : Bool} {col : Option Bool} {dd : Option Addr} {k0 k1 k2 k3 k5 : Option Value} {B newId initId : String}
theorem check_kw (F : ExcBaseFacts B newId initId bmB) (hT : ∀ X : String, bm.contains (.type X) = bmB.contains (.type X)) {rest : List Value} {kw : List (Str × Value)} {Q : Unit → Shared → Prop}
    (hC : h.get? C = some (excClassObj nm q C N bs bm hdct sn sub ab col dd k0 k1 k2 k3 k5 newId)) (hq : Q () ⟨h, g, d, t, os⟩) : wpAny M A (checkBuiltinCall newId ⟨.ref C :: rest, kw⟩) Q E ⟨h, g, d, t, os⟩ := by
  have c1 : (Value.ref C :: bm).contains (.type B) = true := by rw [List.contains_cons, hT, F.hasB, Bool.or_true]
  have c2 := F.noStar
  simp only [checkBuiltinCall, F.newKind, F.newSplit, F.newRow]
  repeat (first | refine wpAny_loadPart_at hC ?_ | (refine wpAny_isSubtype_exc hC ?_; rw [c1]) | refine wpAny_staticBase_exc hC ?_ | refine wpAny_madeBy_exc hC ?_ | simp only [bne_self_eq_false, Bool.false_eq_true, if_false] | wp_step)
  exact hq
end
section
variable {prog : Program} {w : World} {A : Around} {E : Value → Shared → Prop} {R : Result → Shared → Prop} {h : Heap} {g : Array GenState} {d : Drawn} {t : Nat} {os : OsState}
variable {nm q : Str} {C N : Addr} {bs bm bmB : List Value} {hdct : Bool} {sn : List Str} {sub : List Value} {ab : Bool} {col : Option Bool} {dd : Option Addr} {k0 k1 k2 k3 k5 : Option Value} {B newId initId : String}
theorem new_kw (F : ExcBaseFacts B newId initId bmB) (hT : ∀ X : String, bm.contains (.type X) = bmB.contains (.type X)) {rest : List Value} {kw : List (Str × Value)}
    (hC : h.get? C = some (excClassObj nm q C N bs bm hdct sn sub ab col dd k0 k1 k2 k3 k5 newId))
    (hq : R (.ok (.ret (.ref (h.objs.size + 1)))) ⟨(h.push (PySem.W.kdv_tup rest)).push (excO C h.objs.size), g, d, t, os⟩) (hrest : rest.length ≤ sizeLine) :
    codeAny (model prog w) A (.builtin newId ⟨.ref C :: rest, kw⟩) R ⟨h, g, d, t, os⟩ := by
  have e0 := F.ends
  have c1 : (Value.ref C :: bm).contains (.type B) = true := by rw [List.contains_cons, hT, F.hasB, Bool.or_true]
  have c2 : (Value.ref C :: bm).contains (.type "AttributeError") = false := by rw [List.contains_cons, hT, F.noAttr]; rfl
  have c3 : (Value.ref C :: bm).contains (.type "NameError") = false := by rw [List.contains_cons, hT, F.noName]; rfl
  refine codeAny_builtinAt F.entry ?_
  unfold Builtin.«BaseException.__new__»
  refine wpAt_bind ?_
  show wpAt _ _ _ (stack >>= _) _ _ _
  refine wpAt_bind (wpAt_stack fun p below => wpAt_of_wpAny ?_)
  wp_walk
  refine wpAt_of_wpAny ?_
  rw [F.owner]
  repeat (first | with_reducible refine wpAny_madeHere_exc F.canon hC ?_ | with_reducible refine wpAny_loadPart_at hC ?_ | (with_reducible refine wpAny_isSubtype_exc hC ?_; first | rw [c1] | rw [c2] | rw [c3]) | wp_step)
  show R _ _
  rw [Heap.size_push]
  exact hq
theorem type_call_kw (F : ExcBaseFacts B newId initId bmB) (hT : ∀ X : String, bm.contains (.type X) = bmB.contains (.type X)) {rest : List Value} {kw : List (Str × Value)} {fI : Addr} {Q : Fin → Shared → Prop}
    (hC : h.get? C = some (excClassObj nm q C N bs bm hdct sn sub ab col dd k0 k1 k2 k3 k5 newId))
    (hi : W.Looks (model prog w) h (typeLookup (.ref C) "__init__") (some (.ref fI))) (hb : ∀ self, W.Looks (model prog w) h (bindSpecial (.ref fI) self) (.ref fI, [self])) (hrest : rest.length ≤ sizeLine)
    (hq : codeAny (model prog w) A (.call (.ref fI) ⟨.ref (h.objs.size + 1) :: rest, kw⟩)
      (fun r s' => match r with | .ok (.ret v) => v = .none ∧ Q (.done (.ret (.ref (h.objs.size + 1)))) s' | .ok _ => False | .error e => E e s')
      ⟨(h.push (W.kdv_tup rest)).push (excO C h.objs.size), g, d, t, os⟩) :
    wpAny (model prog w) A (Builtin.«type.__call__» ⟨.ref C :: rest, kw⟩) Q E ⟨h, g, d, t, os⟩ := by
  repeat (first | with_reducible refine wpAny_loadPart_at hC ?_ | with_reducible refine wpAny_madeBy_exc hC ?_ | wp_step)
  refine codeAny_call_builtin_code (Code.quiet_builtin _ F.quiet) (check_kw F hT hC ?_)
  refine new_kw F hT hC ?_ hrest
  show wpAny _ _ _ _ _ _
  have k : ∀ b o, h.get? b = some o → ((h.push (W.kdv_tup rest)).push (excO C h.objs.size)).get? b = some o := fun b o e => Heap.get?_push_of_some _ (Heap.get?_push_of_some _ e)
  have g1 := k _ _ hC
  have g2 : ((h.push (W.kdv_tup rest)).push (excO C h.objs.size)).get? (h.objs.size + 1) = some (excO C h.objs.size) := by heap_get
  have c1 : (Value.ref C :: bm).contains (.ref C) = true := by simp
  have i1 := hi.keeps k
  have b1 := (hb (.ref (h.objs.size + 1))).keeps k
  unfold isInstance
  repeat (first | with_reducible refine wpAny_loadPart_at g2 ?_ | (with_reducible refine wpAny_isSubtype_exc g1 ?_; rw [c1]) | wp_step)
  show wpAny _ _ (typeLookup (.ref C) _) _ _ _
  refine i1.at ?_
  refine wpAny_holding (wpAny_bind (b1.at ?_))
  refine wpAny_bind (wpAny_call (codeAny_mono hq fun r s' z => ?_))
  rcases r with e | (v | _ | _ | _) <;> first | exact z | exact z.elim | skip
  obtain ⟨rfl, z⟩ := z
  first
    | exact wpAny_pure (wpAny_pure z)
    | (wp_walk; exact z)
theorem call_kw (F : ExcBaseFacts B newId initId bmB) (hT : ∀ X : String, bm.contains (.type X) = bmB.contains (.type X)) {rest : List Value} {kw : List (Str × Value)} {fI : Addr}
    (hC : h.get? C = some (excClassObj nm q C N bs bm hdct sn sub ab col dd k0 k1 k2 k3 k5 newId))
    (hi : W.Looks (model prog w) h (typeLookup (.ref C) "__init__") (some (.ref fI))) (hb : ∀ self, W.Looks (model prog w) h (bindSpecial (.ref fI) self) (.ref fI, [self])) (hrest : rest.length ≤ sizeLine)
    (hq : codeAny (model prog w) (A.under (.builtin "type.__call__" ⟨.ref C :: rest, kw⟩)) (.call (.ref fI) ⟨.ref (h.objs.size + 1) :: rest, kw⟩) (W.InitBack (h.objs.size + 1) R)
      ⟨(h.push (W.kdv_tup rest)).push (excO C h.objs.size), g, d, t, os⟩) :
    codeAny (model prog w) A (.call (.ref C) ⟨rest, kw⟩) R ⟨h, g, d, t, os⟩ := by
  have f1 := tc_lookup
  have f2 := tc_bind (.ref C)
  have hTy : (⟨h, g, d, t, os⟩ : Shared).TypeIs (.ref C) "type" := ⟨_, hC, rfl⟩
  refine codeAny_of_tree ?_
  show wpAny _ _ (callAny (.ref C) _) _ _ _
  repeat (any_goals (first | assumption | with_reducible refine wpAny_loadPart_at hC ?_ | wp_step))
  refine ⟨rfl, ?_⟩
  refine codeAny_call_builtin_at (Code.quiet_builtin _ (by decide +kernel)) entry_typeCall (wpAny_check_type_call_sub hC (type_call_kw F hT hC hi hb hrest ?_))
  refine codeAny_mono hq fun r s' z => ?_
  rcases r with e | (v | _ | _ | _) <;> exact z
end
end Gk
end PySem
set_option Elab.async false
set_option linter.all false
set_option maxRecDepth 100000
set_option maxHeartbeats 4000000
namespace Gd
open PySem PySem.Spec PyProof.Rows L2
open PySem.W (excInitIn excOver excTail)
section
variable {X : Cx} {pins : List (Addr × Obj)} {σ : L2.St} {H : Hp} {s : Shared} {a C dx : Addr} {f : Str} {y : V} {u : Value} {fs : List (Str × V)} {E : Value → Shared → Prop} {A : Around}
/-- self.f = y, a further field -/
theorem est_more {Q : Unit → Shared → Prop} (T : XC X.K C) (I : Inv X pins σ H s) (e : H a = some (exo a C (some dx))) (ed : H dx = some (exd dx fs)) (hl : fs.length ≤ 900) (ht : PySem.W.takerIn X.K C f = some none) (ry : RelV y u)
    (h : ∀ s', Inv X pins σ (upd H dx (exd dx ((f, y) :: fs))) s' → Q () s') : wpAny (model X.prog X.w) A (setAttr (.ref a) f u) Q E s := by
  obtain ⟨B, nid, iid, tl, FB, SF, hin, hov⟩ := T.base
  obtain ⟨t1, ho⟩ := exo_at I.hok e
  obtain ⟨mA, hns, rel⟩ := exd_at I.hok ed
  have hw := within_of rel
  obtain ⟨hp, g, d, t, os⟩ := s
  obtain ⟨oD, _, _, hoD, _, _⟩ := hns.count hw
  have inst : PySem.W.InstAt hp a { cls := .ref C, dict := some dx, data := .fields #[.ref t1, .none, .none, .none, .bool false, .none] } C (some oD) := ⟨ho, rfl, rfl, hoD⟩
  refine PySem.W.set_plain I.kIn inst T.sa ?_
  refine PySem.W.osa_openX (s := ⟨hp, g, d, t + 1, os⟩) SF I.kIn inst hov ht fun b => ?_
  obtain ⟨cd, hc, hd'⟩ := PySem.W.any_some T.hd
  refine wpAny_bind (wpAny_pure (wpAny_bind (wpAny_bind (wpAny_loadPart ho (wpAny_bind ((PySem.W.looks_clsIn (h := hp) I.kIn hc).at ?_))))))
  rw [hd']
  refine wpAny_pure (a := some dx) ?_
  refine PySem.OEX.store_in_old hns hw (by rw [List.length_map]; omega) fun h' tk' hn hs => ?_
  have hd : ∃ o, h'.get? dx = some o := by
    obtain ⟨o, _, _, e', _⟩ := hn
    exact ⟨o, e'⟩
  exact h _ (I.write (t' := tk') (x := dx) (e := dx) (o := exd dx ((f, y) :: fs)) (by rw [ed]; exact True.intro) (.inl rfl) (fun b o hb ho => (hs.2 b hb).trans ho) hd (exd_ok hn (relO_put ry rel)))
end
/-- self.f = e in an exception's __init__ -/
def tEst (K : PySem.W.Frag) (f : Str) (to te : TE) : TS := fun D σ H => te σ H fun y H1 => to σ H1 fun x H2 => ∃ a C : Addr, x = .ref a ∧ XC K C ∧ PySem.W.takerIn K C f = some none ∧
  ((H2 a = some (exo a C none) ∧ ∀ dx, H2 dx = none → dx ≠ a → D.nx σ (upd (upd H2 dx (exd dx [(f, y)])) a (exo a C (some dx)))) ∨
    ∃ (dx : Addr) (fs : List (Str × V)), H2 a = some (exo a C (some dx)) ∧ H2 dx = some (exd dx fs) ∧ fs.length ≤ 900 ∧ D.nx σ (upd H2 dx (exd dx ((f, y) :: fs))))
theorem ps_est {X : Cx} {o e : Expr} {to te : TE} {f : Str} {p' pos : Pos} (ho : PE X o to) (he : PE X e te) (hs : swapsWith e (some (.Attribute o f p')) pos.line X.env = pure false := by rfl) : PS X (.Assign [.Attribute o f p'] e pos) (tEst X.K f to te) := by
  constructor
  intro pins s σ H D I h
  refine plainObj_wpAny_Assign_Attribute (thn (he.run pins s σ H _ I h) fun v s1 z1 => ?_) hs
  obtain ⟨y, H1, I1, r1, q1⟩ := z1
  refine thn (ho.run pins s1 σ H1 _ I1 q1) fun u s2 z2 => ?_
  obtain ⟨x, H2, I2, r2, a, C, ex, T, ht, q⟩ := z2
  subst ex
  have eu : u = Value.ref a := r2
  subst eu
  rcases q with ⟨ea, q⟩ | ⟨dx, fs, ea, ed, hl, q⟩
  · exact est_first T I2 ea ht r1 fun dx s' n ne J => ⟨σ, _, J, q dx n ne⟩
  · exact est_more T I2 ea ed hl ht r1 fun s' J => ⟨σ, _, J, q⟩

/-! ### C(e, ..), C(k = v, ..): the instance as a value -/
section
variable {X : Cx} {CX : CXT} {k : Nat} {f C : Addr} {fd : FuncData} {ps ks : List Str} {sp : Sp} {E : XK} {x : Str} {p pos : Pos} {e : Expr} {es : List Expr} {kws : List Keyword} {t tk : TA}
/-- C(..) whose __init__ is the def at f -/
structure Ini (K : PySem.W.Frag) (C f : Addr) : Prop where
  xc : XC K C
  at_ : PySem.W.findIn K (.ref C) "__init__" = some (some (.ref f))
  ty : PySem.W.typeIn K (.ref f) = some (.type "function")
def tErr (C : Addr) (sp : Sp) (dvs : List V) (E : XK) (t : TA) : TE := fun σ H Q => t σ H fun vs H1 => vs.length ≤ 1000 ∧ ∀ a, H1 a = none → sp (.ref a :: (vs ++ dvs)) (upd H1 a (exo a C none)) (fun v H2 => v = .non ∧ Q (.ref a) H2) E
theorem run_err {pins : List (Addr × Obj)} {σ : L2.St} {H : Hp} {s : Shared} {Q : VK} {us ws : List Value} {kw : List (Str × Value)} {zs : List V} (N : Ini X.K C f) (F : FnOk X.prog X.w X.K X.mg X.base CX k f fd ps sp) (hR : Room (k + 1) X.A) (hx : Passes CX X E)
    (I : Inv X pins σ H s) (hl : us.length ≤ sizeLine) (hB : ∀ (s' : Shared) (self : Value), X.K.In s'.heap → BindsTo s' fd ⟨self :: us, kw⟩ (ps.zip (self :: ws))) (hV : Vals zs ws)
    (h : ∀ a, H a = none → sp (.ref a :: zs) (upd H a (exo a C none)) (fun v H2 => v = .non ∧ Q (.ref a) H2) E) : wpAny (model X.prog X.w) X.A (call (.ref C) us kw) (EP X pins σ Q) X.xe s := by
  obtain ⟨B, nid, iid, tl, FB, SF, hin, hov⟩ := N.xc.base
  obtain ⟨hp, g, dr, t0, os⟩ := s
  obtain ⟨nm, N', qn, bs, bm, hdct, sn, sub, ab, col, dd, k0, k1, k2, k3, k5, hC, hT⟩ := PySem.W.excInit_of I.kIn hin
  have le1 : hp.objs.size ≤ hp.objs.size + 1 := Nat.le_succ _
  have n1 : H (hp.objs.size + 1) = none := I.hok.fresh le1
  have q1 := h (hp.objs.size + 1) n1
  have kk : ∀ b o, hp.get? b = some o → ((hp.push (PySem.W.kdv_tup us)).push (PySem.HandSPX.excO C hp.objs.size)).get? b = some o := fun b o e => Heap.get?_push_of_some _ (Heap.get?_push_of_some _ e)
  have g1 : ((hp.push (PySem.W.kdv_tup us)).push (PySem.HandSPX.excO C hp.objs.size)).get? (hp.objs.size + 1) = some (PySem.HandSPX.excO C hp.objs.size) := by heap_get
  have I2 : Inv X pins σ (upd H (hp.objs.size + 1) (exo (hp.objs.size + 1) C none)) ⟨(hp.push (PySem.W.kdv_tup us)).push (PySem.HandSPX.excO C hp.objs.size), g, dr, t0, os⟩ :=
    I.laid (t' := t0) (a := hp.objs.size + 1) (o := exo (hp.objs.size + 1) C none) (h' := (hp.push (PySem.W.kdv_tup us)).push (PySem.HandSPX.excO C hp.objs.size)) kk le1 (exo_ok g1)
  have r2 : Vals (V.ref (hp.objs.size + 1) :: zs) (Value.ref (hp.objs.size + 1) :: ws) := .cons rfl hV
  have hR2 : Room k (X.A.under (.builtin "type.__call__" ⟨.ref C :: us, kw⟩)) := by
    have d1 : (X.A.under (.builtin "type.__call__" ⟨.ref C :: us, kw⟩)).depth = X.A.depth + 1 := by
      first | rfl | simp [Around.under, Code.weight, Code.isCreation, Code.isGuard, Code.isCaller, Code.frames, Code.isFrame, guardIds]
    have d2 : (X.A.under (.builtin "type.__call__" ⟨.ref C :: us, kw⟩)).units = X.A.units + 1 := by
      first | rfl | simp [Around.under, Code.cUnits, Code.frames, Code.isFrame]
    exact ⟨hR.hd, by have := hR.dp; rw [d1]; omega, by have := hR.un; rw [d2]; omega⟩
  have e0 := I2.env0
  have e1 : Env0 X.prog X.w X.K X.mg X.base (X.A.under (.builtin "type.__call__" ⟨.ref C :: us, kw⟩)) X.stack ⟨(hp.push (PySem.W.kdv_tup us)).push (PySem.HandSPX.excO C hp.objs.size), g, dr, t0, os⟩ (upd H (hp.objs.size + 1) (exo (hp.objs.size + 1) C none)) :=
    ⟨by first | exact e0.frames | (simpa [Around.under, Code.envs, Code.isFrame, pushEnvs] using e0.frames), e0.mod, e0.bs, e0.bsz, e0.funs, e0.frf, e0.hok, e0.bare⟩
  refine wpAny_call (PySem.Gk.call_kw FB hT hC (PySem.W.looks_findIn I.kIn N.at_) (fun self => PySem.W.bind_fn I.kIn self N.ty) hl
    (codeAny_mono (F.run _ X.stack _ _ ⟨Value.ref (hp.objs.size + 1) :: us, kw⟩ (Value.ref (hp.objs.size + 1) :: ws) _ _ E hR2 e1 (hB _ _ I2.kIn) r2 q1) fun r s' hq' => ?_))
  match r, hq' with
  | .error er, hq' => exact hx pins σ _ _ er s' I2 hq'
  | .ok (.ret u), hq' =>
    obtain ⟨v, H', I3, rv, ev, q3⟩ := I2.after hq'
    subst ev
    exact ⟨rv, ⟨V.ref (hp.objs.size + 1), H', I3, rfl, q3⟩⟩
  | .ok .next, hq' => exact False.elim hq'
  | .ok .brk, hq' => exact False.elim hq'
  | .ok .cont, hq' => exact False.elim hq'
theorem pe_err (N : Ini X.K C f) (F : FnOk X.prog X.w X.K X.mg X.base CX k f fd ps sp) (hR : Room (k + 1) X.A) (hg : Gl X x) (hm : X.mg x = some (.ref C)) (hb : Binds X.K fd ps []) (hx : Passes CX X E)
    (ha : PA X (e :: es) t) (hdb : (x == ("__debug__" : Str)) = false := by decide) (he : starEach (e :: es) X.env = (false, eval e X.env) :: starEach es X.env := by rfl) (hpl : (backTo pos (starEach es X.env)).any (·.1) = false := by rfl) :
    PE X (.Call (.Name x p) (e :: es) [] pos) (tErr C sp [] E t) := by
  constructor
  intro pins s σ H Q I h
  refine wpAny_Call_Name_kw (ld_glob I hg hm ?_ hdb)
  refine PySem.W.callWith_K (h₀ := X.base) I.ok.mod.kin N.xc.kp (thn (ha.run pos pins s σ H _ I h) fun us s2 z2 => ?_) he hpl
  obtain ⟨vs, H2, I2, r2, hz, q2⟩ := z2
  have el : us.length ≤ sizeLine := by
    rw [← Paired.length r2, sizeLine_eq]
    omega
  refine ⟨I2.kIn, ?_⟩
  have len : ∀ self : Value, ((self :: us) ++ ([] : List Value)).length = ps.length := fun self => by
    have q3 := F.len _ _ _ _ (q2 _ (I2.hok.fresh (Nat.le_refl _)))
    rw [List.append_nil] at q3 ⊢
    rw [← q3, List.length_cons, List.length_cons, ← Paired.length r2]
  refine run_err (ws := us) (zs := vs ++ []) N F hR hx I2 el (fun s' self ki => ?_) (by rw [List.append_nil]; exact r2) q2
  have := hb s' (self :: us) ki (len self)
  rw [List.append_nil] at this
  exact this
/-- how the keywords of C(k = v, ..) reach the parameters behind self -/
structure SBinds (K : PySem.W.Frag) (fd : FuncData) (ps ks : List Str) (g : List Value → List Value) (gV : List V → List V) : Prop where
  to : ∀ (s : Shared) (self : Value) (ws : List Value), K.In s.heap → ws.length = ks.length → BindsTo s fd ⟨[self], ks.zip ws⟩ (ps.zip (self :: g ws))
  rel : ∀ {zs : List V} {ws : List Value}, Vals zs ws → Vals (gV zs) (g ws)
def tErrK (C : Addr) (sp : Sp) (n : Nat) (gV : List V → List V) (E : XK) (tk : TA) : TE := fun σ H Q => tk σ H fun zs H1 => zs.length = n ∧ ∀ a, H1 a = none → sp (.ref a :: gV zs) (upd H1 a (exo a C none)) (fun v H2 => v = .non ∧ Q (.ref a) H2) E
theorem pe_errK {g : List Value → List Value} {gV : List V → List V} (N : Ini X.K C f) (F : FnOk X.prog X.w X.K X.mg X.base CX k f fd ps sp) (hR : Room (k + 1) X.A) (hg : Gl X x) (hm : X.mg x = some (.ref C)) (hb : SBinds X.K fd ps ks g gV) (hx : Passes CX X E)
    (hkw : PK X kws tk) (hall : (backToKw pos (keywordEach kws X.env)).all (·.1.isSome) = true := by rfl) (hks : (backToKw pos (keywordEach kws X.env)).filterMap (·.1) = ks := by rfl)
    (hdb : (x == ("__debug__" : Str)) = false := by decide)
    (hpl : ((backTo pos (starEach [] X.env)).any (·.1) || (backToKw pos (keywordEach kws X.env)).any (·.1.isNone)) = false := by rfl) :
    PE X (.Call (.Name x p) [] kws pos) (tErrK C sp ks.length gV E tk) := by
  constructor
  intro pins s σ H Q I h
  refine wpAny_Call_Name_kw (ld_glob I hg hm ?_ hdb)
  refine PySem.W.callWith_KW0 (first := []) (h₀ := X.base) I.ok.mod.kin N.xc.kp hall (thn (hkw.run pos pins s σ H _ I h) fun us s2 z2 => ?_) hpl
  obtain ⟨zs, H2, I2, r2, hz, q2⟩ := z2
  refine ⟨I2.kIn, ?_⟩
  rw [hks]
  have el : us.length = ks.length := by rw [← Paired.length r2]; exact hz
  exact run_err (us := []) (ws := g us) (zs := gV zs) N F hR hx I2 (Nat.zero_le _) (fun s' self ki => hb.to s' self us ki el) (hb.rel r2) q2
end
end Gd
set_option Elab.async false
set_option linter.all false
set_option maxRecDepth 100000
set_option maxHeartbeats 4000000
namespace Gd
open PySem PySem.Spec PyProof.Rows L2
open PySem.W (excInitIn excOver excTail)
theorem ErrAt.obj {P : Program} {w : World} {H : Hp} {h : Heap} {a C : Addr} {fs : List (Str × V)} (hok : HOk P w H h) (e : ErrAt H a C fs) :
    ∃ (ox od : Obj) (mA : Str → Option Value), PySem.W.InstAt h a ox C (some od) ∧ (∀ name, PySem.W.lookIn name od = some (mA name)) ∧ ∀ f, RelO (fs.lookup f) (mA f) := by
  obtain ⟨d, e1, e2⟩ := e
  obtain ⟨t1, ho⟩ := exo_at hok e1
  obtain ⟨mA, hns, rel⟩ := exd_at hok e2
  obtain ⟨od, hod, hl⟩ := lookIn_ns hns
  exact ⟨_, od, mA, ⟨ho, rfl, rfl, hod⟩, hl, rel⟩
/-- e.f of such an instance -/
def tEf (K : PySem.W.Frag) (f : Str) (te : TE) : TE := fun σ H Q => te σ H fun x H1 => ∃ (a C : Addr) (fs : List (Str × V)) (v : V), x = .ref a ∧ XC K C ∧ PySem.W.findIn K (.ref C) f = some none ∧ ErrAt H1 a C fs ∧ fs.lookup f = some v ∧ Q v H1
theorem pe_ef {X : Cx} {e : Expr} {te : TE} {pos : Pos} {f : Str} (he : PE X e te) (hb : attributeBase e f X.env (eval e X.env) = eval e X.env := by rfl) : PE X (.Attribute e f pos) (tEf X.K f te) := by
  constructor
  intro pins s σ H Q I h
  refine attr_of hb (thn (he.run pins s σ H _ I h) fun u s1 z => ?_)
  obtain ⟨x, H1, I1, rx, a, C, fs, v, ex, T, hno, ea, l, q⟩ := z
  subst ex
  have eu : u = Value.ref a := rx
  subst eu
  obtain ⟨ox, od, mA, J, hl, rel⟩ := ea.obj I1.hok
  obtain ⟨u2, hu, ru⟩ := RelO.some_of (v := v) (o := mA f) (by rw [← l]; exact rel f)
  exact HandSPX.exc_get I1.kIn J T.ga T.gg T.sB (PySem.W.findObj_own T.hd hno rfl (by rw [hl, hu])) (handed_of ru) ⟨v, H1, I1.tok _, ru, q⟩
/-- isinstance(e, c) of such an instance, or of one without fields -/
def rIsX (K : PySem.W.Frag) : List V → Hp → VK → Prop := fun xs H Q => ∃ (a C : Addr) (c : V) (u : Value) (b : Bool), xs = [.ref a, c] ∧ ClsV c u ∧ XC K C ∧ ((∃ fs, ErrAt H a C fs) ∨ H a = some (ExO (.ref C) a)) ∧ PySem.W.kitOne K (.ref C) u = some b ∧ Q (.bl b) H
theorem call_isX {X : Cx} : CallR X (.builtin "isinstance") (rIsX X.K) := by
  intro pins s σ H xs us Q I r h
  obtain ⟨a, C, c, u, b, rfl, k, T, ea, e, q⟩ := h
  obtain ⟨u1, u2, rfl, r1, r2⟩ := vals2 r
  have e2 := k.eq r2
  subst e2
  have e1 : u1 = Value.ref a := r1
  subst e1
  have hcl : (PySem.W.clsIn X.K C).isSome = true := by
    obtain ⟨cd, hc, _⟩ := PySem.W.any_some T.hd
    rw [hc]
    rfl
  rcases ea with ⟨fs, ea⟩ | ea
  · obtain ⟨ox, od, mA, J, hl, rel⟩ := ea.obj I.hok
    exact PySem.W.kia_one (PySem.W.kitx_exc hcl T.ga T.gg T.sB T.ca T.cn T.ct T.mo) I.kIn J e (fun z => nomatch z) fun tk => ⟨.bl b, H, I.tok tk, rfl, q⟩
  · obtain ⟨⟨oe, vs, ho, hz, hd, _⟩, _, _⟩ := (show ObjOk X.prog X.w H s.heap a (ExO (.ref C) a) from I.hok a _ ea)
    have J : PySem.W.InstAt s.heap a oe C none := by
      obtain ⟨oc, od, oda, osl⟩ := oe
      obtain ⟨h1, h2⟩ := hz
      dsimp only at h1 h2 hd
      subst h1 h2 hd
      exact ⟨ho, rfl, rfl, trivial⟩
    exact PySem.W.kia_one (PySem.W.kitx_exc hcl T.ga T.gg T.sB T.ca T.cn T.ct T.mo) I.kIn J e (fun z => nomatch z) fun tk => ⟨.bl b, H, I.tok tk, rfl, q⟩
/-- C() of a class without an __init__ of its own -/
theorem pe_err0 {X : Cx} {C : Addr} {bmB : List Value} {B nid iid : String} {x : Str} {p pos : Pos} (F : ExcBaseFacts B nid iid bmB) (q : PySem.W.excIn X.K C bmB nid = true) (gC : X.mg x = some (.ref C)) (kC : PySem.W.keepIn X.K (.ref C) = true) (hg : Gl X x)
    (hdb : (x == ("__debug__" : Str)) = false := by decide) : PE X (.Call (.Name x p) [] [] pos) (fun _ H Q => ∀ a, H a = none → Q (.ref a) (upd H a (ExO (.ref C) a))) := by
  constructor
  intro pins s σ H Q I h
  refine wpAny_Call_Name_kw (ld_glob I hg gC ?_ hdb)
  refine PySem.W.callWith_K0 I.kIn kC ?_
  show wpAny _ _ (call (.ref C) []) _ _ _
  obtain ⟨bm, N, nm, qn, bs, hdct, sn, sub, ab, col, dd, k0, k1, k2, k3, k5, mN, hC, hN, hni, T⟩ := exc_obj I.kIn q
  refine wpAny_call_exc_subT F T hC hN hni (fun h' a hm => ?_) (Nat.zero_le _)
  have hn : H a = none := I.hok.gone hm.new
  obtain ⟨t, ht, _, _⟩ := hm.there
  exact ⟨.ref a, upd H a (ExO (.ref C) a), I.laidN hm.keeps hm.new hn (exO_ok ht ⟨rfl, rfl⟩ rfl rfl rfl (show 4 < 6 by decide)), rfl, h a hn⟩
/-! ### list.count of a bool among bools -/
theorem countU {us : List Value} {bs : List Bool} (r : Vals (bs.map V.bl) us) : us.countP (eqU (.bl true)) = bs.count true := by
  induction bs generalizing us with
  | nil => cases r; rfl
  | cons b bs ih =>
    cases r with
    | cons r1 r2 =>
      rw [List.countP_cons, List.count_cons, ih r2, eqU_of r1 rfl]
      cases b <;> rfl
theorem mt_bcount {X : Cx} : MtR X "list.count" (fun x xs H Q => ∃ (p : Addr) (bs : List Bool), x = .ref p ∧ xs = [.bl true] ∧ SqL X.K H p (bs.map V.bl) ∧ Q (.int (bs.count true : Nat)) H) := by
  intro pins s σ H x xs v us Q I rx rxs h
  obtain ⟨p, bs, rfl, rfl, hs, q⟩ := h
  cases rx
  obtain ⟨u, rfl, ru⟩ := rxs.one
  obtain ⟨its, rv, ⟨⟨cls, dd, data, sl⟩, n, ho, hc, hdn, hd⟩, hlen⟩ := I.list hs
  simp only at hc hd
  subst hc hd
  have fl : (bs.map V.bl).all flatV = true := by
    rw [List.all_map, List.all_eq_true]
    intro b _
    rfl
  refine call_meets PySem.F.slot_list_count ⟨_, ho, rfl⟩ PySem.F.entry_list_count (PySem.F.args_list_count_2 _ _)
    (SeqAt.list_countAt p its.toArray n dd sl u (eqU (.bl true))) ⟨ho, fun y hy => mem_eqAt ru rfl rv fl y (by simpa using hy), ?_⟩
  have ec : its.toArray.toList.countP (eqU (.bl true)) = bs.count true := countU rv
  refine ⟨.int (bs.count true : Nat), H, I.tok _, ⟨s.toks, ?_⟩, q⟩
  show Value.int ((its.toArray.toList.countP (eqU (.bl true)) : Nat) : Int) s.toks = Value.int ((bs.count true : Nat) : Int) s.toks
  rw [ec]
end Gd
set_option Elab.async false
set_option linter.all false
set_option maxRecDepth 100000
set_option maxHeartbeats 4000000
namespace Gd
open PySem PySem.Spec PyProof.Rows L2
theorem PE.imp {X : Cx} {e : Expr} {t t' : TE} (h : PE X e t) (q : ∀ σ H Q, t' σ H Q → t σ H Q) : PE X e t' := ⟨fun pins s σ H Q I z => h.run pins s σ H Q I (q σ H Q z)⟩
theorem PA.imp {X : Cx} {es : List Expr} {t t' : TA} (h : PA X es t) (q : ∀ σ H Q, t' σ H Q → t σ H Q) : PA X es t' := ⟨fun pos pins s σ H Q I z => h.run pos pins s σ H Q I (q σ H Q z)⟩
theorem same_rfl {H : Hp} : Same H H := fun _ _ e => e

/-! ### a class with one field, with two -/
def spI1 (C : Addr) (f : Str) : Sp := fun vs H Q _ => ∃ (a : Addr) (v : V), vs = [.ref a, v] ∧ H a = some (exo a C none) ∧ ∀ d, H d = none → d ≠ a → Q .non (upd (upd H d (exd d [(f, v)])) a (exo a C (some d)))
def spI2 (C : Addr) (f g : Str) : Sp := fun vs H Q _ => ∃ (a : Addr) (v u : V), vs = [.ref a, v, u] ∧ H a = some (exo a C none) ∧ ∀ d, H d = none → d ≠ a → Q .non (upd (upd (upd H d (exd d [(f, v)])) a (exo a C (some d))) d (exd d [(g, u), (f, v)]))
section
variable {P : Program} {w : World} {K : PySem.W.Frag} {mg : Str → Option Value} {base : Heap}
theorem ok_i1 {qn f : Str} {st : Stmt} {fa C : Addr} {fd : FuncData} {p1 p2 p3 p4 : Pos} (F : Fun K "__init__" qn st fa fd) (S : FnScope ["self", f] ["self", f] (defScope st)) (hb : defBody st = [.Assign [.Attribute (.Name "self" p1) f p2] (.Name f p3) p4])
    (hd : (f == ("__debug__" : Str)) = false) (hc : (f == ("__classdict__" : Str)) = false) (hs : ∀ env : Env, swapsWith (.Name f p3) (some (.Attribute (.Name "self" p1) f p2)) p4.line env = pure false) (T : XC K C) (ht : PySem.W.takerIn K C f = some none) : FnOk P w K mg base CX0 1 fa fd ["self", f] (spI1 C f) := by
  refine F.ok S (fun vs H Q E h => ?_) (fun cv A ou s H vs Q E hr h => ?_)
  · obtain ⟨a, v, rfl, _⟩ := h
    rfl
  obtain ⟨a, v, rfl, ea, q⟩ := h
  rw [hb]
  refine ⟨_, pss_one (ps_est (pe_var (i := 0) rfl ((S.par "self" (List.Mem.head _)).elim (fun z => .inl z) (fun z => .inr (.inl z)))) (pe_var (i := 1) rfl ((S.par f (.tail _ (List.Mem.head _))).elim (fun z => .inl z) (fun z => .inr (.inl z))) hd hc) (hs _)), ?_⟩
  exact ⟨v, rfl, .ref a, rfl, a, C, rfl, T, ht, .inl ⟨ea, q⟩⟩
theorem ok_i2 {qn f g : Str} {st : Stmt} {fa C : Addr} {fd : FuncData} {p1 p2 p3 p4 p5 p6 p7 p8 : Pos} (F : Fun K "__init__" qn st fa fd) (S : FnScope ["self", f, g] ["self", f, g] (defScope st))
    (hb : defBody st = [.Assign [.Attribute (.Name "self" p1) f p2] (.Name f p3) p4, .Assign [.Attribute (.Name "self" p5) g p6] (.Name g p7) p8])
    (hd : (f == ("__debug__" : Str)) = false) (hc : (f == ("__classdict__" : Str)) = false) (hd2 : (g == ("__debug__" : Str)) = false) (hc2 : (g == ("__classdict__" : Str)) = false)
    (hs : ∀ env : Env, swapsWith (.Name f p3) (some (.Attribute (.Name "self" p1) f p2)) p4.line env = pure false) (hs2 : ∀ env : Env, swapsWith (.Name g p7) (some (.Attribute (.Name "self" p5) g p6)) p8.line env = pure false)
    (T : XC K C) (ht : PySem.W.takerIn K C f = some none) (ht2 : PySem.W.takerIn K C g = some none) : FnOk P w K mg base CX0 1 fa fd ["self", f, g] (spI2 C f g) := by
  refine F.ok S (fun vs H Q E h => ?_) (fun cv A ou s H vs Q E hr h => ?_)
  · obtain ⟨a, v, u, rfl, _⟩ := h
    rfl
  obtain ⟨a, v, u, rfl, ea, q⟩ := h
  have v0 : ∀ {x : Str}, x ∈ (["self", f, g] : List Str) → Vis (defScope st) x := fun h => (S.par _ h).elim (fun z => .inl z) (fun z => .inr (.inl z))
  rw [hb]
  refine ⟨_, pss_cons (ps_est (pe_var (i := 0) rfl (v0 (by simp))) (pe_var (i := 1) rfl (v0 (by simp)) hd hc) (hs _)) (pss_one (ps_est (pe_var (i := 0) rfl (v0 (by simp))) (pe_var (i := 2) rfl (v0 (by simp)) hd2 hc2) (hs2 _))), ?_⟩
  refine ⟨v, rfl, .ref a, rfl, a, C, rfl, T, ht, .inl ⟨ea, fun d hd hda => ?_⟩⟩
  refine ⟨u, rfl, .ref a, rfl, a, C, rfl, T, ht2, .inr ⟨d, [(f, v)], upd_same, ?_, Nat.le_of_ble_eq_true rfl, q d hd hda⟩⟩
  rw [upd_ne hda, upd_same]
/-- what the law knows of a class with one field (two) -/
structure One (P : Program) (w : World) (K : PySem.W.Frag) (mg : Str → Option Value) (base : Heap) (nm f : Str) (C : Addr) : Prop where
  gl : mg nm = some (.ref C)
  ini : ∃ (fa : Addr) (fd : FuncData), Ini K C fa ∧ FnOk P w K mg base CX0 1 fa fd ["self", f] (spI1 C f) ∧ Binds K fd ["self", f] [] ∧ SBinds K fd ["self", f] [f] (fun x => x) (fun x => x)
  no : PySem.W.findIn K (.ref C) f = some none
structure Two (P : Program) (w : World) (K : PySem.W.Frag) (mg : Str → Option Value) (base : Heap) (nm f g : Str) (C : Addr) : Prop where
  gl : mg nm = some (.ref C)
  ini : ∃ (fa : Addr) (fd : FuncData), Ini K C fa ∧ FnOk P w K mg base CX0 1 fa fd ["self", f, g] (spI2 C f g) ∧ Binds K fd ["self", f, g] [] ∧ SBinds K fd ["self", f, g] [g, f] (fun x => x.reverse) (fun x => x.reverse)
  nof : PySem.W.findIn K (.ref C) f = some none
  nog : PySem.W.findIn K (.ref C) g = some none
theorem One.xc {nm f : Str} {C : Addr} (O : One P w K mg base nm f C) : XC K C := by
  obtain ⟨_, _, N, _⟩ := O.ini
  exact N.xc
theorem Two.xc {nm f g : Str} {C : Addr} (O : Two P w K mg base nm f g C) : XC K C := by
  obtain ⟨_, _, N, _⟩ := O.ini
  exact N.xc
end
theorem made1 {H : Hp} {a d C : Addr} {f : Str} {v : V} (ha : H a = none) (hd : upd H a (exo a C none) d = none) (n : d ≠ a) :
    Same H (upd (upd (upd H a (exo a C none)) d (exd d [(f, v)])) a (exo a C (some d))) ∧ ErrAt (upd (upd (upd H a (exo a C none)) d (exd d [(f, v)])) a (exo a C (some d))) a C [(f, v)] := by
  rw [upd_ne n] at hd
  refine ⟨fun b o e => ?_, d, upd_same, ?_⟩
  · rw [upd_ne (ne_of_none e ha), upd_ne (ne_of_none e hd), upd_ne (ne_of_none e ha)]
    exact e
  · rw [upd_ne n, upd_same]
theorem made2 {H : Hp} {a d C : Addr} {f g : Str} {v u : V} (ha : H a = none) (hd : upd H a (exo a C none) d = none) (n : d ≠ a) :
    Same H (upd (upd (upd (upd H a (exo a C none)) d (exd d [(f, v)])) a (exo a C (some d))) d (exd d [(g, u), (f, v)])) ∧ ErrAt (upd (upd (upd (upd H a (exo a C none)) d (exd d [(f, v)])) a (exo a C (some d))) d (exd d [(g, u), (f, v)])) a C [(g, u), (f, v)] := by
  rw [upd_ne n] at hd
  refine ⟨fun b o e => ?_, d, ?_, upd_same⟩
  · rw [upd_ne (ne_of_none e hd), upd_ne (ne_of_none e ha), upd_ne (ne_of_none e hd), upd_ne (ne_of_none e ha)]
    exact e
  · rw [upd_ne n.symm, upd_same]
/-- C(x), C(f = x), x a name: a new instance -/
def tOne (C : Addr) (f : Str) (j : Nat) : TE := fun σ H Q => ∃ v, σ[j]? = some (some v) ∧ ∀ a H', Same H H' → H a = none → ErrAt H' a C [(f, v)] → Q (.ref a) H'
def tTwo (C : Addr) (f g : Str) (i j : Nat) : TE := fun σ H Q => ∃ v u, σ[i]? = some (some v) ∧ σ[j]? = some (some u) ∧ ∀ a H', Same H H' → H a = none → ErrAt H' a C [(g, u), (f, v)] → Q (.ref a) H'
section
variable {X : Cx} {nm f g : Str} {C : Addr} {e e2 : Expr} {i j : Nat} {p pos k1 k2 : Pos}
theorem pe_one (O : One X.prog X.w X.K X.mg X.base nm f C) (hR : Room 2 X.A) (hg : Gl X nm) (he : PE X e (tVar j)) (hdb : (nm == ("__debug__" : Str)) = false := by decide) (hs : starEach [e] X.env = (false, eval e X.env) :: starEach [] X.env := by rfl)
    (hpl : (backTo pos (starEach [] X.env)).any (·.1) = false := by rfl) : PE X (.Call (.Name nm p) [e] [] pos) (tOne C f j) := by
  obtain ⟨fa, fd, N, F, b, sb⟩ := O.ini
  refine PE.imp (pe_err N F hR hg O.gl b pass0 (pa_cons he pa_nil hs) hdb hs hpl) fun σ H Q z => ?_
  obtain ⟨v, hv, q⟩ := z
  refine ⟨v, hv, Nat.le_of_ble_eq_true rfl, fun a ha => ⟨a, v, rfl, upd_same, fun d hd hda => ⟨rfl, ?_⟩⟩⟩
  obtain ⟨m1, m2⟩ := made1 (f := f) (v := v) ha hd hda
  exact q a _ m1 ha m2
theorem pe_oneK (O : One X.prog X.w X.K X.mg X.base nm f C) (hR : Room 2 X.A) (hg : Gl X nm) (he : PE X e (tVar j)) (hdb : (nm == ("__debug__" : Str)) = false := by decide)
    (hall : (backToKw pos (keywordEach [⟨some f, e, k1⟩] X.env)).all (·.1.isSome) = true := by rfl) (hks : (backToKw pos (keywordEach [⟨some f, e, k1⟩] X.env)).filterMap (·.1) = [f] := by rfl)
    (hpl : ((backTo pos (starEach [] X.env)).any (·.1) || (backToKw pos (keywordEach [⟨some f, e, k1⟩] X.env)).any (·.1.isNone)) = false := by rfl) : PE X (.Call (.Name nm p) [] [⟨some f, e, k1⟩] pos) (tOne C f j) := by
  obtain ⟨fa, fd, N, F, b, sb⟩ := O.ini
  refine PE.imp (pe_errK N F hR hg O.gl sb pass0 (pk_cons he pk_nil) hall hks hdb hpl) fun σ H Q z => ?_
  obtain ⟨v, hv, q⟩ := z
  refine ⟨v, hv, rfl, fun a ha => ⟨a, v, rfl, upd_same, fun d hd hda => ⟨rfl, ?_⟩⟩⟩
  obtain ⟨m1, m2⟩ := made1 (f := f) (v := v) ha hd hda
  exact q a _ m1 ha m2
theorem pe_two (O : Two X.prog X.w X.K X.mg X.base nm f g C) (hR : Room 2 X.A) (hg : Gl X nm) (he : PE X e (tVar i)) (he2 : PE X e2 (tVar j)) (hdb : (nm == ("__debug__" : Str)) = false := by decide) (hs : starEach [e, e2] X.env = (false, eval e X.env) :: starEach [e2] X.env := by rfl)
    (hs2 : starEach [e2] X.env = (false, eval e2 X.env) :: starEach [] X.env := by rfl) (hpl : (backTo pos (starEach [e2] X.env)).any (·.1) = false := by rfl) : PE X (.Call (.Name nm p) [e, e2] [] pos) (tTwo C f g i j) := by
  obtain ⟨fa, fd, N, F, b, sb⟩ := O.ini
  refine PE.imp (pe_err N F hR hg O.gl b pass0 (pa_cons he (pa_cons he2 pa_nil hs2) hs) hdb hs hpl) fun σ H Q z => ?_
  obtain ⟨v, u, hv, hu, q⟩ := z
  refine ⟨v, hv, u, hu, Nat.le_of_ble_eq_true rfl, fun a ha => ⟨a, v, u, rfl, upd_same, fun d hd hda => ⟨rfl, ?_⟩⟩⟩
  obtain ⟨m1, m2⟩ := made2 (f := f) (g := g) (v := v) (u := u) ha hd hda
  exact q a _ m1 ha m2
theorem pe_twoK (O : Two X.prog X.w X.K X.mg X.base nm f g C) (hR : Room 2 X.A) (hg : Gl X nm) (he : PE X e (tVar i)) (he2 : PE X e2 (tVar j)) (hdb : (nm == ("__debug__" : Str)) = false := by decide)
    (hall : (backToKw pos (keywordEach [⟨some g, e2, k1⟩, ⟨some f, e, k2⟩] X.env)).all (·.1.isSome) = true := by rfl) (hks : (backToKw pos (keywordEach [⟨some g, e2, k1⟩, ⟨some f, e, k2⟩] X.env)).filterMap (·.1) = [g, f] := by rfl)
    (hpl : ((backTo pos (starEach [] X.env)).any (·.1) || (backToKw pos (keywordEach [⟨some g, e2, k1⟩, ⟨some f, e, k2⟩] X.env)).any (·.1.isNone)) = false := by rfl) : PE X (.Call (.Name nm p) [] [⟨some g, e2, k1⟩, ⟨some f, e, k2⟩] pos) (tTwo C f g i j) := by
  obtain ⟨fa, fd, N, F, b, sb⟩ := O.ini
  refine PE.imp (pe_errK N F hR hg O.gl sb pass0 (pk_cons he2 (pk_cons he pk_nil)) hall hks hdb hpl) fun σ H Q z => ?_
  obtain ⟨v, u, hv, hu, q⟩ := z
  refine ⟨u, hu, v, hv, rfl, fun a ha => ⟨a, v, u, rfl, upd_same, fun d hd hda => ⟨rfl, ?_⟩⟩⟩
  obtain ⟨m1, m2⟩ := made2 (f := f) (g := g) (v := v) (u := u) ha hd hda
  exact q a _ m1 ha m2
end
/-! ### a row of such: instances of Cs with the field f holding v -/
abbrev Er (H : Hp) (f : Str) (v : V) (x : V) (C : Addr) : Prop := ∃ a, x = .ref a ∧ ErrAt H a C [(f, v)]
abbrev Errs (H : Hp) (f : Str) (v : V) (xs : List V) (Cs : List Addr) : Prop := Paired (Er H f v) xs Cs
theorem Errs.keep {H H' : Hp} {f : Str} {v : V} {xs : List V} {Cs : List Addr} (h : Errs H f v xs Cs) (s : Same H H') : Errs H' f v xs Cs :=
  Paired.mapP h fun x C ⟨a, e, k⟩ => ⟨a, e, k.keep s⟩
theorem Errs.app {H : Hp} {f : Str} {v : V} : ∀ {xs : List V} {Cs : List Addr} {ys : List V} {Ds : List Addr}, Errs H f v xs Cs → Errs H f v ys Ds → Errs H f v (xs ++ ys) (Cs ++ Ds)
  | _, _, _, _, .nil, h => h
  | _, _, _, _, .cons r t, h => .cons r (Errs.app t h)
def tOnes (f : Str) (j : Nat) (Cs : List Addr) : TA := fun σ H Q => ∃ v, σ[j]? = some (some v) ∧ ∀ xs H', Same H H' → Errs H' f v xs Cs → Q xs H'
theorem po_nil1 {X : Cx} {f : Str} {j : Nat} : PA X [] (tOnes f j []) := PA.imp pa_nil fun σ H Q ⟨v, _, q⟩ => q [] H same_rfl .nil
theorem po_cons1 {X : Cx} {f : Str} {j : Nat} {C : Addr} {Cs : List Addr} {e : Expr} {es : List Expr} (he : PE X e (tOne C f j)) (hr : PA X es (tOnes f j Cs)) (hs : starEach (e :: es) X.env = (false, eval e X.env) :: starEach es X.env := by rfl) :
    PA X (e :: es) (tOnes f j (C :: Cs)) :=
  PA.imp (pa_cons he hr hs) fun σ H Q ⟨v, hv, q⟩ => ⟨v, hv, fun a H1 s1 n1 e1 => ⟨v, hv, fun xs H2 s2 e2 => q _ H2 (s1.trans s2) (.cons ⟨a, rfl, e1.keep s2⟩ e2)⟩⟩
/-! ### isinstance asked of one name, for a row of classes -/
def IsAt (K : PySem.W.Frag) (H : Hp) (x : V) (C : Addr) : Prop := ∃ a, x = .ref a ∧ XC K C ∧ ((∃ fs, ErrAt H a C fs) ∨ H a = some (ExO (.ref C) a))
theorem IsAt.keep {K : PySem.W.Frag} {H H' : Hp} {x : V} {C : Addr} (h : IsAt K H x C) (s : Same H H') : IsAt K H' x C := by
  obtain ⟨a, e, T, q⟩ := h
  refine ⟨a, e, T, ?_⟩
  rcases q with ⟨fs, q⟩ | q
  · exact .inl ⟨fs, q.keep s⟩
  · exact .inr (s _ _ q)
def tIss (K : PySem.W.Frag) (j : Nat) (us : List Value) : TA := fun σ H Q => ∃ (x : V) (C : Addr) (bs : List Bool), σ[j]? = some (some x) ∧ IsAt K H x C ∧ us.map (PySem.W.kitOne K (.ref C)) = bs.map some ∧ Q (bs.map V.bl) H
theorem pi_nil1 {X : Cx} {j : Nat} : PA X [] (tIss X.K j []) := PA.imp pa_nil fun σ H Q ⟨x, C, bs, _, _, e, q⟩ => by
  cases bs with
  | nil => exact q
  | cons b r => cases e
theorem pi_cons1 {X : Cx} {j : Nat} {e c : Expr} {cv : V} {u : Value} {us : List Value} {es : List Expr} {p pos : Pos} (hg : Gl X "isinstance") (hm : X.mg "isinstance" = none) (he : PE X e (tVar j)) (hc : PE X c (tC cv)) (k : ClsV cv u) (hr : PA X es (tIss X.K j us))
    (hs : starEach (.Call (.Name "isinstance" p) [e, c] [] pos :: es) X.env = (false, eval (.Call (.Name "isinstance" p) [e, c] [] pos) X.env) :: starEach es X.env := by rfl) (hs1 : starEach [e, c] X.env = (false, eval e X.env) :: starEach [c] X.env := by rfl) (hs2 : starEach [c] X.env = (false, eval c X.env) :: starEach [] X.env := by rfl) (hpl : (backTo pos (starEach [c] X.env)).any (·.1) = false := by rfl) :
    PA X (.Call (.Name "isinstance" p) [e, c] [] pos :: es) (tIss X.K j (u :: us)) :=
  PA.imp (pa_cons (pe_callB call_isX hg hm boot_isinstance (pa_cons he (pa_cons hc pa_nil hs2) hs1) (by decide) (by decide) hs1 hpl) hr hs) fun σ H Q ⟨x, C, bs, hx, hi, e, q⟩ => by
    cases bs with
    | nil => cases e
    | cons b r =>
      have e1 : PySem.W.kitOne X.K (.ref C) u = some b := (List.cons.inj e).1
      have e2 : us.map (PySem.W.kitOne X.K (.ref C)) = r.map some := (List.cons.inj e).2
      obtain ⟨a, ea, T, z⟩ := hi
      subst ea
      exact ⟨.ref a, hx, a, C, cv, u, b, rfl, k, T, z, e1, .ref a, C, r, hx, ⟨a, rfl, T, z⟩, e2, q⟩
end Gd
set_option Elab.async false
set_option linter.all false
set_option maxRecDepth 100000
set_option maxHeartbeats 4000000
/-! raise C(e), C an own class of one field over any built-in base -/
namespace Gd
open PySem PySem.Spec PyProof.Rows L2
open PySem.W (excInitIn excOver excTail)
section
variable {X : Cx} {CX : CXT} {k : Nat} {f C : Addr} {fd : FuncData} {ps : List Str} {sp : Sp} {x : Str} {p pos : Pos} {e : Expr}
theorem run_rai {pins : List (Addr × Obj)} {σ : L2.St} {H : Hp} {s : Shared} {Q : XK} {us ws : List Value} {kw : List (Str × Value)} {zs : List V} (N : Ini X.K C f) (ty : PySem.W.typeIn X.K (.ref C) = some (.type "type")) (F : FnOk X.prog X.w X.K X.mg X.base CX k f fd ps sp) (hR : Room (k + 1) X.A)
    (hx : Passes CX X E0) (I : Inv X pins σ H s) (hl : us.length ≤ sizeLine) (hB : ∀ (s' : Shared) (self : Value), X.K.In s'.heap → BindsTo s' fd ⟨self :: us, kw⟩ (ps.zip (self :: ws))) (hV : Vals zs ws)
    (h : ∀ a, H a = none → sp (.ref a :: zs) (upd H a (exo a C none)) (fun v H2 => v = .non ∧ ∃ d fs, H2 a = some (exo a C (some d)) ∧ H2 d = some (exd d fs) ∧ H d = none ∧ Q (.ref C) (some d) (upd (del H2 a) d (.xd fs))) E0) : wpAny (model X.prog X.w) X.A (call (.ref C) us kw) (MkP X pins σ Q) X.xe s := by
  obtain ⟨B, nid, iid, tl, FB, SF, hin, hov⟩ := N.xc.base
  obtain ⟨hp, g, dr, t0, os⟩ := s
  obtain ⟨nm, N', qn, bs, bm, hdct, sn, sub, ab, col, dd, k0, k1, k2, k3, k5, hC, hT⟩ := PySem.W.excInit_of I.kIn hin
  have le1 : hp.objs.size ≤ hp.objs.size + 1 := Nat.le_succ _
  have n1 : H (hp.objs.size + 1) = none := I.hok.fresh le1
  have q1 := h (hp.objs.size + 1) n1
  have kk : ∀ b o, hp.get? b = some o → ((hp.push (PySem.W.kdv_tup us)).push (PySem.HandSPX.excO C hp.objs.size)).get? b = some o := fun b o e => Heap.get?_push_of_some _ (Heap.get?_push_of_some _ e)
  have g1 : ((hp.push (PySem.W.kdv_tup us)).push (PySem.HandSPX.excO C hp.objs.size)).get? (hp.objs.size + 1) = some (PySem.HandSPX.excO C hp.objs.size) := by heap_get
  have I2 : Inv X pins σ (upd H (hp.objs.size + 1) (exo (hp.objs.size + 1) C none)) ⟨(hp.push (PySem.W.kdv_tup us)).push (PySem.HandSPX.excO C hp.objs.size), g, dr, t0, os⟩ :=
    I.laid (t' := t0) (a := hp.objs.size + 1) (o := exo (hp.objs.size + 1) C none) (h' := (hp.push (PySem.W.kdv_tup us)).push (PySem.HandSPX.excO C hp.objs.size)) kk le1 (exo_ok g1)
  have r2 : Vals (V.ref (hp.objs.size + 1) :: zs) (Value.ref (hp.objs.size + 1) :: ws) := .cons rfl hV
  have hR2 : Room k (X.A.under (.builtin "type.__call__" ⟨.ref C :: us, kw⟩)) := by
    have d1 : (X.A.under (.builtin "type.__call__" ⟨.ref C :: us, kw⟩)).depth = X.A.depth + 1 := by
      first | rfl | simp [Around.under, Code.weight, Code.isCreation, Code.isGuard, Code.isCaller, Code.frames, Code.isFrame, guardIds]
    have d2 : (X.A.under (.builtin "type.__call__" ⟨.ref C :: us, kw⟩)).units = X.A.units + 1 := by
      first | rfl | simp [Around.under, Code.cUnits, Code.frames, Code.isFrame]
    exact ⟨hR.hd, by have := hR.dp; rw [d1]; omega, by have := hR.un; rw [d2]; omega⟩
  have e0 := I2.env0
  have e1 : Env0 X.prog X.w X.K X.mg X.base (X.A.under (.builtin "type.__call__" ⟨.ref C :: us, kw⟩)) X.stack ⟨(hp.push (PySem.W.kdv_tup us)).push (PySem.HandSPX.excO C hp.objs.size), g, dr, t0, os⟩ (upd H (hp.objs.size + 1) (exo (hp.objs.size + 1) C none)) :=
    ⟨by first | exact e0.frames | (simpa [Around.under, Code.envs, Code.isFrame, pushEnvs] using e0.frames), e0.mod, e0.bs, e0.bsz, e0.funs, e0.frf, e0.hok, e0.bare⟩
  refine wpAny_call (PySem.Gk.call_kw FB hT hC (PySem.W.looks_findIn I.kIn N.at_) (fun self => PySem.W.bind_fn I.kIn self N.ty) hl
    (codeAny_mono (F.run _ X.stack _ _ ⟨Value.ref (hp.objs.size + 1) :: us, kw⟩ (Value.ref (hp.objs.size + 1) :: ws) _ _ E0 hR2 e1 (hB _ _ I2.kIn) r2 q1) fun r s' hq' => ?_))
  match r, hq' with
  | .error er, hq' => exact hx pins σ _ _ er s' I2 hq'
  | .ok (.ret u), hq' =>
    obtain ⟨v, H2, os2, bare2, un2, hok2, rv, ev, d, fs, ea, ed, hd1, q2⟩ := hq'
    subst ev
    obtain ⟨h2, g2, d2, t2, os'⟩ := s'
    exact ⟨rv, mk_end (raises_own N.xc.sB ty) I le1 kk un2 hok2 os2 bare2 ea ed hd1 q2⟩
  | .ok .next, hq' => exact False.elim hq'
  | .ok .brk, hq' => exact False.elim hq'
  | .ok .cont, hq' => exact False.elim hq'
/-- C(e): one value -/
def tRai (C : Addr) (f : Str) (te : TE) : L2.St → Hp → XK → Prop := fun σ H Q => te σ H fun v H1 => ∀ d H', Same H1 H' → H1 d = none → H' d = some (.xd [(f, v)]) → Q (.ref C) (some d) H'
theorem pmk_one {nm g : Str} {te : TE} (O : One X.prog X.w X.K X.mg X.base nm g C) (ty : PySem.W.typeIn X.K (.ref C) = some (.type "type")) (hR : Room 2 X.A) (hg : Gl X nm) (he : PE X e te) (hdb : (nm == ("__debug__" : Str)) = false := by decide)
    (hs : starEach [e] X.env = (false, eval e X.env) :: starEach [] X.env := by rfl) (hpl : (backTo pos (starEach [] X.env)).any (·.1) = false := by rfl) :
    PMk X (.Call (.Name nm p) [e] [] pos) (tRai C g te) := by
  intro pins s σ H Q I h
  obtain ⟨fa, fd, N, F, b, sb⟩ := O.ini
  refine wpAny_Call_Name_kw (ld_glob I hg O.gl ?_ hdb)
  refine PySem.W.callWith_K (h₀ := X.base) I.ok.mod.kin N.xc.kp (thn ((pa_cons he pa_nil hs).run pos pins s σ H (fun zs H1 => match zs with | [v] => ∀ d H', Same H1 H' → H1 d = none → H' d = some (.xd [(g, v)]) → Q (.ref C) (some d) H' | _ => False) I ?_) fun us s2 z2 => ?_) hs hpl
  · exact h
  obtain ⟨zs, H2, I2, r2, q2⟩ := z2
  obtain ⟨v, rfl, q2⟩ : ∃ v, zs = [v] ∧ ∀ d H', Same H2 H' → H2 d = none → H' d = some (.xd [(g, v)]) → Q (.ref C) (some d) H' := by
    match zs, q2 with
    | [v], q2 => exact ⟨v, rfl, q2⟩
  obtain ⟨u, rfl, ru⟩ := vals1 r2
  refine ⟨I2.kIn, ?_⟩
  refine run_rai (ws := [u]) (zs := [v]) N ty F hR pass0 I2 (by rw [sizeLine_eq]; exact (by decide : 1 ≤ 16777216)) (fun s' self ki => ?_) (.cons ru .nil) fun a na => ?_
  · have := b s' [self, u] ki rfl
    rw [List.append_nil] at this
    exact this
  · refine ⟨a, v, rfl, upd_same, fun d nd n => ⟨rfl, d, [(g, v)], upd_same, ?_, ?_, ?_⟩⟩
    · rw [upd_ne n, upd_same]
    · rw [upd_ne n] at nd
      exact nd
    · have nd' : H2 d = none := by rw [upd_ne n] at nd; exact nd
      refine q2 d _ (fun b o eb => ?_) nd' upd_same
      rw [upd_ne (ne_of_none eb nd'), del_ne (ne_of_none eb na), upd_ne (ne_of_none eb na), upd_ne (ne_of_none eb nd'), upd_ne (ne_of_none eb na)]
      exact eb
end
end Gd
set_option Elab.async false
set_option linter.all false
set_option maxRecDepth 100000
set_option maxHeartbeats 4000000
/-! own error classes of one field, their facts as Bools -/
namespace Gd
open PySem PySem.Spec PyProof.Rows L2
structure Xd where
  nm : Str
  ba : Nat
  f : Str
def xtl : Nat → List Value
  | 0 => [.type "ValueError", .type "Exception", .type "BaseException", .type "object"]
  | 1 => [.type "LookupError", .type "Exception", .type "BaseException", .type "object"]
  | _ => [.type "ArithmeticError", .type "Exception", .type "BaseException", .type "object"]
def xnid : Nat → String
  | 0 => "ValueError.__new__"
  | 1 => "LookupError.__new__"
  | _ => "ArithmeticError.__new__"
def xclB (K : PySem.W.Frag) (C : Addr) (b : Nat) : Bool :=
  PySem.W.excInitIn K C (xtl b) (xnid b) && (PySem.W.excOver K C (xtl b) && (PySem.W.hasDictIn K C && (He.eqO (PySem.W.findIn K (.ref C) "__setattr__") (some (some (.builtin "object.__setattr__"))) &&
  (He.eqO (PySem.W.findIn K (.ref C) "__getattribute__") (some (some (.builtin "BaseException.__getattribute__"))) && (He.eqO (PySem.W.findIn K (.ref C) "__getattr__") (some none) && (decide (PySem.W.subIn K (.ref C) (.type "BaseException") = some true) &&
  (He.eqO (PySem.W.findIn K (.ref C) "__class__") (some (some (.builtin "object.__class__"))) && (He.eqO (PySem.W.specialIn K (.builtin "object.__class__") "__get__") (some (some (.builtin "getset_descriptor.__get__"))) &&
  (decide (PySem.W.takesIn K (.builtin "object.__class__") = some true) && (decide (PySem.W.mroIn K C (.type "object") = some true) && PySem.W.keepIn K (.ref C)))))))))))
def xdB (K : PySem.W.Frag) (d : Xd) : Bool := (He.Fa.glo d.nm).ok K && (xclB K (He.ga K d.nm) d.ba && (He.eqO (PySem.W.takerIn K (He.ga K d.nm) d.f) (some none) && (He.eqO (PySem.W.findIn K (.ref (He.ga K d.nm)) d.f) (some none) &&
  (He.eqO (PySem.W.findIn K (.ref (He.ga K d.nm)) "__init__") (some (some (.ref (He.ma K (He.ga K d.nm) "__init__")))) && (decide (PySem.W.typeIn K (.ref (He.ma K (He.ga K d.nm) "__init__")) = some (.type "function")) && decide (PySem.W.typeIn K (.ref (He.ga K d.nm)) = some (.type "type")))))))
section
variable {P : Program} {w : World} {K : PySem.W.Frag} {mg : Str → Option Value} {base : Heap} {h : Heap}
theorem xcl_of {C : Addr} {b : Nat} (q : xclB K C b = true) : XC K C := by
  obtain ⟨q1, q⟩ := He.ba q
  obtain ⟨q2, q⟩ := He.ba q
  obtain ⟨q3, q⟩ := He.ba q
  obtain ⟨q4, q⟩ := He.ba q
  obtain ⟨q5, q⟩ := He.ba q
  obtain ⟨q6, q⟩ := He.ba q
  obtain ⟨q7, q⟩ := He.ba q
  obtain ⟨q8, q⟩ := He.ba q
  obtain ⟨q9, q⟩ := He.ba q
  obtain ⟨q10, q⟩ := He.ba q
  obtain ⟨q11, q12⟩ := He.ba q
  refine ⟨?_, q3, He.eqO_ok q4, He.eqO_ok q5, He.eqO_ok q6, of_decide_eq_true q7, He.eqO_ok q8, He.eqO_ok q9, of_decide_eq_true q10, of_decide_eq_true q11, q12⟩
  match b, q1, q2 with
  | 0, q1, q2 => exact ⟨_, _, _, _, PySem.F.excBase_ValueError, PySem.F.store_ValueError, q1, q2⟩
  | 1, q1, q2 => exact ⟨_, _, _, _, PySem.F.excBase_LookupError, PySem.F.store_LookupError, q1, q2⟩
  | n + 2, q1, q2 => exact ⟨_, _, _, _, PySem.F.excBase_ArithmeticError, PySem.F.store_ArithmeticError, q1, q2⟩
theorem xd_glo {d : Xd} (q : xdB K d = true) : (He.Fa.glo d.nm).ok K = true := (He.ba q).1
theorem xd_xc {d : Xd} (q : xdB K d = true) : XC K (He.ga K d.nm) := xcl_of (He.ba (He.ba q).2).1
theorem xd_no {d : Xd} (q : xdB K d = true) : PySem.W.findIn K (.ref (He.ga K d.nm)) d.f = some none := He.eqO_ok (He.ba (He.ba (He.ba (He.ba q).2).2).2).1
theorem xd_ty {d : Xd} (q : xdB K d = true) : PySem.W.typeIn K (.ref (He.ga K d.nm)) = some (.type "type") := of_decide_eq_true (He.ba (He.ba (He.ba (He.ba (He.ba (He.ba q).2).2).2).2).2).2
theorem xd_one {nm f qn : Str} {b : Nat} {st : Stmt} {fd : FuncData} {p1 p2 p3 p4 : Pos} (X : K.In h) (G : h.Ns mainGlobals mg) (q : xdB K ⟨nm, b, f⟩ = true) (F : Fun K "__init__" qn st (He.ma K (He.ga K nm) "__init__") fd)
    (S : FnScope ["self", f] ["self", f] (defScope st)) (hb : defBody st = [.Assign [.Attribute (.Name "self" p1) f p2] (.Name f p3) p4])
    (hd : (f == ("__debug__" : Str)) = false) (hc : (f == ("__classdict__" : Str)) = false) (hs : ∀ env : Env, swapsWith (.Name f p3) (some (.Attribute (.Name "self" p1) f p2)) p4.line env = pure false)
    (b1 : ∀ (kV doc pm : Value) (an : Option Addr) (cdv ct : Value) (us : List Value), us.length = 2 → bindArgs (PySem.W.fnOf "__init__" qn (defArgs st) (defBody st) (defScope st) .none kV doc pm an cdv ct) ⟨us, []⟩ = pure ((["self", f] : List Str).zip us))
    (b2 : ∀ (kV doc pm : Value) (an : Option Addr) (cdv ct self v : Value), bindArgs (PySem.W.fnOf "__init__" qn (defArgs st) (defBody st) (defScope st) .none kV doc pm an cdv ct) ⟨[self], [(f, v)]⟩ = pure [(("self" : Str), self), (f, v)]) : One P w K mg base nm f (He.ga K nm) := by
  have T := xd_xc q
  obtain ⟨_, q'⟩ := He.ba q
  obtain ⟨_, q'⟩ := He.ba q'
  obtain ⟨t1, q'⟩ := He.ba q'
  obtain ⟨t2, q'⟩ := He.ba q'
  obtain ⟨i1, q'⟩ := He.ba q'
  obtain ⟨i2, _⟩ := He.ba q'
  refine ⟨He.glo_ok X G (xd_glo q), ⟨_, fd, ⟨T, He.eqO_ok i1, of_decide_eq_true i2⟩, ok_i1 F S hb hd hc hs T (He.eqO_ok t1), F.binds b1, ⟨fun s self ws _ hl => ?_, fun z => z⟩⟩, He.eqO_ok t2⟩
  obtain ⟨oc, od, kV, doc, pm, an, cdv, ct, osl, rfl, lk, hcd⟩ := F.ex
  match ws, hl with
  | [v], _ => exact .of_eq (b2 kV doc pm an cdv ct self v)
end
end Gd
set_option Elab.async false
set_option linter.all false
set_option maxRecDepth 100000
set_option maxHeartbeats 4000000
namespace Kx
open PySem PySem.Spec PyProof.Rows L2 Gd
def topS (i : Nat) : Stmt := PySem.Challenge.pw_fivetrees_k03_schemas_refused.main.body.getD i (.Pass ⟨0, 0, 0, 0⟩)
abbrev sNum : Stmt := topS 27
abbrev sDeal : Stmt := topS 28
abbrev sPick : Stmt := topS 29
theorem scNum : FnScope ["_law_cells", "_law_k", "_law_mixed", "_law_one", "_law_more"] ["_law_cells", "_law_k"] (defScope sNum) := ⟨rfl, rfl, rfl, by decide +kernel, rfl, by decide +kernel, by decide +kernel⟩
theorem scDeal : FnScope ["_law_number_here"] ["_law_number_here"] (defScope sDeal) := ⟨rfl, rfl, rfl, by decide +kernel, rfl, by decide +kernel, by decide +kernel⟩
theorem scPick : FnScope ["_law_deal_here", "_law_many", "_law_digit", "_law_seed", "_law_turn"] ["_law_deal_here", "_law_many"] (defScope sPick) := ⟨rfl, rfl, rfl, by decide +kernel, rfl, by decide +kernel, by decide +kernel⟩
/-- three ints that deal on -/
def DealAt (H : Hp) (p : Addr) : Prop := ∃ a b c : Int, H p = some (.lst [.int a, .int b, .int c]) ∧ 0 ≤ b ∧ b < 2147483423
/-- all but p stands -/
def Sb (p : Addr) (H H' : Hp) : Prop := ∀ b o, b ≠ p → H b = some o → H' b = some o
theorem Sb.refl {p : Addr} {H : Hp} : Sb p H H := fun _ _ _ e => e
theorem Sb.trans {p : Addr} {H H1 H2 : Hp} (h : Sb p H H1) (h2 : Sb p H1 H2) : Sb p H H2 := fun b o n e => h2 b o n (h b o n e)
theorem Sb.of {p : Addr} {H H1 : Hp} (h : Same H H1) : Sb p H H1 := fun b o _ e => h b o e
theorem Sb.set {p : Addr} {H : Hp} {o : HO} : Sb p H (upd H p o) := fun b x n e => by rw [upd_ne n]; exact e
theorem same_new {H : Hp} {p : Addr} {o : HO} (h : H p = none) : Same H (upd H p o) := fun b x e => by rw [upd_ne (ne_of_none e h)]; exact e
theorem Sb.new {p q : Addr} {H : Hp} {o : HO} (h : H q = none) : Sb p H (upd H q o) := .of (same_new h)
theorem DealAt.keep {H H' : Hp} {p : Addr} (D : DealAt H p) (h : Same H H') : DealAt H' p := by
  obtain ⟨a, b, c, e, l⟩ := D
  exact ⟨a, b, c, h _ _ e, l⟩
/-- a made heap: all that stood but p stands, and a place that was free is free as long as nothing was made there -/
theorem Sb.free {p x : Addr} {H H' : Hp} (h : Sb p H H') (n : x ≠ p) (f : H' x = none) : H x = none := by
  cases e : H x with
  | none => rfl
  | some o =>
    have := h x o n e
    rw [f] at this
    cases this
section
variable {P : Program} {w : World} {K : PySem.W.Frag} {mg : Str → Option Value} {base : Heap}
def spNum (K : PySem.W.Frag) : Sp := fun vs H Q _ => ∃ (a : Addr) (ns : List Int) (k : Nat), vs = [.ref a, .int k] ∧ SqL K H a (ns.map V.int) ∧ ns.length ≤ 63 ∧ ∀ (z : Int) (H' : Hp), Same H H' → Q (.int z) H'
def spDeal : Sp := fun vs H Q _ => ∃ z : Int, vs = [.int z] ∧ ∀ (p : Addr) (H' : Hp), Same H H' → H p = none → DealAt H' p → Q (.ref p) H'
def spPick : Sp := fun vs H Q _ => ∃ (p : Addr) (m : Int), vs = [.ref p, .int m] ∧ DealAt H p ∧ 0 < m ∧ m < 1000000 ∧ ∀ (d : Int) (H' : Hp), 0 ≤ d → d < m → DealAt H' p → Sb p H H' → Q (.int d) H'
theorem ok_num {f : Addr} {fd : FuncData} (F : Fun K "_law_number" "_law_number" sNum f fd) (ml : mg "len" = none) (mi : mg "int" = none) : FnOk P w K mg base CX0 1 f fd ["_law_cells", "_law_k"] (spNum K) := by
  refine F.ok scNum (fun vs H Q E h => ?_) (fun cv A ou s H vs Q E hr h => ?_)
  · obtain ⟨a, ns, k, rfl, _⟩ := h
    rfl
  obtain ⟨a, ns, k, rfl, hS, hl, q⟩ := h
  refine ⟨_, pss_cons (ps_if (pt_cmpR op_lt (pv 1) (pe_callB call_len_seq (by rfl) ml PySem.boot_len (pa_cons (pv 0) pa_nil)) (nomark _))
      (pss_one (ps_ret (pe_callTy call_int1 (by rfl) mi boot_int (pa_cons (pe_ix ix_list (pv 0) (pv 1) (fun _ _ => rfl)) pa_nil)))) pss_nil)
    (pss_cons (ps_set (i := 2) scNum.nd rfl (.inl rfl) (pe_op op_mul pe_int (pe_op op_add (pv 1) pe_int)))
    (pss_cons (ps_for PassesOwn.never rfl (pi_list (pe_slice sl_list (pv 0) po_none (po_some pe_int))) (pg_name (i := 3) scNum.nd rfl (.inl rfl))
      (pss_cons (ps_set (i := 4) scNum.nd rfl (.inl rfl) (pe_op op_mod (pe_callTy call_int1 (by rfl) mi boot_int (pa_cons (pv 3) pa_nil)) pe_int))
      (pss_one (ps_set (i := 2) scNum.nd rfl (.inl rfl) (pe_op op_mod (pe_callTy call_int1 (by rfl) mi boot_int (pa_cons (pe_op op_add (pe_op op_add (pe_op op_mul (pv 2) pe_int) (pv 4)) (pv 1)) pa_nil)) pe_int)))))
    (pss_one (ps_ret (pv 2))))), ?_⟩
  refine ⟨.int k, rfl, .ref a, rfl, a, ns.map V.int, rfl, .inl hS, _, _, rfl, rfl, _, rfl, ite2 (fun e => ?_) (fun e => ?_)⟩
  · have hk : k < ns.length := by
      have := of_decide_eq_true e
      rw [List.length_map] at this
      omega
    refine ⟨.ref a, rfl, .int k, rfl, a, _, _, _, rfl, rfl, hS, atI_nat (j := k) (v := .int (ns[k])) (by rw [List.getElem?_map, List.getElem?_eq_getElem hk]; rfl), .inl ⟨_, rfl, ?_⟩⟩
    exact q _ H fun _ _ e => e
  refine ⟨.int k, rfl, _, _, rfl, rfl, _, _, rfl, rfl, .inl ⟨by decide, by decide⟩, ?_⟩
  refine ⟨.ref a, rfl, 6, rfl, a, _, rfl, hS, fun c nc => ?_⟩
  have s1 : Same H (upd H c (.lst (cutV (ns.map V.int) none (some 6)))) := same_new nc
  have hcut : ∃ ms : List Int, cutV (ns.map V.int) none (some 6) = ms.map V.int := by
    refine ⟨(ns.drop (HT.sIx ns.length 0 none)).take (HT.sIx ns.length ns.length (some 6) - HT.sIx ns.length 0 none), ?_⟩
    unfold cutV
    rw [List.length_map, List.map_take, List.map_drop]
  obtain ⟨ms, ems⟩ := hcut
  rw [ems] at s1 ⊢
  refine ⟨c, rfl, ⟨_, SqL.of upd_same⟩, for_list (K := K) (a := c) (xs := ms.map V.int) (fun i σ H2 => ∃ (z : Int) (o1 o2 : Option V), σ = [some (.ref a), some (.int k), some (.int z), o1, o2] ∧ H2 = upd H c (.lst (ms.map V.int)))
    ⟨_, none, none, rfl, rfl⟩ (fun i σ H2 _ ⟨_, _, _, _, e⟩ => by rw [e]; exact SqL.of upd_same) ?_ ?_⟩
  · rintro i y σ H2 hi ⟨z, o1, o2, rfl, rfl⟩
    obtain ⟨m, rfl⟩ : ∃ m, y = V.int m := by
      rw [List.getElem?_map] at hi
      cases e : ms[i]? with
      | none => rw [e] at hi; cases hi
      | some m => rw [e] at hi; exact ⟨m, (Option.some.inj hi).symm⟩
    refine ⟨.int m, rfl, .inl ⟨_, rfl, _, _, rfl, rfl, (by show (0 : Int) < 999983; decide), ?_⟩⟩
    refine ⟨_, rfl, _, _, rfl, rfl, .inr ⟨by decide, by decide⟩, _, rfl, _, _, rfl, rfl, _, rfl, _, _, rfl, rfl, .inl ⟨_, rfl, _, _, rfl, rfl, (by show (0 : Int) < 2147483423; decide), ?_⟩⟩
    exact ⟨_, _, _, rfl, rfl⟩
  · rintro σ H2 ⟨z, o1, o2, rfl, rfl⟩
    exact ⟨_, rfl, q z _ s1⟩
end
end Kx
set_option Elab.async false
set_option linter.all false
set_option maxRecDepth 100000
set_option maxHeartbeats 4000000
namespace Kx
open PySem PySem.Spec PyProof.Rows L2 Gd
section
variable {P : Program} {w : World} {K : PySem.W.Frag} {mg : Str → Option Value} {base : Heap}
theorem ok_deal {f : Addr} {fd : FuncData} (F : Fun K "_law_deal" "_law_deal" sDeal f fd) (ma : mg "abs" = none) (mi : mg "int" = none) : FnOk P w K mg base CX0 1 f fd ["_law_number_here"] spDeal := by
  refine F.ok scDeal (fun vs H Q E h => ?_) (fun cv A ou s H vs Q E hr h => ?_)
  · obtain ⟨z, rfl, _⟩ := h
    rfl
  obtain ⟨z, rfl, q⟩ := h
  refine ⟨_, pss_one (ps_ret (pe_lst (pa_cons (pe_ifExp (PW.pt (pw_or (pt_cmpR op_lt (pv 0) pe_int (nomark _)) (pw_or1 (pt_cmpR op_ge (pv 0) (pe_op op_pow pe_int pe_int) (nomark _)))))
      (pe_callB call_abs (by rfl) ma boot_abs (pa_cons (pv 0) pa_nil)) pe_int)
    (pa_cons (pe_op op_mod (pe_callTy call_int1 (by rfl) mi boot_int (pa_cons (pv 0) pa_nil)) pe_int) (pa_cons pe_int pa_nil))))), ?_⟩
  have fin : ∀ x : Int, (fun (x : V) (H1 : Hp) => tCons (tOp (rI (fun _ j => 0 < j) fun i j => .int (i % j)) (tCB (fun xs H Q => (∃ i, xs = [.int i] ∧ Q (.int i) H) ∨ ∃ k, xs = [.bl k] ∧ Q (.int (if k then 1 else 0)) H) (tCons (tVar 0) tNil)) (tC (.int 2147483423))) (tCons (tC (.int 0)) tNil) [some (.int z)] H1 fun xs H2 => (x :: xs).length ≤ sizeLine ∧ ∀ p, H2 p = none → Q (.ref p) (upd H2 p (.lst (x :: xs)))) (.int x) H := by
    intro x
    refine ⟨.int z, rfl, .inl ⟨_, rfl, _, _, rfl, rfl, (by show (0 : Int) < 2147483423; decide), (by show 3 ≤ sizeLine; decide), fun p hp => ?_⟩⟩
    exact q p _ (same_new hp) hp ⟨x, z % 2147483423, 0, upd_same, Int.emod_nonneg _ (by decide), Int.emod_lt_of_pos _ (by decide)⟩
  refine ⟨.int z, rfl, _, _, rfl, rfl, _, rfl, ite2 (fun e => iteT ?_) (fun e => ?_)⟩
  · exact ⟨.int z, rfl, _, rfl, fin _⟩
  · refine ⟨.int z, rfl, _, _, rfl, rfl, ⟨by decide, by decide, by decide⟩, _, _, rfl, rfl, _, rfl, ite2 (fun e => ?_) (fun e => ?_)⟩
    · exact ⟨.int z, rfl, _, rfl, fin _⟩
    · exact fin 0
theorem ok_pick {f : Addr} {fd : FuncData} (F : Fun K "_law_pick" "_law_pick" sPick f fd) (mi : mg "int" = none) : FnOk P w K mg base CX0 1 f fd ["_law_deal_here", "_law_many"] spPick := by
  refine F.ok scPick (fun vs H Q E h => ?_) (fun cv A ou s H vs Q E hr h => ?_)
  · obtain ⟨p, m, rfl, _⟩ := h
    rfl
  obtain ⟨p, m, rfl, ⟨a, b, c, hp, hb0, hb1⟩, m0, m1, q⟩ := h
  refine ⟨_, pss_cons (ps_asg (pe_op op_add (pe_ix ix_list (pv 0) pe_int (fun _ _ => rfl)) pe_int) (pg_sub (pv 0) pe_int set_list))
    (pss_cons (ps_if (pt_cmpR op_gt (pe_ix ix_list (pv 0) pe_int (fun _ _ => rfl)) pe_int (nomark _))
      (pss_cons (ps_set (i := 2) scPick.nd rfl (.inl rfl) (pe_op op_mod (pe_callTy call_int1 (by rfl) mi boot_int (pa_cons (pe_ix ix_list (pv 0) pe_int (fun _ _ => rfl)) pa_nil)) (pv 1)))
      (pss_cons (ps_asg (pe_op op_fdiv (pe_ix ix_list (pv 0) pe_int (fun _ _ => rfl)) (pv 1)) (pg_sub (pv 0) pe_int set_list))
      (pss_one (ps_ret (pv 2))))) pss_nil)
    (pss_cons (ps_par (i := 3) (j := 4) (by rfl) scPick.nd rfl rfl (by decide) rfl rfl (pa_cons (pe_callTy call_int1 (by rfl) mi boot_int (pa_cons (pe_ix ix_list (pv 0) pe_int (fun _ _ => rfl)) pa_nil)) (pa_cons (pe_callTy call_int1 (by rfl) mi boot_int (pa_cons (pe_ix ix_list (pv 0) pe_int (fun _ _ => rfl)) pa_nil)) pa_nil)) (by rfl))
    (pss_cons (ps_set (i := 3) scPick.nd rfl (.inl rfl) (pe_op op_mod (pe_callTy call_int1 (by rfl) mi boot_int (pa_cons (pe_op op_add (pe_op op_add (pe_op op_mul (pv 3) (pe_op op_add (pe_op op_add (pv 3) pe_int) (pe_op op_mul pe_int (pv 4)))) (pe_op op_mul pe_int (pv 4))) pe_int) pa_nil)) pe_int))
    (pss_cons (ps_asg (pv 3) (pg_sub (pv 0) pe_int set_list))
    (pss_one (ps_ret (pe_op op_mod (pe_callTy call_int1 (by rfl) mi boot_int (pa_cons (pe_op op_fdiv (pv 3) pe_int) pa_nil)) (pv 1)))))))), ?_⟩
  refine ⟨.ref p, rfl, p, _, _, .int c, rfl, rfl, SqL.of hp, rfl, _, _, rfl, rfl, .ref p, rfl, p, _, _, 2, rfl, rfl, hp, rfl, ?_⟩
  have h1 : upd H p (.lst [V.int a, .int b, .int (c + 1)]) p = some (.lst [V.int a, .int b, .int (c + 1)]) := upd_same
  have b1 : Sb p H (upd H p (.lst [V.int a, .int b, .int (c + 1)])) := .set
  refine ⟨.ref p, rfl, p, _, _, .int a, rfl, rfl, SqL.of h1, rfl, _, _, rfl, rfl, _, rfl, ite2 (fun e => ?_) (fun e => ?_)⟩
  · refine ⟨.ref p, rfl, p, _, _, .int a, rfl, rfl, SqL.of h1, rfl, .inl ⟨_, rfl, .int m, rfl, _, _, rfl, rfl, m0, ?_⟩⟩
    refine ⟨.ref p, rfl, p, _, _, .int a, rfl, rfl, SqL.of h1, rfl, .int m, rfl, _, _, rfl, rfl, ⟨m0, by omega⟩, .ref p, rfl, p, _, _, 0, rfl, rfl, h1, rfl, ?_⟩
    refine ⟨.int (a % m), rfl, ?_⟩
    exact q _ _ (Int.emod_nonneg _ (by omega)) (Int.emod_lt_of_pos _ m0) ⟨a / m, b, c + 1, upd_same, hb0, hb1⟩ (b1.trans .set)
  · refine ⟨.ref p, rfl, p, _, _, .int b, rfl, rfl, SqL.of h1, rfl, .inl ⟨_, rfl, .ref p, rfl, p, _, _, .int (c + 1), rfl, rfl, SqL.of h1, rfl, .inl ⟨_, rfl, _, _, rfl, ?_⟩⟩⟩
    refine ⟨.int b, rfl, .int b, rfl, _, _, rfl, rfl, .int (c + 1), rfl, _, _, rfl, rfl, .inl ⟨by decide, by decide⟩, _, _, rfl, rfl, _, _, rfl, rfl, .inl ⟨by omega, by omega⟩, ?_⟩
    refine ⟨.int (c + 1), rfl, _, _, rfl, rfl, .inl ⟨by decide, by decide⟩, _, _, rfl, rfl, _, _, rfl, rfl, .inl ⟨_, rfl, _, _, rfl, rfl, (by show (0 : Int) < 2147483423; decide), ?_⟩⟩
    refine ⟨_, rfl, .ref p, rfl, p, _, _, 1, rfl, rfl, h1, rfl, ?_⟩
    refine ⟨_, rfl, _, _, rfl, rfl, ⟨by decide, by decide⟩, .inl ⟨_, rfl, .int m, rfl, _, _, rfl, rfl, m0, ?_⟩⟩
    exact q _ _ (Int.emod_nonneg _ (by omega)) (Int.emod_lt_of_pos _ m0) ⟨a, _, c + 1, upd_same, Int.emod_nonneg _ (by decide), Int.emod_lt_of_pos _ (by decide)⟩ (b1.trans .set)
end
end Kx
set_option Elab.async false
set_option linter.all false
set_option maxRecDepth 100000
set_option maxHeartbeats 4000000
namespace Kx
open PySem PySem.Spec PyProof.Rows L2 Gd
abbrev sIs : Stmt := topS 17
theorem scIs : FnScope ["value", "sign"] ["value"] (defScope sIs) := ⟨rfl, rfl, rfl, by decide +kernel, rfl, by decide +kernel, by decide +kernel⟩
def lets : Str := Str.ofString "abcdefghijklmnopqrstuvwxyz"
def signs : Str := Str.ofString "abcdefghijklmnopqrstuvwxyz0123456789"
def digs : Str := Str.ofString "0123456789"
def inL (c : Nat) : Bool := decide (c ∈ lets.cps.toList)
def inN (c : Nat) : Bool := decide (c ∈ signs.cps.toList)
def inD (c : Nat) : Bool := decide (c ∈ digs.cps.toList)
theorem signs_eq : signs.cps.toList = lets.cps.toList ++ digs.cps.toList := by decide +kernel
theorem inN_eq (c : Nat) : inN c = (inL c || inD c) := by
  unfold inN inL inD
  rw [signs_eq]
  by_cases h1 : c ∈ lets.cps.toList <;> by_cases h2 : c ∈ digs.cps.toList <;> simp [h1, h2]
def nmL : List Nat → Bool
  | [] => false
  | c :: r => decide ((c :: r).length ≤ 8) && inL c && (c :: r).all inN
def nmS (z : Str) : Bool := nmL z.cps.toList
theorem len_list (z : Str) : z.cps.toList.length = z.length := by simp [Str.length]
theorem nmL_cons (c : Nat) (r : List Nat) : nmL (c :: r) = (decide ((c :: r).length ≤ 8) && inL c && (c :: r).all inN) := rfl
theorem nm_long {z : Str} (h : ¬ z.length ≤ 8) : nmS z = false := by
  have ez := len_list z
  unfold nmS
  cases ec : z.cps.toList with
  | nil => rfl
  | cons c r => rw [nmL_cons, ← ec, ez, decide_eq_false h]; rfl
theorem nm_short {z : Str} {c : Nat} {r : List Nat} (ec : z.cps.toList = c :: r) (h : z.length ≤ 8) : nmS z = (inL c && z.cps.toList.all inN) := by
  have ez := len_list z
  unfold nmS
  rw [ec, nmL_cons, ← ec, ez, decide_eq_true h]; rfl
theorem nm_empty {z : Str} (h : z.length = 0) : nmS z = false := by
  have ez := len_list z
  unfold nmS
  cases ec : z.cps.toList with
  | nil => rfl
  | cons c r => rw [ec] at ez; simp at ez; omega
theorem ne_cons {z : Str} (h : 1 ≤ z.length) : ∃ c r, z.cps.toList = c :: r := by
  have ez := len_list z
  cases ec : z.cps.toList with
  | nil => rw [ec] at ez; simp at ez; omega
  | cons c r => exact ⟨c, r, rfl⟩
/-- a comprehension over a text's signs -/
theorem lc_str {x : Str} {g : TG} {tt : TT} {te : TE} {vs : List Nat} {σ : L2.St} {H1 : Hp} {D : Addr} {Qd : Hp → Prop} (Pv : Nat → Hp → Prop) (h0 : Pv 0 (upd H1 D (.lst [])))
    (hs : ∀ i c H, x.cps.toList[i]? = some c → Pv i H → g (.str ⟨#[c]⟩) (wipe σ vs) H fun τ H2 => wipe τ vs = wipe σ vs ∧ tt τ H2 fun b H3 =>
      if b = true then te τ H3 fun y H4 => ∃ acc, H4 D = some (.lst acc) ∧ acc.length < sizeLine ∧ Pv (i + 1) (upd H4 D (.lst (acc ++ [y]))) else Pv (i + 1) H3) (hd : ∀ H, Pv x.cps.toList.length H → Qd H) :
    ∃ W : Nat → Nat → Hp → Prop, (∃ m, W 0 m (upd H1 D (.lst []))) ∧ ∀ i m H, W i m H →
      ((Its x).stop i H ∧ Qd H) ∨ ((Its x).go i H ∧ ∃ Nx : Hp → Prop, (∀ H', Nx H' → ∃ m', m' < m ∧ W (i + 1) m' H') ∧ ∀ v H', (Its x).yld i H v H' → g v (wipe σ vs) H' fun τ H2 => wipe τ vs = wipe σ vs ∧ tt τ H2 fun b H3 =>
        if b = true then te τ H3 fun y H4 => ∃ acc, H4 D = some (.lst acc) ∧ acc.length < sizeLine ∧ Nx (upd H4 D (.lst (acc ++ [y]))) else Nx H3) := by
  have el : x.cps.toList.length = x.cps.size := Array.length_toList
  refine ⟨fun i m H => i + m = x.cps.toList.length ∧ Pv i H, ⟨_, Nat.zero_add _, h0⟩, fun i m H ⟨e, p⟩ => ?_⟩
  cases m with
  | zero =>
    have e2 : i = x.cps.toList.length := e
    exact .inl ⟨(by show x.cps.size ≤ i; omega), hd H (e2 ▸ p)⟩
  | succ m =>
    refine .inr ⟨(by show i < x.cps.size; omega), Pv (i + 1), fun H' p' => ⟨m, Nat.lt_succ_self m, by omega, p'⟩, ?_⟩
    rintro v H' ⟨rfl, c, hc, rfl⟩
    exact hs i c _ (by rw [Array.getElem?_toList]; exact hc) p
theorem yes_of {σ : L2.St} {H : Hp} {Q : Bool → Hp → Prop} (h : Q true H) : tYes σ H Q := h
theorem yes_if {σ : L2.St} {H : Hp} {A B : Hp → Prop} (h : A H) : tYes σ H (fun b H3 => if b = true then A H3 else B H3) := yes_of (iteT (A := A H) (B := B H) h)
/-- the same: one name as the target, no test -/
theorem lc_strY {x : Str} {j : Nat} {te : TE} {vs : List Nat} {σ : L2.St} {H1 : Hp} {D : Addr} {Qd : Hp → Prop} (Pv : Nat → Hp → Prop) (hw : ∀ v, wipe ((wipe σ vs).set j (some v)) vs = wipe σ vs) (h0 : Pv 0 (upd H1 D (.lst [])))
    (hs : ∀ i c H, x.cps.toList[i]? = some c → Pv i H → te ((wipe σ vs).set j (some (.str ⟨#[c]⟩))) H fun y H4 => ∃ acc, H4 D = some (.lst acc) ∧ acc.length < sizeLine ∧ Pv (i + 1) (upd H4 D (.lst (acc ++ [y]))))
    (hd : ∀ H, Pv x.cps.toList.length H → Qd H) : ∃ W : Nat → Nat → Hp → Prop, (∃ m, W 0 m (upd H1 D (.lst []))) ∧ ∀ i m H, W i m H →
      ((Its x).stop i H ∧ Qd H) ∨ ((Its x).go i H ∧ ∃ Nx : Hp → Prop, (∀ H', Nx H' → ∃ m', m' < m ∧ W (i + 1) m' H') ∧ ∀ v H', (Its x).yld i H v H' → gName j v (wipe σ vs) H' fun τ H2 => wipe τ vs = wipe σ vs ∧ tYes τ H2 fun b H3 =>
        if b = true then te τ H3 fun y H4 => ∃ acc, H4 D = some (.lst acc) ∧ acc.length < sizeLine ∧ Nx (upd H4 D (.lst (acc ++ [y]))) else Nx H3) :=
  lc_str Pv h0 (fun i c H e p => ⟨hw _, yes_if (hs i c H e p)⟩) hd
section
variable {P : Program} {w : World} {K : PySem.W.Frag} {mg : Str → Option Value} {base : Heap}
/-- what the top holds that is_name reads -/
structure TI0 (mg : Str → Option Value) : Prop where
  isi : mg "isinstance" = none
  str : mg "str" = none
  len : mg "len" = none
  all : mg "all" = none
  LET : ∃ t, mg "LETTERS" = some (.str lets t)
  SIG : ∃ t, mg "NAME_SIGNS" = some (.str signs t)
  LON : ∃ t, mg "LONGEST_NAME" = some (.int 8 t)
def spIs (K : PySem.W.Frag) : Sp := fun vs H Q _ => ∃ v, vs = [v] ∧
  ((∃ z, v = .str z ∧ z.length ≤ 1000 ∧ ∀ H', Same H H' → Q (.bl (nmS z)) H') ∨ (∃ t, TyX K H v t ∧ PySem.W.kitOne K t (.type "str") = some false ∧ Q (.bl false) H))
theorem ok_is {f : Addr} {fd : FuncData} (F : Fun K "is_name" "is_name" sIs f fd) (T : TI0 mg) : FnOk P w K mg base CX0 1 f fd ["value"] (spIs K) := by
  refine F.ok scIs (fun vs H Q E h => ?_) (fun cv A ou s H vs Q E hr h => ?_)
  · obtain ⟨v, rfl, _⟩ := h
    rfl
  obtain ⟨v, rfl, h⟩ := h
  obtain ⟨t1, mL⟩ := T.LET
  obtain ⟨t2, mS⟩ := T.SIG
  obtain ⟨t3, mN⟩ := T.LON
  refine ⟨_, pss_cons (ps_if (PW.pt (pw_or (pt_not (pt_val (pe_callB call_isi (by rfl) T.isi boot_isinstance (pa_cons (pv 0) (pa_cons (pe_bltn (v := .ty "str") (by rfl) T.str boot_str rfl) pa_nil)))))
        (pw_or1 (pt_not (pt_chain op_le op_le pe_int (pe_callB call_len_str (by rfl) T.len PySem.boot_len (pa_cons (pv 0) pa_nil)) (pe_glob (v := .int 8) (by rfl) mN ⟨_, rfl⟩))))))
      (pss_one (ps_ret pe_bl)) pss_nil)
    (pss_one (ps_ret (pe_and (pe_cmpR op_in_sign (pe_ix ix_str (pv 0) pe_int (fun _ _ => rfl)) (pe_glob (v := .str lets) (by rfl) mL ⟨_, rfl⟩) rfl)
      (pe_one (pe_callB (cr_all rfl) (by rfl) T.all boot_all (pa_cons (pe_lc (own := [("sign", 1)]) (g := gName 1) (tt := tYes) rfl scIs.nd (pi_str (pv 0)) (blkOk_by (own := [("sign", 1)]) (N := ["value", "sign"]) (sc := defScope sIs) (by decide +kernel))
        (fun _ _ _ _ _ => pg_name (i := 1) scIs.nd rfl (Or.inl rfl)) (fun _ _ _ _ _ => pts_nil) (fun _ _ _ _ _ => pe_cmpR op_in_sign (pv 1) (pe_glob (v := .str signs) (by rfl) mS ⟨_, rfl⟩) rfl)) pa_nil)))))), ?_⟩
  rcases h with ⟨z, rfl, hz, q⟩ | ⟨t, ty, ek, q⟩
  · refine ⟨.str z, rfl, .str z, .ty "str", _, _, true, rfl, .ty "str", .base (.str z), kit_ty (by decide +kernel), _, rfl, iteF ?_⟩
    have ez := len_list z
    refine ⟨.str z, rfl, z, rfl, small1000 hz |> Nat.le_of_lt, ?_⟩
    refine ⟨_, _, rfl, rfl, _, rfl, ite2 (fun e1 => ?_) (fun e1 => ?_)⟩
    · have h1 : 1 ≤ z.length := by have := of_decide_eq_true e1; omega
      refine ⟨_, _, rfl, rfl, _, rfl, ite2 (fun e2 => ?_) (fun e2 => ?_)⟩
      · -- longer than eight
        have h2 : ¬ z.length ≤ 8 := fun h => by
          have e3 : decide ((z.length : Int) ≤ 8) = true := decide_eq_true (by omega)
          rw [e3] at e2
          cases e2
        have eq : nmS z = false := nm_long h2
        have q2 := q H fun _ _ e => e
        rw [eq] at q2
        exact q2
      · have h2 : z.length ≤ 8 := by
          by_cases h : z.length ≤ 8
          · exact h
          · refine absurd ?_ e2
            rw [decide_eq_false (show ¬ (z.length : Int) ≤ 8 by omega)]
            rfl
        obtain ⟨c, r, ec⟩ := ne_cons h1
        have en : nmS z = (inL c && z.cps.toList.all inN) := nm_short ec h2
        refine ⟨.str z, rfl, z, 0, c, rfl, rfl, Nat.le_of_lt (small1000 hz), atI_nat (j := 0) (by rw [ec]; rfl), c, lets, rfl, rfl, _, rfl, ite2 (fun e3 => ?_) (fun e3 => ?_)⟩
        · refine ⟨.str z, rfl, z, rfl, fun D nD => lc_strY (x := z) (fun i H2 => Same H H2 ∧ H2 D = some (.lst ((z.cps.toList.take i).map fun c => V.bl (inN c)))) (fun _ => rfl) ⟨same_new nD, upd_same⟩ ?_ ?_⟩
          · rintro i y H2 hi ⟨s2, eD⟩
            refine ⟨_, rfl, y, signs, rfl, rfl, _, eD, ?_, ?_, ?_⟩
            · rw [List.length_map, List.length_take]
              exact small1000 (by omega)
            · intro b o e
              rw [upd_ne (ne_of_none e nD)]
              exact s2 b o e
            · rw [upd_same, List.take_add_one, hi]
              simp [inN]
          · rintro H2 ⟨s2, eD⟩
            rw [List.take_length] at eD
            refine ⟨D, z.cps.toList.map inN, rfl, SqL.of (by rw [eD, List.map_map]; rfl), ?_⟩
            have q2 := q H2 s2
            rw [en] at q2
            have : (inL c && z.cps.toList.all inN) = (z.cps.toList.map inN).all id := by
              rw [show inL c = true from e3, Bool.true_and, List.all_map]
              rfl
            rw [this] at q2
            exact q2
        · have q2 := q H fun _ _ e => e
          rw [en, show inL c = false from Bool.eq_false_iff.mpr e3, Bool.false_and] at q2
          exact q2
    · have h1 : z.length = 0 := by
        by_cases h : z.length = 0
        · exact h
        · exact absurd (decide_eq_true (by omega)) e1
      have eq : nmS z = false := nm_empty h1
      have q2 := q H fun _ _ e => e
      rw [eq] at q2
      exact ⟨_, rfl, iteT q2⟩
  · refine ⟨v, rfl, v, .ty "str", t, .type "str", false, rfl, .ty "str", ty, ek, _, rfl, iteT (iteT q)⟩
end
end Kx
set_option Elab.async false
set_option linter.all false
set_option maxRecDepth 100000
set_option maxHeartbeats 4000000
namespace Kx
open PySem PySem.Spec PyProof.Rows L2 Gd
abbrev sWord : Stmt := topS 30
theorem scWord : FnScope ["_law_deal_here", "_law_taken", "_law_letters", "_law_way", "_law_word_here", "_law_k", "_law_tail"] ["_law_deal_here", "_law_taken"] (defScope sWord) := ⟨rfl, rfl, rfl, by decide +kernel, rfl, by decide +kernel, by decide +kernel⟩
/-! ### names -/
theorem str_app (x y : Str) : (x ++ y).cps.toList = x.cps.toList ++ y.cps.toList := by rw [PySem.Str.cps_append, Array.toList_append]
theorem nm_of {z : Str} {c : Nat} {r : List Nat} (e : z.cps.toList = c :: r) (hc : inL c = true) (hr : ∀ d ∈ r, inN d = true) (hl : r.length ≤ 7) : nmS z = true := by
  unfold nmS
  rw [e, nmL_cons, hc, List.all_cons, inN_eq c, hc, Bool.true_or, List.all_eq_true.mpr hr, decide_eq_true (by rw [List.length_cons]; omega)]
  rfl
theorem nm_len {z : Str} (h : nmS z = true) : 1 ≤ z.length ∧ z.length ≤ 8 := by
  refine ⟨?_, ?_⟩
  · by_cases h0 : z.length = 0
    · rw [nm_empty h0] at h
      cases h
    · omega
  · by_cases h8 : z.length ≤ 8
    · exact h8
    · rw [nm_long h8] at h
      cases h
def wk (k : Nat) : Str := Str.ofString "w" ++ ((toString (k : Int) : String) : Str)
theorem wk_nm : ∀ k : _root_.Fin 50, nmS (wk k.1) = true := by decide +kernel
theorem wk_len : ∀ k : _root_.Fin 50, (wk k.1).length ≤ 3 ∧ ((toString ((k.1 : Nat) : Int) : String) : Str).length ≤ 3 := by decide +kernel
theorem wk_nd : ((List.range 50).map wk).Nodup := by decide +kernel
theorem nd_le : ∀ (l ts : List Str), l.Nodup → (∀ x ∈ l, x ∈ ts) → l.length ≤ ts.length
  | [], _, _, _ => Nat.zero_le _
  | x :: r, ts, nd, h => by
    have hx : x ∈ ts := h x (List.mem_cons_self ..)
    have nd2 := List.nodup_cons.mp nd
    have := nd_le r (ts.erase x) nd2.2 fun y hy => (List.mem_erase_of_ne (fun e => nd2.1 (by rw [← e]; exact hy))).mpr (h y (List.mem_cons_of_mem _ hy))
    rw [List.length_erase_of_mem hx] at this
    have p : 0 < ts.length := List.length_pos_of_mem hx
    rw [List.length_cons]
    omega
theorem wk_new {ts : List Str} (hl : ts.length ≤ 40) (h : ∀ j, j < ts.length → wk j ∈ ts) : wk ts.length ∉ ts := by
  intro hm
  have nd : ((List.range (ts.length + 1)).map wk).Nodup := by
    have e : (List.range 50).map wk = (List.range (ts.length + 1)).map wk ++ ((List.range' (ts.length + 1) (49 - ts.length)).map wk) := by
      rw [← List.map_append]
      congr 1
      have : (50 : Nat) = (ts.length + 1) + (49 - ts.length) := by omega
      rw [this, List.range_eq_range', List.range_eq_range', ← List.range'_append_1]
      simp
    have n := wk_nd
    rw [e] at n
    exact (List.nodup_append.mp n).1
  have := nd_le _ ts nd fun x hx => by
    obtain ⟨j, hj, rfl⟩ := List.mem_map.mp hx
    have hj := List.mem_range.mp hj
    by_cases e : j = ts.length
    · rw [e]; exact hm
    · exact h j (by omega)
  rw [List.length_map, List.length_range] at this
  omega
theorem inV_str (z : Str) (ts : List Str) : inV (.str z) (ts.map V.str) = decide (z ∈ ts) := by
  unfold inV
  rw [List.any_map]
  induction ts with
  | nil => rfl
  | cons t r ih =>
    rw [List.any_cons, ih]
    by_cases e : t = z
    · subst e
      simp [eqV]
    · have : ¬ z = t := fun q => e q.symm
      simp [eqV, e, this]
theorem all_flat (ts : List Str) : (ts.map V.str).all flatV = true := by
  rw [List.all_map, List.all_eq_true]
  intro x _
  rfl
def words7 : List Str := [Str.ofString "kind", Str.ofString "make", Str.ofString "a", Str.ofString "b", Str.ofString "ab", Str.ofString "one", Str.ofString "x0"]
theorem words7_nm : ∀ z ∈ words7, nmS z = true := by decide +kernel
theorem sign_L : ∀ d : _root_.Fin 26, ∃ c, signs.cps.toList[d.1]? = some c ∧ inL c = true := by decide +kernel
theorem sign_N {d : Nat} (h : d < 36) : ∃ c, signs.cps.toList[d]? = some c ∧ inN c = true := by
  have hl : d < signs.cps.toList.length := by
    rw [show signs.cps.toList.length = 36 by decide +kernel]
    exact h
  exact ⟨_, List.getElem?_eq_getElem hl, decide_eq_true (List.getElem_mem hl)⟩
theorem join_signs : ∀ cs : List Nat, (Txt.join (Str.ofString "") (cs.map fun c => (⟨#[c]⟩ : Str))).cps.toList = cs := by
  intro cs
  rw [TL.join_eq]
  induction cs with
  | nil => rfl
  | cons c r ih =>
    cases r with
    | nil => rfl
    | cons d r =>
      show (((⟨#[c]⟩ : Str) ++ Str.ofString "") ++ Str.join (Str.ofString "") (((d :: r).map fun c => (⟨#[c]⟩ : Str)))).cps.toList = _
      rw [str_app, ih]
      rfl
theorem ones_sum : ∀ cs : List Nat, ((cs.map fun c => (⟨#[c]⟩ : Str)).map (·.length)).sum = cs.length
  | [] => rfl
  | c :: r => by
    rw [List.map_cons, List.map_cons, List.sum_cons, ones_sum r]
    show 1 + r.length = r.length + 1
    omega
end Kx
set_option Elab.async false
set_option linter.all false
set_option maxRecDepth 100000
set_option maxHeartbeats 4000000
namespace Kx
open PySem PySem.Spec PyProof.Rows L2 Gd
/-- a comprehension over a range: one name as the target, no test -/
theorem lc_rangeY {n j : Nat} {te : TE} {vs : List Nat} {σ : L2.St} {H1 : Hp} {D : Addr} {Qd : Hp → Prop} (Pv : Nat → Hp → Prop) (hw : ∀ v, wipe ((wipe σ vs).set j (some v)) vs = wipe σ vs) (h0 : Pv 0 (upd H1 D (.lst [])))
    (hs : ∀ i H, i < n → Pv i H → te ((wipe σ vs).set j (some (.int (0 + (i : Int))))) H fun y H4 => ∃ acc, H4 D = some (.lst acc) ∧ acc.length < sizeLine ∧ Pv (i + 1) (upd H4 D (.lst (acc ++ [y]))))
    (hd : ∀ H, Pv n H → Qd H) : ∃ W : Nat → Nat → Hp → Prop, (∃ m, W 0 m (upd H1 D (.lst []))) ∧ ∀ i m H, W i m H →
      ((Itr 0 n).stop i H ∧ Qd H) ∨ ((Itr 0 n).go i H ∧ ∃ Nx : Hp → Prop, (∀ H', Nx H' → ∃ m', m' < m ∧ W (i + 1) m' H') ∧ ∀ v H', (Itr 0 n).yld i H v H' → gName j v (wipe σ vs) H' fun τ H2 => wipe τ vs = wipe σ vs ∧ tYes τ H2 fun b H3 =>
        if b = true then te τ H3 fun y H4 => ∃ acc, H4 D = some (.lst acc) ∧ acc.length < sizeLine ∧ Nx (upd H4 D (.lst (acc ++ [y]))) else Nx H3) :=
  lc_range Pv h0 (fun i H e p => ⟨hw _, yes_if (hs i H e p)⟩) hd
/-- what follows a statement, shown once -/
theorem seq_join {t u : TS} {D : Ends} {σ : L2.St} {H : Hp} (R : L2.St → Hp → Prop) (hR : ∀ σ H, R σ H → u D σ H) (h : (∀ σ H, R σ H → u D σ H) → t { D with nx := u D } σ H) : tSeq t u D σ H := h hR
section
variable {P : Program} {w : World} {K : PySem.W.Frag} {mg : Str → Option Value} {base : Heap}
structure TW0 (mg : Str → Option Value) : Prop where
  len : mg "len" = none
  str : mg "str" = none
  range : mg "range" = none
def spWord : Sp := fun vs H Q _ => ∃ (p q : Addr) (ts : List Str), vs = [.ref p, .ref q] ∧ DealAt H p ∧ H q = some (.lst (ts.map V.str)) ∧ q ≠ p ∧ ts.length ≤ 40 ∧
  ∀ (z : Str) (H' : Hp), nmS z = true → z ∉ ts → DealAt H' p → Sb p H H' → Q (.str z) H'
theorem ok_word {f fp : Addr} {fd fdp : FuncData} (F : Fun K "_law_word" "_law_word" sWord f fd) (T : TW0 mg) (GP : FnOk P w K mg base CX0 1 fp fdp ["_law_deal_here", "_law_many"] spPick) (kp : PySem.W.keepIn K (.ref fp) = true)
    (bP : Binds K fdp ["_law_deal_here", "_law_many"] []) (gP : mg "_law_pick" = some (.ref fp)) : FnOk P w K mg base CX0 2 f fd ["_law_deal_here", "_law_taken"] spWord := by
  refine F.ok scWord (fun vs H Q E h => ?_) (fun cv A ou s H vs Q E hr h => ?_)
  · obtain ⟨p, q, ts, rfl, _⟩ := h
    rfl
  obtain ⟨p, q, ts, rfl, hD, hq, nqp, hl, k⟩ := h
  refine ⟨_, pss_cons (ps_set (i := 2) scWord.nd rfl (.inr rfl) pe_str)
    (pss_cons (ps_par (i := 3) (j := 4) (by rfl) scWord.nd rfl rfl (by decide) rfl rfl
      (pa_cons (pe_call GP hr (by rfl) gP kp bP .nil pass0 (pa_cons (pv 0) (pa_cons pe_int pa_nil)))
      (pa_cons (pe_ix ix_list (pe_lst (pa_cons pe_str (pa_cons pe_str (pa_cons pe_str (pa_cons pe_str (pa_cons pe_str (pa_cons pe_str (pa_cons pe_str pa_nil))))))))
        (pe_call GP hr (by rfl) gP kp bP .nil pass0 (pa_cons (pv 0) (pa_cons pe_int pa_nil))) (fun _ _ => rfl)) pa_nil)) (by rfl))
    (pss_cons (ps_if (pt_cmpR op_gt (pv 3) pe_int (nomark _))
      (pss_cons (ps_setLc (i := 6) (own := [("_law_k", 5)]) (g := gName 5) (tt := tYes) (by rfl) scWord.nd rfl rfl (sw_true rfl rfl rfl (by decide +kernel))
          (pi_range1 rfl T.range (pa_cons (pe_ix ix_list (pe_lst (pa_cons pe_int (pa_cons pe_int (pa_cons pe_int pa_nil)))) (pe_op op_sub (pv 3) pe_int) (fun _ _ => rfl)) pa_nil))
          (blkOk_by (own := [("_law_k", 5)]) (N := ["_law_deal_here", "_law_taken", "_law_letters", "_law_way", "_law_word_here", "_law_k", "_law_tail"]) (sc := defScope sWord) (by decide +kernel))
          (fun _ _ _ _ _ => pg_name (i := 5) scWord.nd rfl (Or.inl rfl)) (fun _ _ _ _ _ => pts_nil)
          (fun _ _ _ _ _ => pe_ix ix_str (pv 2) (pe_call GP hr (by rfl) gP kp bP .nil pass0 (pa_cons (pv 0) (pa_cons pe_int pa_nil))) (fun _ _ => rfl)))
      (pss_one (ps_set (i := 4) scWord.nd rfl (.inl rfl) (pe_op op_add_str (pe_ix ix_str (pv 2) (pe_call GP hr (by rfl) gP kp bP .nil pass0 (pa_cons (pv 0) (pa_cons pe_int pa_nil))) (fun _ _ => rfl)) (pe_join pe_str (pv 6)))))) pss_nil)
    (pss_cons (ps_for PassesOwn.never rfl (pi_range1 rfl T.range (pa_cons (pe_op op_add (pe_callB call_len_seq (by rfl) T.len PySem.boot_len (pa_cons (pv 1) pa_nil)) pe_int) pa_nil)) (pg_name (i := 5) scWord.nd rfl (.inl rfl))
      (pss_cons (ps_if (pt_cmpR op_notIn_seq (pv 4) (pv 1) (by rfl)) (pss_one (ps_ret (pv 4))) pss_nil)
      (pss_one (ps_set (i := 4) scWord.nd rfl (.inl rfl) (pe_op op_add_str pe_str (pe_callTy call_str_int (by rfl) T.str boot_str (pa_cons (pv 5) pa_nil)))))))
    (pss_one (ps_ret (pv 4)))))), ?_⟩
  refine ⟨.ref p, rfl, p, 4, rfl, hD, by decide, by decide, fun d1 H1 l1 u1 D1 b1 => ?_⟩
  have q1 : H1 q = some (.lst (ts.map V.str)) := b1 q _ nqp hq
  refine ⟨(by show 7 ≤ sizeLine; decide), fun L nL => ?_⟩
  have nLp : L ≠ p := by
    obtain ⟨_, _, _, e, _⟩ := D1
    exact fun e2 => by rw [e2, e] at nL; cases nL
  have s1 : Same H1 (upd H1 L (.lst [V.str "kind", .str "make", .str "a", .str "b", .str "ab", .str "one", .str "x0"])) := same_new nL
  refine ⟨.ref p, rfl, p, 7, rfl, D1.keep s1, by decide, by decide, fun d2 H2 l2 u2 D2 b2 => ?_⟩
  have L2 : H2 L = some (.lst [V.str "kind", .str "make", .str "a", .str "b", .str "ab", .str "one", .str "x0"]) := b2 L _ nLp upd_same
  have q2 : H2 q = some (.lst (ts.map V.str)) := b2 q _ nqp (s1 q _ q1)
  have B2 : Sb p H H2 := b1.trans ((Sb.of s1).trans b2)
  obtain ⟨z0, e0, h0⟩ : ∃ z, ([V.str "kind", .str "make", .str "a", .str "b", .str "ab", .str "one", .str "x0"])[d2.toNat]? = some (V.str z) ∧ nmS z = true := by
    have hd : d2.toNat < words7.length := by show d2.toNat < 7; omega
    refine ⟨words7[d2.toNat], ?_, words7_nm _ (List.getElem_mem hd)⟩
    show (words7.map V.str)[d2.toNat]? = _
    rw [List.getElem?_map, List.getElem?_eq_getElem hd]
    rfl
  refine ⟨L, _, d2, .str z0, rfl, rfl, SqL.of L2, at_of (j := d2.toNat) (by omega) e0, V.int d1, .str z0, rfl, ?_⟩
  dsimp only
  refine seq_join (fun σ H3 => ∃ (z : Str) (o5 o6 : Option V), σ = [some (.ref p), some (.ref q), some (.str signs), some (.int d1), some (.str z), o5, o6] ∧ nmS z = true ∧ DealAt H3 p ∧ Sb p H H3) ?_ fun rest => ?_
  · rintro σ H3 ⟨z, o5, o6, rfl, hz, D3, B3⟩
    have q3 := B3 q _ nqp hq
    refine ⟨.ref q, rfl, q, ts.map V.str, rfl, .inl (SqL.of q3), _, _, rfl, rfl, _, rfl, ?_, ?_, ?_⟩
    · rw [List.length_map]; omega
    · rw [List.length_map]; omega
    have en : (((ts.map V.str).length : Int) + 1).toNat = ts.length + 1 := by rw [List.length_map]; omega
    rw [en]
    refine for_range (n := ts.length + 1) (fun i σ H' => ∃ (z : Str) (o5 : Option V), σ = [some (.ref p), some (.ref q), some (.str signs), some (.int d1), some (.str z), o5, o6] ∧ nmS z = true ∧ H' = H3 ∧ (i = 0 ∨ z = wk (i - 1)) ∧ ∀ j, j + 1 < i → wk j ∈ ts)
      ⟨z, o5, rfl, hz, rfl, .inl rfl, fun j h => by omega⟩ ?_ ?_
    · rintro i σ H' hi ⟨z, o5, rfl, hz, rfl, hw, hj⟩
      refine ⟨.str z, rfl, .ref q, rfl, q, ts.map V.str, rfl, .inl (SqL.of q3), rfl, all_flat ts, _, rfl, ?_⟩
      rw [inV_str]
      by_cases hm : z ∈ ts
      · rw [decide_eq_true hm]
        have hi2 : i < 50 := by omega
        have n3 : (Str.ofString (toString (i : Int))).length ≤ 3 := (wk_len ⟨i, hi2⟩).2
        refine iteF ⟨_, rfl, _, rfl, ?_, _, _, rfl, rfl, ?_, wk i, some (.int (0 + (i : Int))), ?_, wk_nm ⟨i, hi2⟩, rfl, .inr rfl, fun j h => ?_⟩
        · have : ((0 : Int) + i).natAbs = i := by omega
          rw [this]
          exact Nat.lt_of_le_of_lt (Nat.log2_le_self i) (by omega)
        · rw [Int.zero_add]
          exact Nat.le_of_lt (small1000 (by show 1 + _ ≤ 1000; omega))
        · rw [Int.zero_add]
          rfl
        · by_cases e : j + 1 < i
          · exact hj j e
          · have e2 : j = i - 1 := by omega
            subst e2
            rcases hw with h0 | hw
            · omega
            · rw [← hw]; exact hm
      · rw [decide_eq_false hm]
        exact iteT ⟨.str z, rfl, k z _ hz hm D3 B3⟩
    · rintro σ H' ⟨z, o5, rfl, hz, rfl, hw, hj⟩
      have ez : z = wk ts.length := by
        rcases hw with h | h
        · omega
        · exact h
      subst ez
      exact ⟨_, rfl, k _ _ hz (wk_new hl fun j h => hj j (by omega)) D3 B3⟩
  refine ⟨_, rfl, _, _, rfl, rfl, _, rfl, ite2 (fun e => ?_) (fun e => ?_)⟩
  · have hd1 : 0 < d1 := of_decide_eq_true e
    -- the range's length
    refine ⟨(by show 3 ≤ sizeLine; decide), fun M nM => ?_⟩
    have nMp : M ≠ p := by
      obtain ⟨_, _, _, e, _⟩ := D2
      exact fun e2 => by rw [e2, e] at nM; cases nM
    have s3 : Same H2 (upd H2 M (.lst [V.int 1, .int 2, .int 7])) := same_new nM
    obtain ⟨n, en, hn⟩ : ∃ n : Nat, ([V.int 1, .int 2, .int 7])[(d1 - 1).toNat]? = some (V.int n) ∧ n ≤ 7 := by
      have : d1 = 1 ∨ d1 = 2 ∨ d1 = 3 := by omega
      rcases this with rfl | rfl | rfl
      · exact ⟨1, rfl, by omega⟩
      · exact ⟨2, rfl, by omega⟩
      · exact ⟨7, rfl, by omega⟩
    refine ⟨.int d1, rfl, _, _, rfl, rfl, M, _, d1 - 1, .int n, rfl, rfl, SqL.of upd_same, at_of (j := (d1 - 1).toNat) (by omega) en, _, rfl, by omega, by omega, fun D nD => ?_⟩
    have nDp : D ≠ p := by
      obtain ⟨_, _, _, e, _⟩ := D2
      exact fun e2 => by rw [e2, s3 _ _ e] at nD; cases nD
    have B3 : Sb p H (upd (upd H2 M (.lst [V.int 1, .int 2, .int 7])) D (.lst [])) := B2.trans ((Sb.of s3).trans (.new nD))
    refine lc_rangeY (n := n) (fun i H4 => ∃ cs : List Nat, DealAt H4 p ∧ Sb p H H4 ∧ H4 D = some (.lst ((cs.map fun c => (⟨#[c]⟩ : Str)).map V.str)) ∧ cs.length = i ∧ ∀ c ∈ cs, inN c = true) (fun _ => rfl)
      ⟨[], (D2.keep s3).keep (same_new nD), B3, upd_same, rfl, fun c h => by cases h⟩ ?_ ?_
    · rintro i H4 hi ⟨cs, D4, B4, e4, l4, n4⟩
      refine ⟨.str signs, rfl, .ref p, rfl, p, 36, rfl, D4, by decide, by decide, fun d5 H5 l5 u5 D5 b5 => ?_⟩
      obtain ⟨c, ec, nc⟩ := sign_N (d := d5.toNat) (by omega)
      have e5 := b5 D _ nDp e4
      refine ⟨signs, d5, c, rfl, rfl, by decide +kernel, by rw [show d5 = ((d5.toNat : Nat) : Int) by omega]; exact atI_nat ec, _, e5, ?_, cs ++ [c], ?_, ?_, ?_, ?_, ?_⟩
      · rw [List.length_map, List.length_map]
        exact small1000 (by omega)
      · obtain ⟨x, y, u, e, l⟩ := D5
        exact ⟨x, y, u, by rw [upd_ne nDp.symm]; exact e, l⟩
      · intro b o n e
        by_cases eb : b = D
        · subst eb
          exact absurd (B2.trans (Sb.of s3) b o n e) (by rw [nD]; simp)
        · rw [upd_ne eb]
          exact b5 b o n (B4 b o n e)
      · rw [upd_same, List.map_append, List.map_append]
        rfl
      · rw [List.length_append, l4]
        rfl
      · intro x hx
        rcases List.mem_append.mp hx with h | h
        · exact n4 x h
        · rw [List.mem_singleton.mp h]; exact nc
    · rintro H4 ⟨cs, D4, B4, e4, l4, n4⟩
      refine ⟨.str signs, rfl, .ref p, rfl, p, 26, rfl, D4, by decide, by decide, fun d5 H5 l5 u5 D5 b5 => ?_⟩
      obtain ⟨c, ec, nc⟩ := sign_L ⟨d5.toNat, by omega⟩
      have e5 := b5 D _ nDp e4
      refine ⟨signs, d5, c, rfl, rfl, by decide +kernel, by rw [show d5 = ((d5.toNat : Nat) : Int) by omega]; exact atI_nat ec, ⟨_, rfl⟩, .ref D, rfl, _, D, _, rfl, rfl, .inl (SqL.of e5), ?_, _, _, rfl, rfl, ?_, ?_⟩
      · rw [ones_sum, List.length_map]
        show cs.length + cs.length * 0 ≤ 16777216
        omega
      · have := len_list (Txt.join (Str.ofString "") (cs.map fun c => (⟨#[c]⟩ : Str)))
        rw [join_signs] at this
        rw [← this]
        exact Nat.le_of_lt (small1000 (by show 1 + _ ≤ 1000; omega))
      · refine rest _ _ ⟨_, _, _, rfl, nm_of (c := c) (r := cs) ?_ nc n4 (by omega), D5, B4.trans b5⟩
        rw [str_app, join_signs]
        rfl
  · exact rest _ _ ⟨z0, none, none, rfl, h0, D2, B2⟩
end
end Kx
set_option Elab.async false
set_option linter.all false
set_option maxRecDepth 100000
set_option maxHeartbeats 4000000
/-! enumerate(t), t a tuple -/
namespace Gd
open PySem PySem.Spec PyProof.Rows L2
/-- the tuple at t, each item in a new pair with its place -/
def Iet (K : PySem.W.Frag) (t : Addr) : It where
  go i H := ∃ (vs : List V) (v : V), SqT K H t vs ∧ vs[i]? = some v
  yld i H y H' := ∃ (p : Addr) (v : V), y = .ref p ∧ H p = none ∧ H' = upd H p (.tup [.int (i : Nat), v]) ∧ ∀ vs, SqT K H t vs → vs[i]? = some v
  stop i H := ∃ vs : List V, SqT K H t vs ∧ vs.length ≤ i
theorem turn_et {P : Program} {w : World} {K : PySem.W.Frag} {es : List Expr} {n : Nat} {ps : Pos} (t e j : Addr) :
    Turn P w K (.Tuple es n ps) (Iet K t) [e, j] e (fun i g => (∃ o, IsEnum g e j ((i : Nat) : Int) o) ∧ g.IsTupleIter j t i ∧ e ≠ j) := by
  refine ⟨List.mem_cons_self .., fun i g st b hb => ?_, fun i g g' st k => ?_, ?_, ?_, fun A i s Q E st q => ?_⟩
  · obtain ⟨⟨o, he⟩, ⟨oj, hj, cj, dj⟩, _⟩ := st
    rcases List.mem_cons.mp hb with rfl | hb
    · exact ⟨_, he, fun v q => nomatch q⟩
    · rw [List.mem_singleton.mp hb]
      exact ⟨oj, hj, fun v q => by rw [dj] at q; cases q⟩
  · obtain ⟨⟨o, he⟩, hj, ne⟩ := st
    exact ⟨⟨o, k e (List.mem_cons_self ..) _ he⟩, hj.at fun o q => k j (by simp) o q, ne⟩
  · intro X hP hw hK hc i pins s σ H E I hf st hg
    subst hP hw hK
    obtain ⟨⟨old, he⟩, hj, ne⟩ := st
    obtain ⟨vs, v, hq, hv⟩ := hg
    obtain ⟨its, rv, ht, _⟩ := I.tuple hq
    obtain ⟨u, hu, ru⟩ := rv.get hv
    have le : e < s.heap.objs.size := Heap.lt_size he
    have lj : j < s.heap.objs.size := by obtain ⟨_, q, _⟩ := hj; exact Heap.lt_size q
    have tup : s.heap.IsTuple t its.toArray := ht
    have nt : e ≠ t := fun q => by
      obtain ⟨o, ho, hcl, _⟩ := tup
      rw [← q, he] at ho
      cases ho
      exact absurd (Value.type.inj hcl) (by decide)
    have njt : t ≠ j := fun q => by
      obtain ⟨o, ho, hcl, _⟩ := tup
      obtain ⟨o2, ho2, hcl2, _⟩ := hj
      rw [q, ho2] at ho
      cases ho
      rw [hcl2] at hcl
      exact absurd (Value.type.inj hcl) (by decide)
    have D := Draws.tuple (prog := X.prog) (w := X.w) (A := X.A.in1) (show X.A.in1.handled = none from I.ok.hd hc) j t njt its.toArray
    have hlt : i < its.toArray.size := by
      have := (List.getElem?_eq_some_iff.mp hu).1
      simpa using this
    refine wpAny_pyNext_enum_itemD D he ⟨hj, tup⟩ hlt ne (by simp [ne, nt]) fun x h1 tk hx out st1 hT hsz hk => ?_
    have ex : x = u := by
      have h2 : its[i]? = some x := by simpa using hx
      rw [hu] at h2
      exact (Option.some.inj h2).symm
    subst ex
    refine ⟨_, rfl, wpAny_letOwnedTupleGo_enum (s := { s with heap := h1, toks := tk + 1 }) out fun h2 he2 sb => ?_⟩
    have T2 : h2.get? s.heap.objs.size = some { cls := .type "tuple", data := .seq #[.int i tk, x] } := (sb.2 _ (Nat.ne_of_gt le)).trans hT
    have new : ObjOk X.prog X.w (upd H s.heap.objs.size (.tup [.int (i : Nat), v])) h2 s.heap.objs.size (.tup [.int (i : Nat), v]) := by
      refine ⟨?_, [.int i tk, x], .cons ⟨_, rfl⟩ (.cons ru .nil), _, T2, rfl, _, rfl⟩
      show 2 ≤ sizeLine
      decide
    have in2 : ∀ b : Addr, b ∈ [e, j] → b = e ∨ b = j := fun b hb => by simpa using hb
    have J : Inv X pins σ (upd H s.heap.objs.size (.tup [.int (i : Nat), v])) { s with heap := h2, toks := tk + 1 } := by
      refine I.turnedNew (ch := [e, j]) (fun b o hb q => ?_) hf (Nat.le_refl _) new
      have n1 : b ≠ e := fun z => hb (by simp [z])
      have n2 : b ≠ j := fun z => hb (by simp [z])
      exact (sb.2 b n1).trans (hk b o n1 n2 q)
    refine ⟨.ref s.heap.objs.size, _, J, rfl, ⟨_, v, rfl, I.hok.fresh (Nat.le_refl _), rfl, fun ys hy => ?_⟩, ⟨⟨x, ?_⟩, st1.1.at fun o q => (sb.2 j (Ne.symm ne)).trans q, ne⟩, fun b hb => ?_⟩
    · rw [I.tuple_inj hy hq]
      exact hv
    · have q : ((i + 1 : Nat) : Int) = (i : Int) + 1 := by omega
      rw [q]
      exact he2
    · have lb : b < s.heap.objs.size := by rcases in2 b hb with z | z <;> rw [z] <;> assumption
      rw [upd_ne (Nat.ne_of_lt lb)]
      exact (hf b hb).1
  · intro X hP hw hK hc i pins s σ H E I hf st hg
    subst hP hw hK
    obtain ⟨⟨old, he⟩, hj, ne⟩ := st
    obtain ⟨vs, hq, hv⟩ := hg
    obtain ⟨its, rv, ht, _⟩ := I.tuple hq
    have tup : s.heap.IsTuple t its.toArray := ht
    obtain ⟨f0, f1, f2, f3, f4, f5⟩ := hf j (by simp)
    have ln := rv.length
    have njt : t ≠ j := fun q => by
      obtain ⟨o, ho, hcl, _⟩ := tup
      obtain ⟨o2, ho2, hcl2, _⟩ := hj
      rw [q, ho2] at ho
      cases ho
      rw [hcl2] at hcl
      exact absurd (Value.type.inj hcl) (by decide)
    refine wpAny_bind (wpAny_attempt (wpAny_callSpecial?_slot (name := Str.ofString "__next__") (T := "enumerate") ⟨_, he, rfl⟩ F.slot_enumerate_next (wpAny_call_entry F.slot_enumerate_next ⟨_, he, rfl⟩ F.entry_enumerate_next ?_ (F.args_enumerate_next_1 _))))
    show wpAny _ _ (field (.ref e) 2 >>= _) _ _ _
    refine wpAny_bind (wpAny_field he rfl (x := .ref j) rfl ?_)
    refine wpAny_bind (PySem.wpAny_nextOf_tuple_end (show X.A.in1.handled = none from I.ok.hd hc) hj tup (by simp; omega) fun h1 y sb hy => ?_)
    obtain ⟨o, ho, hcl⟩ := hy
    refine wpAny_bind (wpAny_isInstance (T := "StopIteration") (b := true) ⟨o, ho, hcl⟩ isSubtype_stop ?_)
    exact wpAny_pure ⟨rfl, I.turned (t' := s.toks) (fun b o hb q => sb b o hb q) f0 f1 f3 f4 f5⟩
  · obtain ⟨⟨_, he⟩, _⟩ := st
    exact wpAny_pyIter_enum he q
/-- enumerate.__new__ over what begins -/
theorem meets_enum1 {v : Value} {o : Obj} {S : Heap → Prop} (B : Begins v o S) :
    Meets (Builtin.«enumerate.__new__» ⟨[.type "enumerate", v], []⟩) (fun _ R s => S s.heap ∧
      R (.ok (.ret (.ref (s.heap.push o).objs.size))) { s with heap := (s.heap.push o).push { cls := .type "enumerate", data := .fields #[.none, .bool false, .ref s.heap.objs.size, rawInt 0, .none, .none] } }) := by
  refine .of_wp fun prog w A R s z => ?_
  obtain ⟨hp, gs, dr, tk, os⟩ := s
  obtain ⟨z1, z2⟩ := z
  have sub := sub_enumerate
  have it : ∀ {A' : Around} {E Q : Value → Shared → Prop}, Q (.ref hp.objs.size) ⟨hp.push o, gs, dr, tk, os⟩ → wpAny (model prog w) A' (pyIter v) Q E ⟨hp, gs, dr, tk, os⟩ := fun q => B.iter prog w _ _ ⟨hp, gs, dr, tk, os⟩ _ z1 q
  wp_walk using it
  refine wpAny_stack_any fun _ => wpAny_pure ?_
  split
  · rename_i c _ _ _ _ _
    cases (c == Value.type "enumerate") <;> (wp_walk using it; exact ⟨_, rfl, z2⟩)
  · wp_walk using it
    exact ⟨_, rfl, z2⟩
theorem call_enumT {M : Program} {w : World} {A : Around} {E : Value → Shared → Prop} {s : Shared} {t : Addr} {items : Array Value} {Q : Value → Shared → Prop} (ht : s.heap.IsTuple t items)
    (q : ∀ h', IsEnum h' (s.heap.objs.size + 1) s.heap.objs.size 0 .none → h'.IsTupleIter s.heap.objs.size t 0 → (∀ b o, s.heap.get? b = some o → h'.get? b = some o) → Q (.ref (s.heap.objs.size + 1)) { s with heap := h' }) :
    wpAny (model M w) A (call (.type "enumerate") [.ref t]) Q E s := by
  refine callType_new F.called_enumerate (by decide) (F.typeCall_enumerate_1 _) (F.newCall_enumerate_1 _) (fun obj => F.args_object_init_2 obj _) F.entry_enumerate_new (meets_enum1 (begins_tuple t items)) ⟨ht, ?_⟩
  have sz : (s.heap.push { cls := .type "tuple_iterator", data := .fields #[.ref t, .int 0 0] }).objs.size = s.heap.objs.size + 1 := Heap.size_push ..
  show _ ∧ _
  rw [sz]
  have he : IsEnum ((s.heap.push { cls := .type "tuple_iterator", data := .fields #[.ref t, .int 0 0] }).push { cls := .type "enumerate", data := .fields #[.none, .bool false, .ref s.heap.objs.size, rawInt 0, .none, .none] }) (s.heap.objs.size + 1) s.heap.objs.size 0 .none := by
    have z := Heap.get?_push_size (s.heap.push { cls := .type "tuple_iterator", data := .fields #[.ref t, .int 0 0] }) (o := { cls := .type "enumerate", data := .fields #[.none, .bool false, .ref s.heap.objs.size, rawInt 0, .none, .none] }) rfl
    rw [sz] at z
    exact z
  exact ⟨⟨_, he, rfl⟩, q _ he ⟨_, Heap.get?_push_of_some _ (Heap.get?_push_size _ rfl), rfl, rfl⟩ fun b o x => Heap.get?_push_of_some _ (Heap.get?_push_of_some _ x)⟩
def iEnT (K : PySem.W.Frag) (ta : TA) : TI := fun σ H R => ta σ H fun vs H1 => ∃ (t : Addr) (xs : List V), vs = [.ref t] ∧ SqT K H1 t xs ∧ R (Iet K t) H1
theorem pi_enT {X : Cx} {e : Expr} {ta : TA} {p pos tpos : Pos} {es : List Expr} {n : Nat} (hg : Gl X "enumerate") (hm : X.mg "enumerate" = none) (ha : PA X [e] ta) (hs : starEach [e] X.env = [(false, eval e X.env)] := by rfl) :
    PI X (.Tuple es n tpos) (.Call (.Name "enumerate" p) [e] [] pos) (iEnT X.K ta) := by
  constructor
  intro pins s σ H R I h
  refine Call_ (ld_blt I hg hm boot_enumerate (PyProof.Rows.callWith_type1 (thn (ha.run pos pins s σ H _ I h) fun us s1 z1 => ?_) hs rfl))
  obtain ⟨vs, H1, I1, r1, t, xs, ex, hq, q⟩ := z1
  subst ex
  have eu := Vals.ref1 r1
  subst eu
  obtain ⟨its, rv, ht, _⟩ := I1.tuple hq
  refine call_enumT (items := its.toArray) ht fun h' he hj hk => wpAny_pyIter_enum he ?_
  have I2 : Inv X pins σ H1 { s1 with heap := h' } := I1.kept (t' := s1.toks) hk
  refine ⟨s1.heap.objs.size + 1, [s1.heap.objs.size + 1, s1.heap.objs.size], _, _, H1, rfl, I2, turn_et t (s1.heap.objs.size + 1) s1.heap.objs.size, ⟨⟨.none, he⟩, hj, Nat.succ_ne_self _⟩, fun b hb => ?_, q⟩
  have lb : s1.heap.objs.size ≤ b := by
    rcases List.mem_cons.mp hb with z | z
    · rw [z]
      exact Nat.le_succ _
    · rw [List.mem_singleton.mp z]
      exact Nat.le_refl _
  exact I1.fpOk lb (I1.hok.fresh lb)
/-- for i, x in enumerate(t) -/
theorem for_enT {K : PySem.W.Frag} {t : Addr} {xs : List V} {g : TG} {tb : TS} {D : Ends} {σ : L2.St} {H : Hp} (Pv : Nat → L2.St → Hp → Prop) (h0 : Pv 0 σ H) (hl : ∀ i σ H, i ≤ xs.length → Pv i σ H → SqT K H t xs)
    (hs : ∀ i x σ H p, xs[i]? = some x → Pv i σ H → H p = none → g (.ref p) σ (upd H p (.tup [.int (i : Nat), x])) fun σ2 H2 => tb { D with nx := Pv (i + 1), ct := Pv (i + 1), bk := D.nx } σ2 H2) (hd : ∀ σ H, Pv xs.length σ H → D.nx σ H) :
    ∃ W : Nat → Nat → L2.St → Hp → Prop, (∃ m, W 0 m σ H) ∧ ∀ i m σ H, W i m σ H →
      ((Iet K t).stop i H ∧ D.nx σ H) ∨ ((Iet K t).go i H ∧ ∃ N : L2.St → Hp → Prop, (∀ σ' H', N σ' H' → ∃ m', m' < m ∧ W (i + 1) m' σ' H') ∧ ∀ x H', (Iet K t).yld i H x H' → g x σ H' fun σ2 H2 => tb { D with nx := N, ct := N, bk := D.nx } σ2 H2) := by
  refine ⟨fun i m σ H => i + m = xs.length ∧ Pv i σ H, ⟨xs.length, Nat.zero_add _, h0⟩, ?_⟩
  rintro i m σ H ⟨e, p⟩
  have q := hl i σ H (by omega) p
  cases hx : xs[i]? with
  | none =>
    have ei : i = xs.length := by
      have := List.getElem?_eq_none_iff.mp hx
      omega
    rw [ei] at p ⊢
    exact .inl ⟨⟨xs, q, Nat.le_refl _⟩, hd σ H p⟩
  | some v =>
    have hi : i < xs.length := (List.getElem?_eq_some_iff.mp hx).1
    refine .inr ⟨⟨xs, v, q, hx⟩, Pv (i + 1), fun σ' H' p' => ⟨m - 1, by omega, by omega, p'⟩, fun y H' z => ?_⟩
    obtain ⟨r, v', rfl, hr, rfl, hv⟩ := z
    have ev := hv xs q
    rw [hx] at ev
    cases ev
    exact hs i v σ H r hx p hr
end Gd
set_option Elab.async false
set_option linter.all false
set_option maxRecDepth 100000
set_option maxHeartbeats 4000000
namespace Ks
open PySem PySem.Spec PyProof.Rows L2 Gd Kx
abbrev sOne : Stmt := Kx.topS 18
abbrev sCk : Stmt := Kx.topS 19
abbrev sIsC : Stmt := Kx.topS 20
abbrev sCc : Stmt := Kx.topS 21
abbrev sCt : Stmt := Kx.topS 22
theorem scOne : FnScope ["value", "names"] ["value", "names"] (defScope sOne) := ⟨rfl, rfl, rfl, by decide +kernel, rfl, by decide +kernel, by decide +kernel⟩
theorem scCk : FnScope ["kinds", "index", "kind"] ["kinds"] (defScope sCk) := ⟨rfl, rfl, rfl, by decide +kernel, rfl, by decide +kernel, by decide +kernel⟩
theorem scIsC : FnScope ["value", "kinds", "name", "kind", "fields", "field"] ["value", "kinds"] (defScope sIsC) := ⟨rfl, rfl, rfl, by decide +kernel, rfl, by decide +kernel, by decide +kernel⟩
theorem scCc : FnScope ["constructors", "kinds", "names", "index", "constructor"] ["constructors", "kinds"] (defScope sCc) := ⟨rfl, rfl, rfl, by decide +kernel, rfl, by decide +kernel, by decide +kernel⟩
theorem scCt : FnScope ["kinds", "constructors", "full", "_", "constructor", "kind", "fields", "field"] ["kinds", "constructors"] (defScope sCt) := ⟨rfl, rfl, rfl, by decide +kernel, rfl, by decide +kernel, by decide +kernel⟩
/-! ### schemas as data -/
abbrev Rw := Str × Str × List Str
structure Md where
  ks : List Str
  rs : List Rw
structure Good (m : Md) : Prop where
  k1 : 1 ≤ m.ks.length
  k4 : m.ks.length ≤ 4
  kn : ∀ k ∈ m.ks, nmS k = true
  kd : m.ks.Nodup
  r1 : 1 ≤ m.rs.length
  r6 : m.rs.length ≤ 6
  rn : ∀ r ∈ m.rs, nmS r.1 = true
  rd : (m.rs.map (·.1)).Nodup
  rk : ∀ r ∈ m.rs, r.2.1 ∈ m.ks
  f3 : ∀ r ∈ m.rs, r.2.2.length ≤ 3
  fk : ∀ r ∈ m.rs, ∀ f ∈ r.2.2, f ∈ m.ks
  tr : ∀ k ∈ m.ks, ∃ r ∈ m.rs, r.2.1 = k ∧ r.2.2 = []
def StT (H : Hp) (a : Addr) (ss : List Str) : Prop := H a = some (.tup (ss.map V.str))
def RowV (H : Hp) (x : V) (r : Rw) : Prop := ∃ b f : Addr, x = .ref b ∧ H b = some (.tup [.str r.1, .str r.2.1, .ref f]) ∧ StT H f r.2.2
def RowsT (H : Hp) (a : Addr) (rs : List Rw) : Prop := ∃ xs : List V, H a = some (.tup xs) ∧ Paired (RowV H) xs rs
theorem RowV.keep {H H' : Hp} {x : V} {r : Rw} (h : RowV H x r) (s : Same H H') : RowV H' x r := by
  obtain ⟨b, f, e, h1, h2⟩ := h
  exact ⟨b, f, e, s _ _ h1, s _ _ h2⟩
theorem RowsT.keep {H H' : Hp} {a : Addr} {rs : List Rw} (h : RowsT H a rs) (s : Same H H') : RowsT H' a rs := by
  obtain ⟨xs, e, p⟩ := h
  exact ⟨xs, s _ _ e, Paired.mapP p fun x r q => RowV.keep q s⟩
theorem rows_at {H : Hp} : ∀ {xs : List V} {rs : List Rw} {n : Nat} {x : V}, Paired (RowV H) xs rs → xs[n]? = some x → ∃ r, rs[n]? = some r ∧ RowV H x r
  | _, _, n, x, .nil, h => by simp at h
  | _, _, 0, x, .cons (b := i) r t, h => by
    have e := Option.some.inj h
    subst e
    exact ⟨i, rfl, r⟩
  | _, _, n + 1, x, .cons r t, h => by
    obtain ⟨i, e, q⟩ := rows_at (n := n) t (by simpa using h)
    exact ⟨i, by simpa using e, q⟩
/-! ### what the module's defs lean on -/
structure TS0 (mg : Str → Option Value) : Prop where
  isi : mg "isinstance" = none
  str : mg "str" = none
  tup : mg "tuple" = none
  len : mg "len" = none
  all : mg "all" = none
  enu : mg "enumerate" = none
  rng : mg "range" = none
  mki : ∃ t, mg "MOST_KINDS" = some (.int 4 t)
  mco : ∃ t, mg "MOST_CONSTRUCTORS" = some (.int 6 t)
  mfi : ∃ t, mg "MOST_FIELDS" = some (.int 3 t)
/-- what is asked of a value that may be among strings -/
def OneOf (K : PySem.W.Frag) (H : Hp) (v : V) (ts : List Str) (b : Bool) : Prop := (∃ z, v = .str z ∧ b = decide (z ∈ ts)) ∨ (∃ t, TyX K H v t ∧ PySem.W.kitOne K t (.type "str") = some false ∧ b = false)
section
variable {P : Program} {w : World} {K : PySem.W.Frag} {mg : Str → Option Value} {base : Heap}
def spOne (K : PySem.W.Frag) : Sp := fun vs H Q _ => ∃ (v : V) (a : Addr) (ts : List Str) (b : Bool), vs = [v, .ref a] ∧ SqT K H a (ts.map V.str) ∧ OneOf K H v ts b ∧ Q (.bl b) H
theorem ok_one {f : Addr} {fd : FuncData} (F : Fun K "_is_one_of" "_is_one_of" sOne f fd) (T : TS0 mg) : FnOk P w K mg base CX0 1 f fd ["value", "names"] (spOne K) := by
  refine F.ok scOne (fun vs H Q E h => ?_) (fun cv A ou s H vs Q E hr h => ?_)
  · obtain ⟨v, a, ts, b, rfl, _⟩ := h
    rfl
  obtain ⟨v, a, ts, b, rfl, hs, hv, q⟩ := h
  refine ⟨_, pss_one (ps_ret (pe_and (pe_callB call_isi (by rfl) T.isi boot_isinstance (pa_cons (pv 0) (pa_cons (pe_bltn (v := .ty "str") (by rfl) T.str boot_str rfl) pa_nil))) (pe_one (pe_cmpR op_in_seq (pv 0) (pv 1) (by rfl))))), ?_⟩
  rcases hv with ⟨z, rfl, rfl⟩ | ⟨t, ty, ek, rfl⟩
  · refine ⟨.str z, rfl, .str z, .ty "str", _, _, true, rfl, .ty "str", .base (.str z), kit_ty (by decide +kernel), _, rfl, ?_⟩
    refine iteT ⟨.str z, rfl, .ref a, rfl, a, _, rfl, .inr hs, rfl, all_flat ts, ?_⟩
    show Q (.bl (inV (.str z) (ts.map V.str))) H
    rw [inV_str]
    exact q
  · refine ⟨v, rfl, v, .ty "str", _, _, false, rfl, .ty "str", ty, ek, _, rfl, iteF q⟩
end
end Ks
set_option Elab.async false
set_option linter.all false
set_option maxRecDepth 100000
set_option maxHeartbeats 4000000
namespace Ks
open PySem PySem.Spec PyProof.Rows L2 Gd Kx
theorem cut_take {xs : List V} {i : Nat} (h : i ≤ xs.length) : cutV xs none (some (i : Int)) = xs.take i := by
  unfold cutV
  rw [HT.sIx_none, HT.sIx_nat, List.drop_zero, Nat.sub_zero, Nat.min_eq_left h]
section
variable {P : Program} {w : World} {K : PySem.W.Frag} {mg : Str → Option Value} {base : Heap}
def spCk : Sp := fun vs H Q _ => ∃ (a : Addr) (m : Md), vs = [.ref a] ∧ StT H a m.ks ∧ Good m ∧ ∀ H', Same H H' → Q .non H'
theorem ok_ck {f fi : Addr} {fd fdi : FuncData} (F : Fun K "_check_kinds" "_check_kinds" sCk f fd) (T : TS0 mg) (GI : FnOk P w K mg base CX0 1 fi fdi ["value"] (spIs K)) (ki : PySem.W.keepIn K (.ref fi) = true) (bI : Binds K fdi ["value"] []) (gI : mg "is_name" = some (.ref fi)) :
    FnOk P w K mg base CX0 2 f fd ["kinds"] spCk := by
  obtain ⟨t4, m4⟩ := T.mki
  refine F.ok scCk (fun vs H Q E h => ?_) (fun cv A ou s H vs Q E hr h => ?_)
  · obtain ⟨a, m, rfl, _⟩ := h
    rfl
  obtain ⟨a, m, rfl, hs, g, q⟩ := h
  refine ⟨_, pss_cons (ps_if (PW.pt (pw_or (pt_not (pt_val (pe_callB call_isi (by rfl) T.isi boot_isinstance (pa_cons (pv 0) (pa_cons (pe_bltn (v := .ty "tuple") (by rfl) T.tup boot_tuple rfl) pa_nil)))))
        (pw_or1 (pt_not (pt_chain op_le op_le pe_int (pe_callB call_len_seq (by rfl) T.len PySem.boot_len (pa_cons (pv 0) pa_nil)) (pe_glob (v := .int 4) (by rfl) m4 ⟨_, rfl⟩)))))) pss_never pss_nil)
    (pss_one (ps_for PassesOwn.never rfl (pi_enT (by rfl) T.enu (pa_cons (pv 0) pa_nil)) (pg_tup rfl (pgs_cons (pg_name (i := 1) scCk.nd rfl (.inl rfl)) (pgs_cons (pg_name (i := 2) scCk.nd rfl (.inl rfl)) pgs_nil)))
      (pss_one (ps_if (PW.pt (pw_or (pt_not (pt_val (pe_call GI hr (by rfl) gI ki bI .nil pass0 (pa_cons (pv 2) pa_nil)))) (pw_or1 (pt_cmpR op_in_seq (pv 2) (pe_slice sl_tup (pv 0) po_none (po_some (pv 1))) (by rfl))))) pss_never pss_nil)))), ?_⟩
  refine ⟨.ref a, rfl, .ref a, .ty "tuple", _, _, true, rfl, .ty "tuple", .base (.tup hs), kit_ty (by decide +kernel), _, rfl, iteF ?_⟩
  refine ⟨.ref a, rfl, a, _, rfl, .inr (SqT.of hs), _, _, rfl, rfl, _, rfl, ?_⟩
  have k1 := g.k1
  have k4 := g.k4
  rw [decide_eq_true (show (1 : Int) ≤ ((m.ks.map V.str).length : Int) by rw [List.length_map]; omega)]
  refine iteT ⟨_, _, rfl, rfl, _, rfl, ?_⟩
  rw [decide_eq_true (show ((m.ks.map V.str).length : Int) ≤ 4 by rw [List.length_map]; omega)]
  refine iteF ?_
  refine ⟨.ref a, rfl, a, _, rfl, SqT.of hs, for_enT (K := K) (t := a) (xs := m.ks.map V.str) (fun i σ H' => ∃ o1 o2 : Option V, σ = [some (.ref a), o1, o2] ∧ Same H H') ⟨none, none, rfl, fun _ _ e => e⟩ (fun i σ H' _ p => ?_) ?_ ?_⟩
  · obtain ⟨_, _, _, s1⟩ := p
    exact SqT.of (s1 _ _ hs)
  · rintro i x σ H1 p hx ⟨o1, o2, rfl, s1⟩ np
    obtain ⟨z, hz, rfl⟩ : ∃ z, m.ks[i]? = some z ∧ x = V.str z := by
      rw [List.getElem?_map] at hx
      cases e : m.ks[i]? with
      | none => rw [e] at hx; cases hx
      | some z => rw [e] at hx; exact ⟨z, rfl, (Option.some.inj hx).symm⟩
    have hi : i < m.ks.length := (List.getElem?_eq_some_iff.mp hz).1
    have hn := g.kn z (List.mem_of_getElem? hz)
    have s2 : Same H1 (upd H1 p (.tup [.int (i : Nat), .str z])) := same_new np
    refine ⟨p, _, rfl, SqT.of upd_same, rfl, ?_⟩
    refine ⟨_, _, rfl, _, _, rfl, rfl, .str z, rfl, .str z, rfl, .inl ⟨z, rfl, by have := (nm_len hn).2; omega, fun H2 s3 => ?_⟩⟩
    rw [hn]
    have sA := s1.trans (s2.trans s3)
    refine ⟨true, rfl, iteF ?_⟩
    refine ⟨.str z, rfl, .ref a, rfl, .int (i : Nat), rfl, _, rfl, a, m.ks.map V.str, rfl, SqT.of (sA _ _ hs), ?_, fun L nL => ?_⟩
    · rintro ⟨_, e⟩
      rw [HT.sIx_nat, List.length_map] at e
      omega
    rw [cut_take (by rw [List.length_map]; omega), ← List.map_take]
    refine ⟨L, _, rfl, .inr (SqT.of upd_same), rfl, all_flat _, _, rfl, ?_⟩
    rw [if_neg (by decide), inV_str, decide_eq_false (fun h => ?_)]
    · exact iteF ⟨_, _, rfl, sA.trans (same_new nL)⟩
    · obtain ⟨j, hj, ej⟩ := List.getElem_of_mem h
      rw [List.length_take] at hj
      rw [List.getElem_take] at ej
      have e2 : m.ks[j]? = m.ks[i]? := by rw [hz, List.getElem?_eq_getElem (by omega), ej]
      have := (List.getElem?_inj (by omega) g.kd).mp e2
      omega
  · rintro σ H1 ⟨o1, o2, rfl, s1⟩
    exact q H1 s1
end
end Ks
set_option Elab.async false
set_option linter.all false
set_option maxRecDepth 100000
set_option maxHeartbeats 4000000
namespace Gd
open PySem PySem.Spec PyProof.Rows L2
theorem yes_of {σ : L2.St} {H : Hp} {Q : Bool → Hp → Prop} (h : Q true H) : tYes σ H Q := h
theorem yes_if {σ : L2.St} {H : Hp} {A B : Hp → Prop} (h : A H) : tYes σ H (fun b H3 => if b = true then A H3 else B H3) := yes_of (iteT (A := A H) (B := B H) h)
/-- a comprehension over a list: one name as the target, no test -/
theorem lc_listY {K : PySem.W.Frag} {a : Addr} {xs : List V} {j : Nat} {te : TE} {vs : List Nat} {σ : L2.St} {H1 : Hp} {D : Addr} {Qd : Hp → Prop} (Pv : Nat → Hp → Prop) (hw : ∀ v, wipe ((wipe σ vs).set j (some v)) vs = wipe σ vs) (h0 : Pv 0 (upd H1 D (.lst []))) (hl : ∀ i H, i ≤ xs.length → Pv i H → SqL K H a xs)
    (hs : ∀ (i : Nat) (x : V) (H : Hp), xs[i]? = some x → Pv i H → te ((wipe σ vs).set j (some x)) H fun y H4 => ∃ acc, H4 D = some (.lst acc) ∧ acc.length < sizeLine ∧ Pv (i + 1) (upd H4 D (.lst (acc ++ [y]))))
    (hd : ∀ H, Pv xs.length H → Qd H) : ∃ W : Nat → Nat → Hp → Prop, (∃ m, W 0 m (upd H1 D (.lst []))) ∧ ∀ i m H, W i m H →
      ((Itl K a).stop i H ∧ Qd H) ∨ ((Itl K a).go i H ∧ ∃ Nx : Hp → Prop, (∀ H', Nx H' → ∃ m', m' < m ∧ W (i + 1) m' H') ∧ ∀ v H', (Itl K a).yld i H v H' → gName j v (wipe σ vs) H' fun τ H2 => wipe τ vs = wipe σ vs ∧ tYes τ H2 fun b H3 =>
        if b = true then te τ H3 fun y H4 => ∃ acc, H4 D = some (.lst acc) ∧ acc.length < sizeLine ∧ Nx (upd H4 D (.lst (acc ++ [y]))) else Nx H3) :=
  lc_list Pv h0 hl (fun i x H e p => ⟨hw _, yes_if (hs i x H e p)⟩) hd
/-- the same, each element worth the same thing y, what stood stands -/
theorem lc_same {K : PySem.W.Frag} {a : Addr} {xs : List V} {y : V} {j : Nat} {te : TE} {vs : List Nat} {σ : L2.St} {H1 : Hp} {D : Addr} {Qd : Hp → Prop} (hw : ∀ v, wipe ((wipe σ vs).set j (some v)) vs = wipe σ vs) (nD : H1 D = none) (hx : SqL K H1 a xs) (hz : xs.length ≤ 1000)
    (hs : ∀ (i : Nat) (x : V) (H : Hp), xs[i]? = some x → Same H1 H → ∀ q : VK, (∀ H4, Same H H4 → q y H4) → te ((wipe σ vs).set j (some x)) H q)
    (hd : ∀ H, Same H1 H → H D = some (.lst (List.replicate xs.length y)) → Qd H) : ∃ W : Nat → Nat → Hp → Prop, (∃ m, W 0 m (upd H1 D (.lst []))) ∧ ∀ i m H, W i m H →
      ((Itl K a).stop i H ∧ Qd H) ∨ ((Itl K a).go i H ∧ ∃ Nx : Hp → Prop, (∀ H', Nx H' → ∃ m', m' < m ∧ W (i + 1) m' H') ∧ ∀ v H', (Itl K a).yld i H v H' → gName j v (wipe σ vs) H' fun τ H2 => wipe τ vs = wipe σ vs ∧ tYes τ H2 fun b H3 =>
        if b = true then te τ H3 fun y H4 => ∃ acc, H4 D = some (.lst acc) ∧ acc.length < sizeLine ∧ Nx (upd H4 D (.lst (acc ++ [y]))) else Nx H3) := by
  refine lc_listY (fun i H => i ≤ xs.length ∧ Same H1 H ∧ H D = some (.lst (List.replicate i y))) hw ⟨Nat.zero_le _, fun b o e => ?_, upd_same⟩ (fun i H _ p => p.2.1.seq hx) ?_ fun H p => hd H p.2.1 p.2.2
  · rw [upd_ne (ne_of_none e nD)]
    exact e
  · rintro i x H e ⟨hi, s, eD⟩
    have hlt : i < xs.length := (List.getElem?_eq_some_iff.mp e).1
    refine hs i x H e s _ fun H4 s4 => ⟨_, s4 _ _ eD, ?_, hlt, fun b o e2 => ?_, ?_⟩
    · rw [List.length_replicate]
      exact small1000 (by omega)
    · rw [upd_ne (ne_of_none e2 nD)]
      exact s4 _ _ (s _ _ e2)
    · rw [upd_same, List.replicate_succ']
/-! ### how long a list is shown -/
theorem textFrom_le : ∀ (ts : List Str) (k : Nat) (acc : Str) (b : Nat), (∀ t ∈ ts, t.length ≤ b) → (textFrom k acc ts).length ≤ acc.length + ts.length * (b + 2)
  | [], k, acc, b, _ => by show acc.length ≤ _; omega
  | t :: r, k, acc, b, h => by
    have ih := textFrom_le r (k + 1) (acc ++ (if k > 0 then ", " else "" : String) ++ t) b fun x hx => h x (List.mem_cons_of_mem _ hx)
    have ht := h t (List.mem_cons_self ..)
    have e : (acc ++ ((if k > 0 then ", " else "" : String) : Str) ++ t).length ≤ acc.length + 2 + t.length := by
      rw [Str.length_append, Str.length_append]
      have : (((if k > 0 then ", " else "" : String) : Str)).length ≤ 2 := by split <;> decide +kernel
      omega
    show (textFrom (k + 1) (acc ++ (if k > 0 then ", " else "" : String) ++ t) r).length ≤ _
    rw [List.length_cons, Nat.add_mul, Nat.one_mul]
    omega
theorem listText_le {ts : List Str} {b : Nat} (h : ∀ t ∈ ts, t.length ≤ b) : (listText ts).length ≤ 2 + ts.length * (b + 2) := by
  have := textFrom_le ts 0 "[" b h
  have e1 : (Str.ofString "[").length = 1 := by decide +kernel
  have e2 : (Str.ofString "]").length = 1 := by decide +kernel
  show (textFrom 0 "[" ts ++ "]").length ≤ _
  rw [Str.length_append]
  have e3 : (textFrom 0 (Str.ofString "[") ts).length ≤ (Str.ofString "[").length + ts.length * (b + 2) := this
  show (textFrom 0 (Str.ofString "[") ts).length + (Str.ofString "]").length ≤ _
  omega
/-- a thing that is shown in few signs -/
structure Sh (K : PySem.W.Frag) (H : Hp) (v : V) (d : PyData) : Prop where
  at_ : Dp K H v d
  sh : d.showable = true
  nd : d.hasDict = false
  dp : d.depth ≤ 20
  ln : d.shown.length ≤ 100
theorem shownAll_map : ∀ ds : List PyData, PyData.shownAll ds = ds.map PyData.shown
  | [] => rfl
  | d :: r => by rw [PyData.shownAll, shownAll_map r]; rfl
theorem sh_list {ds : List PyData} (h : ∀ d ∈ ds, d.showable = true ∧ d.hasDict = false ∧ d.depth ≤ 20 ∧ d.shown.length ≤ 100) (hl : ds.length ≤ 100) :
    (PyData.list ds).showable = true ∧ (PyData.list ds).hasDict = false ∧ (PyData.list ds).depth ≤ 60 ∧ (PyData.list ds).shown.length ≤ sizeLine := by
  have h1 : ∀ ds : List PyData, (∀ d ∈ ds, d.showable = true) → PyData.showableAll ds = true := by
    intro ds h
    induction ds with
    | nil => rfl
    | cons d r ih => rw [PyData.showableAll, h d (List.mem_cons_self ..), ih fun x hx => h x (List.mem_cons_of_mem _ hx)]; rfl
  have h2 : ∀ ds : List PyData, (∀ d ∈ ds, d.hasDict = false) → PyData.hasDictAll ds = false := by
    intro ds h
    induction ds with
    | nil => rfl
    | cons d r ih => rw [PyData.hasDictAll, h d (List.mem_cons_self ..), ih fun x hx => h x (List.mem_cons_of_mem _ hx)]; rfl
  have h3 : ∀ ds : List PyData, (∀ d ∈ ds, d.depth ≤ 20) → PyData.depthAll ds ≤ 21 := by
    intro ds h
    induction ds with
    | nil => show 0 ≤ _; omega
    | cons d r ih =>
      have a := h d (List.mem_cons_self ..)
      have b := ih fun x hx => h x (List.mem_cons_of_mem _ hx)
      rw [PyData.depthAll]
      omega
  refine ⟨?_, ?_, ?_, ?_⟩
  · rw [PyData.showable]
    exact h1 ds fun d hd => (h d hd).1
  · rw [PyData.hasDict]
    exact h2 ds fun d hd => (h d hd).2.1
  · have := h3 ds fun d hd => (h d hd).2.2.1
    rw [PyData.depth]
    omega
  · rw [PyData.shown]
    have := listText_le (ts := PyData.shownAll ds) (b := 100) (by
      rw [shownAll_map]
      intro t ht
      obtain ⟨d, hd, rfl⟩ := List.mem_map.mp ht
      exact (h d hd).2.2.2)
    rw [shownAll_map, List.length_map] at this
    have z : ds.length * 102 ≤ 100 * 102 := Nat.mul_le_mul_right _ hl
    have w := sizeLine_eq
    rw [shownAll_map]
    omega
theorem sh_rep {K : PySem.W.Frag} {H : Hp} {v : V} {d : PyData} (S : Sh K H v d) : ∀ n, DpAll K H (List.replicate n v) (List.replicate n d)
  | 0 => .nil
  | n + 1 => .cons S.at_ (sh_rep S n)
end Gd
set_option Elab.async false
set_option linter.all false
set_option maxRecDepth 100000
set_option maxHeartbeats 4000000
/-! comprehensions over a tuple, a list: one name as the target, a test, each element's answer and value known -/
namespace Gd
open PySem PySem.Spec PyProof.Rows L2
theorem asTE {X : Cx} {e : Expr} {te te' : TE} (h : PE X e te') (q : te' = te) : PE X e te := q ▸ h
def picked (zs : List (Bool × V)) : List V := (zs.filter (·.1)).map (·.2)
theorem picked_take {zs : List (Bool × V)} {i : Nat} {z : Bool × V} (h : zs[i]? = some z) : picked (zs.take (i + 1)) = picked (zs.take i) ++ (if z.1 = true then [z.2] else []) := by
  unfold picked
  rw [List.take_add_one, h, List.filter_append, List.map_append]
  congr 1
  cases hb : z.1 <;> simp [hb]
theorem picked_len (zs : List (Bool × V)) : (picked zs).length ≤ zs.length := by
  unfold picked
  rw [List.length_map]
  exact List.length_filter_le ..
theorem picked_all {zs : List V} : picked (zs.map fun z => (true, z)) = zs := by
  unfold picked
  induction zs with
  | nil => rfl
  | cons z r ih => simpa using ih
section
variable {K : PySem.W.Frag} {a : Addr} {xs : List V} {zs : List (Bool × V)} {j : Nat} {tt : TT} {te : TE} {vs : List Nat} {σ : L2.St} {H1 : Hp} {D : Addr} {Qd : Hp → Prop}
theorem sel_step (hw : ∀ v, wipe ((wipe σ vs).set j (some v)) vs = wipe σ vs) (nD : H1 D = none) (hz : xs.length ≤ 1000) (hl : zs.length = xs.length)
    (hs : ∀ (i : Nat) (x : V) (z : Bool × V) (H : Hp), xs[i]? = some x → zs[i]? = some z → Same H1 H → ∀ q : Bool → Hp → Prop, (∀ H3, Same H H3 → q z.1 H3) → tt ((wipe σ vs).set j (some x)) H q)
    (he : ∀ (i : Nat) (x : V) (z : Bool × V) (H : Hp), xs[i]? = some x → zs[i]? = some z → z.1 = true → Same H1 H → ∀ q : VK, (∀ H4, Same H H4 → q z.2 H4) → te ((wipe σ vs).set j (some x)) H q)
    (i : Nat) (x : V) (H : Hp) (hx : xs[i]? = some x) (p : i ≤ xs.length ∧ Same H1 H ∧ H D = some (.lst (picked (zs.take i)))) :
    gName j x (wipe σ vs) H fun τ H2 => wipe τ vs = wipe σ vs ∧ tt τ H2 fun b H3 =>
      if b = true then te τ H3 fun y H4 => ∃ acc, H4 D = some (.lst acc) ∧ acc.length < sizeLine ∧ (fun i H => i ≤ xs.length ∧ Same H1 H ∧ H D = some (.lst (picked (zs.take i)))) (i + 1) (upd H4 D (.lst (acc ++ [y])))
      else (fun i H => i ≤ xs.length ∧ Same H1 H ∧ H D = some (.lst (picked (zs.take i)))) (i + 1) H3 := by
  obtain ⟨hi, s, eD⟩ := p
  have hlt : i < xs.length := (List.getElem?_eq_some_iff.mp hx).1
  obtain ⟨z, hzi⟩ : ∃ z, zs[i]? = some z := ⟨_, List.getElem?_eq_getElem (by omega)⟩
  have pt := picked_take hzi
  refine ⟨hw _, hs i x z H hx hzi s _ fun H3 s3 => ?_⟩
  cases hb : z.1 with
  | true =>
    rw [hb] at pt
    refine iteT (he i x z H3 hx hzi hb (s.trans s3) _ fun H4 s4 => ⟨_, s4 _ _ (s3 _ _ eD), ?_, hlt, fun b o e2 => ?_, ?_⟩)
    · have := picked_len (zs.take i)
      rw [List.length_take] at this
      exact small1000 (by omega)
    · rw [upd_ne (ne_of_none e2 nD)]
      exact s4 _ _ (s3 _ _ (s _ _ e2))
    · rw [upd_same, pt]
      rfl
  | false =>
    rw [hb] at pt
    refine iteF ⟨hlt, s.trans s3, ?_⟩
    rw [pt]
    show H3 D = some (.lst (picked (zs.take i) ++ []))
    rw [List.append_nil]
    exact s3 _ _ eD
theorem lc_selT (hw : ∀ v, wipe ((wipe σ vs).set j (some v)) vs = wipe σ vs) (nD : H1 D = none) (hx : SqT K H1 a xs) (hz : xs.length ≤ 1000) (hl : zs.length = xs.length)
    (hs : ∀ (i : Nat) (x : V) (z : Bool × V) (H : Hp), xs[i]? = some x → zs[i]? = some z → Same H1 H → ∀ q : Bool → Hp → Prop, (∀ H3, Same H H3 → q z.1 H3) → tt ((wipe σ vs).set j (some x)) H q)
    (he : ∀ (i : Nat) (x : V) (z : Bool × V) (H : Hp), xs[i]? = some x → zs[i]? = some z → z.1 = true → Same H1 H → ∀ q : VK, (∀ H4, Same H H4 → q z.2 H4) → te ((wipe σ vs).set j (some x)) H q)
    (hd : ∀ H, Same H1 H → H D = some (.lst (picked zs)) → Qd H) : ∃ W : Nat → Nat → Hp → Prop, (∃ m, W 0 m (upd H1 D (.lst []))) ∧ ∀ i m H, W i m H →
      ((Itt K a).stop i H ∧ Qd H) ∨ ((Itt K a).go i H ∧ ∃ Nx : Hp → Prop, (∀ H', Nx H' → ∃ m', m' < m ∧ W (i + 1) m' H') ∧ ∀ v H', (Itt K a).yld i H v H' → gName j v (wipe σ vs) H' fun τ H2 => wipe τ vs = wipe σ vs ∧ tt τ H2 fun b H3 =>
        if b = true then te τ H3 fun y H4 => ∃ acc, H4 D = some (.lst acc) ∧ acc.length < sizeLine ∧ Nx (upd H4 D (.lst (acc ++ [y]))) else Nx H3) :=
  lc_tup (fun i H => i ≤ xs.length ∧ Same H1 H ∧ H D = some (.lst (picked (zs.take i)))) ⟨Nat.zero_le _, fun b o e => by rw [upd_ne (ne_of_none e nD)]; exact e, upd_same⟩ (fun i H _ p => SqT.ext hx p.2.1)
    (sel_step hw nD hz hl hs he) fun H p => hd H p.2.1 (by have := p.2.2; rw [← hl, List.take_length] at this; exact this)
theorem lc_selL (hw : ∀ v, wipe ((wipe σ vs).set j (some v)) vs = wipe σ vs) (nD : H1 D = none) (hx : SqL K H1 a xs) (hz : xs.length ≤ 1000) (hl : zs.length = xs.length)
    (hs : ∀ (i : Nat) (x : V) (z : Bool × V) (H : Hp), xs[i]? = some x → zs[i]? = some z → Same H1 H → ∀ q : Bool → Hp → Prop, (∀ H3, Same H H3 → q z.1 H3) → tt ((wipe σ vs).set j (some x)) H q)
    (he : ∀ (i : Nat) (x : V) (z : Bool × V) (H : Hp), xs[i]? = some x → zs[i]? = some z → z.1 = true → Same H1 H → ∀ q : VK, (∀ H4, Same H H4 → q z.2 H4) → te ((wipe σ vs).set j (some x)) H q)
    (hd : ∀ H, Same H1 H → H D = some (.lst (picked zs)) → Qd H) : ∃ W : Nat → Nat → Hp → Prop, (∃ m, W 0 m (upd H1 D (.lst []))) ∧ ∀ i m H, W i m H →
      ((Itl K a).stop i H ∧ Qd H) ∨ ((Itl K a).go i H ∧ ∃ Nx : Hp → Prop, (∀ H', Nx H' → ∃ m', m' < m ∧ W (i + 1) m' H') ∧ ∀ v H', (Itl K a).yld i H v H' → gName j v (wipe σ vs) H' fun τ H2 => wipe τ vs = wipe σ vs ∧ tt τ H2 fun b H3 =>
        if b = true then te τ H3 fun y H4 => ∃ acc, H4 D = some (.lst acc) ∧ acc.length < sizeLine ∧ Nx (upd H4 D (.lst (acc ++ [y]))) else Nx H3) :=
  lc_list (fun i H => i ≤ xs.length ∧ Same H1 H ∧ H D = some (.lst (picked (zs.take i)))) ⟨Nat.zero_le _, fun b o e => by rw [upd_ne (ne_of_none e nD)]; exact e, upd_same⟩ (fun i H _ p => SqL.ext hx p.2.1)
    (sel_step hw nD hz hl hs he) fun H p => hd H p.2.1 (by have := p.2.2; rw [← hl, List.take_length] at this; exact this)
/-- without a test -/
theorem lc_funT {ys : List V} (hw : ∀ v, wipe ((wipe σ vs).set j (some v)) vs = wipe σ vs) (nD : H1 D = none) (hx : SqT K H1 a xs) (hz : xs.length ≤ 1000) (hl : ys.length = xs.length)
    (he : ∀ (i : Nat) (x y : V) (H : Hp), xs[i]? = some x → ys[i]? = some y → Same H1 H → ∀ q : VK, (∀ H4, Same H H4 → q y H4) → te ((wipe σ vs).set j (some x)) H q)
    (hd : ∀ H, Same H1 H → H D = some (.lst ys) → Qd H) : ∃ W : Nat → Nat → Hp → Prop, (∃ m, W 0 m (upd H1 D (.lst []))) ∧ ∀ i m H, W i m H →
      ((Itt K a).stop i H ∧ Qd H) ∨ ((Itt K a).go i H ∧ ∃ Nx : Hp → Prop, (∀ H', Nx H' → ∃ m', m' < m ∧ W (i + 1) m' H') ∧ ∀ v H', (Itt K a).yld i H v H' → gName j v (wipe σ vs) H' fun τ H2 => wipe τ vs = wipe σ vs ∧ tYes τ H2 fun b H3 =>
        if b = true then te τ H3 fun y H4 => ∃ acc, H4 D = some (.lst acc) ∧ acc.length < sizeLine ∧ Nx (upd H4 D (.lst (acc ++ [y]))) else Nx H3) := by
  refine lc_selT (zs := ys.map fun y => (true, y)) hw nD hx hz (by rw [List.length_map, hl]) (fun i x z H _ e _ q k => ?_) (fun i x z H ex e _ s q k => ?_) fun H s e => hd H s (by rw [picked_all] at e; exact e)
  · rw [List.getElem?_map] at e
    cases ey : ys[i]? with
    | none => rw [ey] at e; cases e
    | some y =>
      rw [ey] at e
      cases e
      exact k H fun _ _ e => e
  · rw [List.getElem?_map] at e
    cases ey : ys[i]? with
    | none => rw [ey] at e; cases e
    | some y =>
      rw [ey] at e
      cases e
      exact he i x y H ex ey s q k
theorem lc_funL {ys : List V} (hw : ∀ v, wipe ((wipe σ vs).set j (some v)) vs = wipe σ vs) (nD : H1 D = none) (hx : SqL K H1 a xs) (hz : xs.length ≤ 1000) (hl : ys.length = xs.length)
    (he : ∀ (i : Nat) (x y : V) (H : Hp), xs[i]? = some x → ys[i]? = some y → Same H1 H → ∀ q : VK, (∀ H4, Same H H4 → q y H4) → te ((wipe σ vs).set j (some x)) H q)
    (hd : ∀ H, Same H1 H → H D = some (.lst ys) → Qd H) : ∃ W : Nat → Nat → Hp → Prop, (∃ m, W 0 m (upd H1 D (.lst []))) ∧ ∀ i m H, W i m H →
      ((Itl K a).stop i H ∧ Qd H) ∨ ((Itl K a).go i H ∧ ∃ Nx : Hp → Prop, (∀ H', Nx H' → ∃ m', m' < m ∧ W (i + 1) m' H') ∧ ∀ v H', (Itl K a).yld i H v H' → gName j v (wipe σ vs) H' fun τ H2 => wipe τ vs = wipe σ vs ∧ tYes τ H2 fun b H3 =>
        if b = true then te τ H3 fun y H4 => ∃ acc, H4 D = some (.lst acc) ∧ acc.length < sizeLine ∧ Nx (upd H4 D (.lst (acc ++ [y]))) else Nx H3) := by
  refine lc_selL (zs := ys.map fun y => (true, y)) hw nD hx hz (by rw [List.length_map, hl]) (fun i x z H _ e _ q k => ?_) (fun i x z H ex e _ s q k => ?_) fun H s e => hd H s (by rw [picked_all] at e; exact e)
  · rw [List.getElem?_map] at e
    cases ey : ys[i]? with
    | none => rw [ey] at e; cases e
    | some y =>
      rw [ey] at e
      cases e
      exact k H fun _ _ e => e
  · rw [List.getElem?_map] at e
    cases ey : ys[i]? with
    | none => rw [ey] at e; cases e
    | some y =>
      rw [ey] at e
      cases e
      exact he i x y H ex ey s q k
end
end Gd
set_option Elab.async false
set_option linter.all false
set_option maxRecDepth 100000
set_option maxHeartbeats 4000000
namespace Ks
open PySem PySem.Spec PyProof.Rows L2 Gd Kx
section
variable {P : Program} {w : World} {K : PySem.W.Frag} {mg : Str → Option Value} {base : Heap}
/-- a constructor that is right for kinds -/
structure RwOk (ks : List Str) (r : Rw) : Prop where
  n : nmS r.1 = true
  k : r.2.1 ∈ ks
  l : r.2.2.length ≤ 3
  f : ∀ x ∈ r.2.2, x ∈ ks
def spIsC : Sp := fun vs H Q _ => ∃ (x : V) (a : Addr) (ks : List Str) (r : Rw), vs = [x, .ref a] ∧ StT H a ks ∧ RowV H x r ∧ RwOk ks r ∧ ∀ H', Same H H' → Q (.bl true) H'
theorem ok_isC {f fi fo : Addr} {fd fdi fdo : FuncData} (F : Fun K "_is_constructor" "_is_constructor" sIsC f fd) (T : TS0 mg)
    (GI : FnOk P w K mg base CX0 1 fi fdi ["value"] (spIs K)) (ki : PySem.W.keepIn K (.ref fi) = true) (bI : Binds K fdi ["value"] []) (gI : mg "is_name" = some (.ref fi))
    (GO : FnOk P w K mg base CX0 1 fo fdo ["value", "names"] (spOne K)) (ko : PySem.W.keepIn K (.ref fo) = true) (bO : Binds K fdo ["value", "names"] []) (gO : mg "_is_one_of" = some (.ref fo)) :
    FnOk P w K mg base CX0 2 f fd ["value", "kinds"] spIsC := by
  obtain ⟨t3, m3⟩ := T.mfi
  refine F.ok scIsC (fun vs H Q E h => ?_) (fun cv A ou s H vs Q E hr h => ?_)
  · obtain ⟨x, a, ks, r, rfl, _⟩ := h
    rfl
  obtain ⟨x, a, ks, r, rfl, hs, ⟨b, fa, rfl, hb, hf⟩, g, q⟩ := h
  refine ⟨_, pss_cons (ps_if (PW.pt (pw_or (pt_not (pt_val (pe_callB call_isi (by rfl) T.isi boot_isinstance (pa_cons (pv 0) (pa_cons (pe_bltn (v := .ty "tuple") (by rfl) T.tup boot_tuple rfl) pa_nil)))))
        (pw_or1 (pt_cmpR op_ne (pe_callB call_len_seq (by rfl) T.len PySem.boot_len (pa_cons (pv 0) pa_nil)) pe_int (nomark _))))) (pss_one (ps_ret pe_bl)) pss_nil)
    (pss_cons (ps_asg (pv 0) (pg_tup (by rfl) (pgs_cons (pg_name (i := 2) scIsC.nd rfl (.inl rfl)) (pgs_cons (pg_name (i := 3) scIsC.nd rfl (.inl rfl)) (pgs_cons (pg_name (i := 4) scIsC.nd rfl (.inl rfl)) pgs_nil)))))
    (pss_cons (ps_if (PW.pt (pw_or (pt_not (pt_val (pe_call GI hr (by rfl) gI ki bI .nil pass0 (pa_cons (pv 2) pa_nil)))) (pw_or1 (pt_not (pt_val (pe_call GO hr (by rfl) gO ko bO .nil pass0 (pa_cons (pv 3) (pa_cons (pv 1) pa_nil)))))))) (pss_one (ps_ret pe_bl)) pss_nil)
    (pss_cons (ps_if (PW.pt (pw_or (pt_not (pt_val (pe_callB call_isi (by rfl) T.isi boot_isinstance (pa_cons (pv 4) (pa_cons (pe_bltn (v := .ty "tuple") (by rfl) T.tup boot_tuple rfl) pa_nil)))))
        (pw_or1 (pt_cmpR op_gt (pe_callB call_len_seq (by rfl) T.len PySem.boot_len (pa_cons (pv 4) pa_nil)) (pe_glob (v := .int 3) (by rfl) m3 ⟨_, rfl⟩) (nomark _))))) (pss_one (ps_ret pe_bl)) pss_nil)
    (pss_one (ps_ret (pe_callB (cr_all rfl) (by rfl) T.all boot_all (pa_cons (pe_lc (own := [("field", 5)]) (g := gName 5) (tt := tYes) rfl scIsC.nd (pi_tup (pv 4)) (blkOk_by (own := [("field", 5)]) (N := ["value", "kinds", "name", "kind", "fields", "field"]) (sc := defScope sIsC) (by decide +kernel))
      (fun _ _ _ _ _ => pg_name (i := 5) scIsC.nd rfl (Or.inl rfl)) (fun _ _ _ _ _ => pts_nil)
      (fun _ _ _ _ _ => asTE (te := tCall (spOne K) [] E0 (tCons (tVar 5) (tCons (tVar 1) tNil))) (pe_call GO hr (by rfl) gO ko bO .nil pass0 (pa_cons (pv 5) (pa_cons (pv 1) pa_nil))) rfl)) pa_nil))))))), ?_⟩
  refine ⟨.ref b, rfl, .ref b, .ty "tuple", _, _, true, rfl, .ty "tuple", .base (.tup hb), kit_ty (by decide +kernel), _, rfl, iteF ?_⟩
  refine ⟨.ref b, rfl, b, _, rfl, .inr (SqT.of hb), rfl, _, rfl, ?_⟩
  rw [show decide (V.int ((([V.str r.1, .str r.2.1, .ref fa] : List V).length : Nat) : Int) = V.int 3) = true from decide_eq_true rfl]
  refine iteF ?_
  refine ⟨.ref b, rfl, b, _, rfl, SqT.of hb, rfl, _, _, rfl, _, _, rfl, _, _, rfl, rfl, ?_⟩
  refine ⟨.str r.1, rfl, .str r.1, rfl, .inl ⟨r.1, rfl, by have := (nm_len g.n).2; omega, fun H2 s2 => ?_⟩⟩
  rw [g.n]
  have hs2 : StT H2 a ks := s2 _ _ hs
  have hf2 : H2 fa = _ := s2 _ _ hf
  refine ⟨true, rfl, iteF ⟨.str r.2.1, rfl, .ref a, rfl, .str r.2.1, a, ks, true, rfl, SqT.of hs2, .inl ⟨r.2.1, rfl, (decide_eq_true g.k).symm⟩, true, rfl, iteF ?_⟩⟩
  refine ⟨.ref fa, rfl, .ref fa, .ty "tuple", _, _, true, rfl, .ty "tuple", .base (.tup hf2), kit_ty (by decide +kernel), _, rfl, iteF ?_⟩
  refine ⟨.ref fa, rfl, fa, _, rfl, .inr (SqT.of hf2), _, _, rfl, rfl, _, rfl, ?_⟩
  have gl := g.l
  rw [decide_eq_false (show ¬ ((r.2.2.map V.str).length : Int) > 3 by rw [List.length_map]; omega)]
  refine iteF ?_
  refine ⟨.ref fa, rfl, fa, rfl, ⟨_, SqT.of hf2⟩, fun D nD => lc_funT (K := K) (a := fa) (xs := r.2.2.map V.str) (ys := List.replicate r.2.2.length (V.bl true)) (fun _ => rfl) nD (SqT.of hf2) (by rw [List.length_map]; omega) (by rw [List.length_map, List.length_replicate]) (fun i x y H3 hx hy s3 q => ?_) fun H3 s3 eD => ?_⟩
  · intro k
    rw [List.getElem?_map] at hx
    cases e : r.2.2[i]? with
    | none => rw [e] at hx; cases hx
    | some z =>
      rw [e] at hx
      cases hx
      have ey : y = V.bl true := by
        have := List.mem_of_getElem? hy
        exact (List.mem_replicate.mp this).2
      subst ey
      exact ⟨.str z, rfl, .ref a, rfl, .str z, a, ks, true, rfl, SqT.of (s3 _ _ hs2), .inl ⟨z, rfl, (decide_eq_true (g.f z (List.mem_of_getElem? e))).symm⟩, k H3 fun _ _ e => e⟩
  · refine ⟨D, List.replicate r.2.2.length true, rfl, SqL.of (by rw [eD, List.map_replicate]), ?_⟩
    rw [show (List.replicate r.2.2.length true).all id = true from List.all_eq_true.mpr fun x hx => by rw [(List.mem_replicate.mp hx).2]; rfl]
    exact q H3 (s2.trans s3)
end
end Ks
set_option Elab.async false
set_option linter.all false
set_option maxRecDepth 100000
set_option maxHeartbeats 4000000
namespace Ks
open PySem PySem.Spec PyProof.Rows L2 Gd Kx
theorem Good.row {m : Md} (g : Good m) {r : Rw} (h : r ∈ m.rs) : RwOk m.ks r := ⟨g.rn r h, g.rk r h, g.f3 r h, g.fk r h⟩
theorem same_upd {H H' : Hp} {L : Addr} {o : HO} (s : Same H H') (n : H L = none) : Same H (upd H' L o) := fun b x e => by rw [upd_ne (ne_of_none e n)]; exact s _ _ e
section
variable {P : Program} {w : World} {K : PySem.W.Frag} {mg : Str → Option Value} {base : Heap}
def spCc : Sp := fun vs H Q _ => ∃ (c a : Addr) (m : Md), vs = [.ref c, .ref a] ∧ StT H a m.ks ∧ RowsT H c m.rs ∧ Good m ∧ ∀ H', Same H H' → Q .non H'
theorem ok_cc {f fi : Addr} {fd fdi : FuncData} (F : Fun K "_check_constructors" "_check_constructors" sCc f fd) (T : TS0 mg)
    (GI : FnOk P w K mg base CX0 2 fi fdi ["value", "kinds"] spIsC) (ki : PySem.W.keepIn K (.ref fi) = true) (bI : Binds K fdi ["value", "kinds"] []) (gI : mg "_is_constructor" = some (.ref fi)) :
    FnOk P w K mg base CX0 3 f fd ["constructors", "kinds"] spCc := by
  obtain ⟨t6, m6⟩ := T.mco
  refine F.ok scCc (fun vs H Q E h => ?_) (fun cv A ou s H vs Q E hr h => ?_)
  · obtain ⟨c, a, m, rfl, _⟩ := h
    rfl
  obtain ⟨c, a, m, rfl, hs, ⟨xs, hc, hp⟩, g, q⟩ := h
  have ln : xs.length = m.rs.length := Paired.length hp
  refine ⟨_, pss_cons (ps_if (PW.pt (pw_or (pt_not (pt_val (pe_callB call_isi (by rfl) T.isi boot_isinstance (pa_cons (pv 0) (pa_cons (pe_bltn (v := .ty "tuple") (by rfl) T.tup boot_tuple rfl) pa_nil)))))
        (pw_or1 (pt_not (pt_chain op_le op_le pe_int (pe_callB call_len_seq (by rfl) T.len PySem.boot_len (pa_cons (pv 0) pa_nil)) (pe_glob (v := .int 6) (by rfl) m6 ⟨_, rfl⟩)))))) pss_never pss_nil)
    (pss_cons (ps_set (i := 2) scCc.nd rfl (.inl rfl) (pe_lst pa_nil))
    (pss_one (ps_for PassesOwn.never rfl (pi_enT (by rfl) T.enu (pa_cons (pv 0) pa_nil)) (pg_tup rfl (pgs_cons (pg_name (i := 3) scCc.nd rfl (.inl rfl)) (pgs_cons (pg_name (i := 4) scCc.nd rfl (.inl rfl)) pgs_nil)))
      (pss_cons (ps_if (PW.pt (pw_or (pt_not (pt_val (pe_call GI hr (by rfl) gI ki bI .nil pass0 (pa_cons (pv 4) (pa_cons (pv 1) pa_nil))))) (pw_or1 (pt_cmpR op_in_seq (pe_ix ix_tup (pv 4) pe_int (fun _ _ => rfl)) (pv 2) (by rfl))))) pss_never pss_nil)
      (pss_one (ps_expr (pe_bm PySem.F.plainAttrs_list PySem.F.slot_list_append PySem.F.type_list_append mt_append (pv 2) (pa_cons (pe_ix ix_tup (pv 4) pe_int (fun _ _ => rfl)) pa_nil)))))))), ?_⟩
  refine ⟨.ref c, rfl, .ref c, .ty "tuple", _, _, true, rfl, .ty "tuple", .base (.tup hc), kit_ty (by decide +kernel), _, rfl, iteF ?_⟩
  refine ⟨.ref c, rfl, c, _, rfl, .inr (SqT.of hc), _, _, rfl, rfl, _, rfl, ?_⟩
  have r1 := g.r1
  have r6 := g.r6
  rw [decide_eq_true (show (1 : Int) ≤ ((xs.length : Nat) : Int) by omega)]
  refine iteT ⟨_, _, rfl, rfl, _, rfl, ?_⟩
  rw [decide_eq_true (show ((xs.length : Nat) : Int) ≤ 6 by omega)]
  refine iteF ⟨(by show 0 ≤ sizeLine; exact Nat.zero_le _), fun L nL => ?_⟩
  refine ⟨.ref c, rfl, c, _, rfl, SqT.of (same_new nL _ _ hc), for_enT (K := K) (t := c) (xs := xs) (fun i σ H' => ∃ o3 o4 : Option V, σ = [some (.ref c), some (.ref a), some (.ref L), o3, o4] ∧ Same H H' ∧ H' L = some (.lst (((m.rs.take i).map (·.1)).map V.str))) ⟨none, none, rfl, same_new nL, upd_same⟩ (fun i σ H' _ p => ?_) ?_ ?_⟩
  · obtain ⟨_, _, _, s1, _⟩ := p
    exact SqT.of (s1 _ _ hc)
  · rintro i x σ H1 p hx ⟨o3, o4, rfl, s1, eL⟩ np
    obtain ⟨r, hr2, b, fa, rfl, hb, hf⟩ := rows_at hp hx
    have hi : i < m.rs.length := (List.getElem?_eq_some_iff.mp hr2).1
    have s2 : Same H1 (upd H1 p (.tup [.int (i : Nat), .ref b])) := same_new np
    refine ⟨p, _, rfl, SqT.of upd_same, rfl, ?_⟩
    have sA := s1.trans s2
    refine ⟨_, _, rfl, _, _, rfl, rfl, .ref b, rfl, .ref a, rfl, .ref b, a, m.ks, r, rfl, sA _ _ hs, ⟨b, fa, rfl, sA _ _ hb, sA _ _ hf⟩, g.row (List.mem_of_getElem? hr2), fun H2 s3 => ⟨true, rfl, iteF ?_⟩⟩
    have sB := sA.trans s3
    have eL2 := s3 _ _ (s2 _ _ eL)
    have hb2 := sB _ _ hb
    refine ⟨.ref b, rfl, b, _, _, .str r.1, rfl, rfl, SqT.of hb2, rfl, .ref L, rfl, L, _, rfl, .inl (SqL.of eL2), rfl, all_flat _, _, rfl, ?_⟩
    rw [if_neg (by decide), inV_str, decide_eq_false (fun h => ?_)]
    · refine iteF ⟨.ref L, rfl, .inl ⟨rfl, _, SqL.of eL2⟩, .ref b, rfl, b, _, _, .str r.1, rfl, rfl, SqT.of hb2, rfl, L, _, _, rfl, rfl, eL2, ?_, _, _, rfl, same_upd sB nL, ?_⟩
      · rw [List.length_map, List.length_map, List.length_take]
        exact small1000 (by omega)
      · rw [upd_same, List.take_add_one, hr2]
        simp
    · rw [List.map_take] at h
      obtain ⟨j, hj, ej⟩ := List.getElem_of_mem h
      rw [List.length_take, List.length_map] at hj
      rw [List.getElem_take] at ej
      have e2 : (m.rs.map (·.1))[j]? = (m.rs.map (·.1))[i]? := by
        rw [List.getElem?_eq_getElem (by rw [List.length_map]; omega), ej, List.getElem?_map, hr2]
        rfl
      have := (List.getElem?_inj (by rw [List.length_map]; omega) g.rd).mp e2
      omega
  · rintro σ H1 ⟨o3, o4, rfl, s1, _⟩
    exact q H1 s1
end
end Ks
set_option Elab.async false
set_option linter.all false
set_option maxRecDepth 100000
set_option maxHeartbeats 4000000
namespace Ks
open PySem PySem.Spec PyProof.Rows L2 Gd Kx
section
variable {P : Program} {w : World} {K : PySem.W.Frag} {mg : Str → Option Value} {base : Heap}
/-- the kinds found so far -/
structure Full (m : Md) (fl : List Str) : Prop where
  nd : fl.Nodup
  sub : ∀ x ∈ fl, x ∈ m.ks
theorem Full.len {m : Md} {fl : List Str} (g : Good m) (f : Full m fl) : fl.length ≤ 4 := Nat.le_trans (nd_le fl m.ks f.nd f.sub) g.k4
theorem ok_ct {f : Addr} {fd : FuncData} (F : Fun K "_check_trees" "_check_trees" sCt f fd) (T : TS0 mg) : FnOk P w K mg base CX0 1 f fd ["kinds", "constructors"] (fun vs H Q E => ∃ (a c : Addr), vs = [.ref a, .ref c] ∧ spCc [.ref c, .ref a] H Q E) := by
  refine F.ok scCt (fun vs H Q E h => ?_) (fun cv A ou s H vs Q E hr h => ?_)
  · obtain ⟨c, a, rfl, _⟩ := h
    rfl
  obtain ⟨a, c, rfl, c', a', m, ec, hs, ⟨xs, hc, hp⟩, g, q⟩ := h
  cases ec
  have ln : xs.length = m.rs.length := Paired.length hp
  have k1 := g.k1
  have k4 := g.k4
  refine ⟨_, pss_cons (ps_set (i := 2) scCt.nd rfl (.inr rfl) (pe_lst pa_nil))
    (pss_cons (ps_for PassesOwn.never rfl (pi_range1 rfl T.rng (pa_cons (pe_callB call_len_seq (by rfl) T.len PySem.boot_len (pa_cons (pv 0) pa_nil)) pa_nil)) (pg_name (i := 3) scCt.nd rfl (.inl rfl))
      (pss_one (ps_for PassesOwn.never rfl (pi_tup (pv 1)) (pg_name (i := 4) scCt.nd rfl (.inl rfl))
        (pss_cons (ps_par (i := 5) (j := 6) (by rfl) scCt.nd rfl rfl (by decide) rfl rfl (pa_cons (pe_ix ix_tup (pv 4) pe_int (fun _ _ => rfl)) (pa_cons (pe_ix ix_tup (pv 4) pe_int (fun _ _ => rfl)) pa_nil)) (by rfl))
        (pss_one (ps_if (PW.pt (pw_and (pt_cmpR op_notIn_seq (pv 5) (pv 2) (by rfl)) (pw_and1 (pt_val (pe_callB (cr_all rfl) (by rfl) T.all boot_all (pa_cons (pe_lc (own := [("field", 7)]) (g := gName 7) (tt := tYes) rfl scCt.nd (pi_tup (pv 6)) (blkOk_by (own := [("field", 7)]) (N := ["kinds", "constructors", "full", "_", "constructor", "kind", "fields", "field"]) (sc := defScope sCt) (by decide +kernel))
            (fun _ _ _ _ _ => pg_name (i := 7) scCt.nd rfl (Or.inl rfl)) (fun _ _ _ _ _ => pts_nil)
            (fun _ _ _ _ _ => asTE (te := tOp (rIn K false) (tVar 7) (tVar 2)) (pe_cmpR op_in_seq (pv 7) (pv 2) (by rfl)) rfl)) pa_nil))))))
          (pss_one (ps_expr (pe_bm PySem.F.plainAttrs_list PySem.F.slot_list_append PySem.F.type_list_append mt_append (pv 2) (pa_cons (pv 5) pa_nil)))) pss_nil))))))
    (pss_one (ps_for PassesOwn.never rfl (pi_tup (pv 0)) (pg_name (i := 5) scCt.nd rfl (.inl rfl)) (pss_one (ps_if (pt_cmpR op_notIn_seq (pv 5) (pv 2) (by rfl)) pss_never pss_nil))))), ?_⟩
  refine ⟨(by show 0 ≤ sizeLine; exact Nat.zero_le _), fun L nL => ?_⟩
  refine ⟨.ref a, rfl, a, _, rfl, .inr (SqT.of (same_new nL _ _ hs)), _, rfl, ?_, ?_, for_range (fun i σ H' => ∃ (o3 o4 o5 o6 : Option V) (fl : List Str), σ = [some (.ref a), some (.ref c), some (.ref L), o3, o4, o5, o6, none] ∧ Same H H' ∧ H' L = some (.lst (fl.map V.str)) ∧ Full m fl ∧ (1 ≤ i → ∀ k ∈ m.ks, k ∈ fl))
    ⟨none, none, none, none, [], rfl, same_new nL, upd_same, ⟨.nil, fun x hx => by cases hx⟩, fun h => by omega⟩ ?_ ?_⟩
  · omega
  · rw [List.length_map]
    omega
  · rintro i σ H1 hi ⟨o3, o4, o5, o6, fl, rfl, s1, eL, fu, al⟩
    refine ⟨.ref c, rfl, c, rfl, ⟨_, SqT.of (s1 _ _ hc)⟩, for_tup (K := K) (a := c) (xs := xs) (fun j σ H' => ∃ (o4 o5 o6 : Option V) (fl : List Str), σ = [some (.ref a), some (.ref c), some (.ref L), some (.int (0 + (i : Int))), o4, o5, o6, none] ∧ Same H H' ∧ H' L = some (.lst (fl.map V.str)) ∧ Full m fl ∧ (∀ r ∈ m.rs.take j, r.2.2 = [] → r.2.1 ∈ fl) ∧ (1 ≤ i → ∀ k ∈ m.ks, k ∈ fl))
      ⟨o4, o5, o6, fl, rfl, s1, eL, fu, (fun r hr _ => by rw [List.take_zero] at hr; cases hr), al⟩ (fun j σ H' _ p => ?_) ?_ ?_⟩
    · obtain ⟨_, _, _, _, _, s2, _⟩ := p
      exact SqT.of (s2 _ _ hc)
    · clear eL fu al
      rintro j x σ H2 hx ⟨o4, o5, o6, fl, rfl, s2, eL, fu, nn, al⟩
      obtain ⟨r, hr2, b, fa, rfl, hb, hf⟩ := rows_at hp hx
      have hrm := List.mem_of_getElem? hr2
      have hb2 := s2 _ _ hb
      have hf2 : StT H2 fa r.2.2 := s2 _ _ hf
      have l4 := fu.len g
      have gf := g.f3 r hrm
      refine ⟨.ref b, rfl, b, _, _, .str r.2.1, rfl, rfl, SqT.of hb2, rfl, .ref b, rfl, b, _, _, .ref fa, rfl, rfl, SqT.of hb2, rfl, _, _, rfl, ?_⟩
      have tk : ∀ fl' : List Str, (∀ x ∈ fl, x ∈ fl') → (r.2.2 = [] → r.2.1 ∈ fl') → ∀ r' ∈ m.rs.take (j + 1), r'.2.2 = [] → r'.2.1 ∈ fl' := fun fl' h1 h2 r' hr' e => by
        rw [List.take_add_one, hr2] at hr'
        rcases List.mem_append.mp hr' with z | z
        · exact h1 _ (nn r' z e)
        · have : r' = r := by simpa using z
          subst this
          exact h2 e
      refine ⟨.str r.2.1, rfl, .ref L, rfl, L, _, rfl, .inl (SqL.of eL), rfl, all_flat _, _, rfl, ?_⟩
      rw [if_pos rfl, inV_str]
      by_cases hk : r.2.1 ∈ fl
      · rw [decide_eq_true hk]
        refine iteF (iteF ?_)
        exact ⟨_, _, _, fl, rfl, s2, eL, fu, tk fl (fun _ h => h) fun _ => hk, al⟩
      · rw [decide_eq_false hk]
        refine iteT ?_
        refine ⟨.ref fa, rfl, fa, rfl, ⟨_, SqT.of hf2⟩, fun D nD => lc_funT (K := K) (a := fa) (xs := r.2.2.map V.str) (ys := (r.2.2.map fun z => decide (z ∈ fl)).map V.bl) (fun _ => rfl) nD (SqT.of hf2) (by rw [List.length_map]; omega) (by rw [List.length_map, List.length_map, List.length_map]) (fun n x y H3 hx hy s3 q => ?_) fun H3 s3 eD => ?_⟩
        · intro k
          rw [List.getElem?_map] at hx
          cases e : r.2.2[n]? with
          | none => rw [e] at hx; cases hx
          | some z =>
            rw [e] at hx
            cases hx
            rw [List.getElem?_map, List.getElem?_map, e] at hy
            cases hy
            refine ⟨.str z, rfl, .ref L, rfl, L, _, rfl, .inl (SqL.of (s3 _ _ eL)), rfl, all_flat _, ?_⟩
            rw [if_neg (by decide), inV_str]
            exact k H3 fun _ _ e => e
        · refine ⟨D, _, rfl, SqL.of eD, _, rfl, ?_⟩
          have eL3 := s3 _ _ eL
          have s4 := s2.trans s3
          cases hb : (r.2.2.map fun z => decide (z ∈ fl)).all id with
          | false =>
            refine iteF ⟨_, _, _, fl, rfl, s4, eL3, fu, tk fl (fun _ h => h) fun e => ?_, al⟩
            rw [e] at hb
            cases hb
          | true =>
            refine iteT ⟨.ref L, rfl, .inl ⟨rfl, _, SqL.of eL3⟩, .str r.2.1, rfl, L, _, _, rfl, rfl, eL3, ?_, _, _, _, fl ++ [r.2.1], rfl, same_upd s4 nL, ?_, ⟨?_, ?_⟩, tk _ (fun _ h => List.mem_append_left _ h) (fun _ => List.mem_append_right _ (List.mem_singleton.mpr rfl)), fun h k hk2 => List.mem_append_left _ (al h k hk2)⟩
            · rw [List.length_map]
              exact small1000 (by omega)
            · rw [upd_same, List.map_append]
              rfl
            · rw [List.nodup_append]
              exact ⟨fu.nd, List.nodup_cons.mpr ⟨by simp, .nil⟩, fun x hx y hy e => hk (by rw [List.mem_singleton.mp hy] at e; rw [← e]; exact hx)⟩
            · intro x hx
              rcases List.mem_append.mp hx with z | z
              · exact fu.sub x z
              · rw [List.mem_singleton.mp z]
                exact g.rk r hrm
    · clear eL fu al
      rintro σ H2 ⟨o4, o5, o6, fl, rfl, s2, eL, fu, nn, al⟩
      refine ⟨_, o4, o5, o6, fl, rfl, s2, eL, fu, fun _ k hk => ?_⟩
      obtain ⟨r, hr, rfl, e⟩ := g.tr k hk
      refine nn r ?_ e
      rw [ln, List.take_length]
      exact hr
  · rintro σ H1 ⟨o3, o4, o5, o6, fl, rfl, s1, eL, fu, al⟩
    have al2 := al (by rw [List.length_map]; omega)
    refine ⟨.ref a, rfl, a, rfl, ⟨_, SqT.of (s1 _ _ hs)⟩, for_tup (K := K) (a := a) (xs := m.ks.map V.str) (fun j σ H' => ∃ (o3 o4 o5 o6 : Option V), σ = [some (.ref a), some (.ref c), some (.ref L), o3, o4, o5, o6, none] ∧ H' = H1) ⟨_, _, _, _, rfl, rfl⟩ (fun j σ H' _ p => ?_) ?_ ?_⟩
    · obtain ⟨_, _, _, _, _, rfl⟩ := p
      exact SqT.of (s1 _ _ hs)
    · rintro j x σ H2 hx ⟨o3, o4, o5, o6, rfl, rfl⟩
      obtain ⟨z, hz, rfl⟩ : ∃ z, m.ks[j]? = some z ∧ x = V.str z := by
        rw [List.getElem?_map] at hx
        cases e : m.ks[j]? with
        | none => rw [e] at hx; cases hx
        | some z => rw [e] at hx; exact ⟨z, rfl, (Option.some.inj hx).symm⟩
      refine ⟨.str z, rfl, .ref L, rfl, L, _, rfl, .inl (SqL.of eL), rfl, all_flat _, _, rfl, ?_⟩
      rw [if_pos rfl, inV_str, decide_eq_true (al2 z (List.mem_of_getElem? hz))]
      exact iteF ⟨_, _, _, _, rfl, rfl⟩
    · rintro σ H2 ⟨o3, o4, o5, o6, rfl, rfl⟩
      exact q _ s1
end
end Ks
set_option Elab.async false
set_option linter.all false
set_option maxRecDepth 100000
set_option maxHeartbeats 4000000
/-! a tuple that tuple(..) has made, its object known: its methods may be called -/
namespace Gd
open PySem PySem.Spec PyProof.Rows L2
def FzT (H : Hp) (a : Addr) (xs : List V) : Prop := ∃ o : Obj, H a = some (.frz o (.tup xs)) ∧ o.cls = .type "tuple" ∧ o.dict = none
theorem FzT.sq {K : PySem.W.Frag} {H : Hp} {a : Addr} {xs : List V} (h : FzT H a xs) : SqT K H a xs := by
  obtain ⟨o, e, _⟩ := h
  exact .inl (.inr ⟨o, e⟩)
theorem FzT.keep {H H' : Hp} {a : Addr} {xs : List V} (h : FzT H a xs) (s : Same H H') : FzT H' a xs := by
  obtain ⟨o, e, r⟩ := h
  exact ⟨o, s _ _ e, r⟩
theorem FzT.ty {K : PySem.W.Frag} {H : Hp} {a : Addr} {xs : List V} (h : FzT H a xs) : TyX K H (.ref a) (.type "tuple") := by
  obtain ⟨o, e, r⟩ := h
  exact .fTuple e
section
variable {X : Cx} {ta : TE} {a : Expr}
/-- tuple(x), x a list: a new tuple, known -/
def kTupF (K : PySem.W.Frag) (x : V) (H : Hp) (Q : VK) : Prop := ∃ p xs, x = .ref p ∧ SqL K H p xs ∧ ∀ q H', H q = none → Same H H' → FzT H' q xs → Q (.ref q) H'
theorem rl_tupF (pins : List (Addr × Obj)) (s : Shared) (σ : L2.St) (H : Hp) (x : V) (v : Value) (Q : VK) (I : Inv X pins σ H s) (r : RelV x v) (h : kTupF X.K x H Q) : wpAny (model X.prog X.w) X.A (call (.type "tuple") [v]) (EP X pins σ Q) X.xe s := by
  obtain ⟨p, xs, rfl, hs, q⟩ := h
  obtain rfl : v = .ref p := r
  obtain ⟨its, rv, pl, hz⟩ := I.list hs
  refine call_tuple_list pl.isList (fun h' hk => ?_) (by rw [List.size_toArray, ← rv.length]; exact hz)
  have J : Inv X pins σ H { s with heap := h' } := I.kept (t' := s.toks) hk
  have hf : H h'.objs.size = none := J.hok.fresh (Nat.le_refl _)
  have J2 : Inv X pins σ (upd H h'.objs.size (.frz { cls := .type "tuple", data := .seq its.toArray } (.tup xs))) { s with heap := h'.push { cls := .type "tuple", data := .seq its.toArray } } :=
    J.laid (t' := s.toks) (fun b o e => Heap.get?_push_of_some _ e) (Nat.le_refl _) ⟨Heap.get?_push_size _ rfl, hz, its, rv, IsTup.new _ _⟩
  exact ⟨.ref h'.objs.size, _, J2, rfl, q _ _ hf (fun b o e => by rw [upd_ne (ne_of_none e hf)]; exact e) ⟨_, upd_same, rfl, rfl⟩⟩
theorem pe_tupF {p pos : Pos} (hg : Gl X "tuple") (hm : X.mg "tuple" = none) (ha : PE X a ta) (na : starEach [a] X.env = (false, eval a X.env) :: starEach [] X.env := by rfl) : PE X (.Call (.Name "tuple" p) [a] [] pos) (tThen ta (kTupF X.K)) :=
  ⟨fun pins s σ H Q I h => Call_ (ld_blt I hg hm boot_tuple (PyProof.Rows.callWith_type1 (one_arg ha I h (fun v s2 x H2 I2 r q => rl_tupF pins s2 σ H2 x v Q I2 r q) na) na))⟩
/-- t.m(e, ..), t such a tuple -/
def tBMf (r : V → List V → Hp → VK → Prop) (to : TE) (t : TA) : TE := fun σ H Q => to σ H fun x H1 => (∃ b xs, x = .ref b ∧ FzT H1 b xs) ∧ t σ H1 fun xs H2 => r x xs H2 Q
theorem pe_bmf {o e : Expr} {es : List Expr} {to : TE} {t : TA} {name : Str} {apos cpos : Pos} {id : String} {r : V → List V → Hp → VK → Prop} (slot : Slot "tuple" name id) (hty : typeOf (.builtin id) = pure (.type "method_descriptor")) (hm : MtR X id r) (ho : PE X o to) (ha : PA X (e :: es) t)
    (hbase : attributeBase o name X.env (eval o X.env) = eval o X.env := by rfl)
    (hfew : ((backTo cpos (starEach (e :: es) X.env)).all (fun x => !x.1) && (backToKw cpos (keywordEach [] X.env)).all (fun x => x.1.isSome) && decide ((e :: es).length + ([] : List Keyword).length + (if ([] : List Keyword).isEmpty then 0 else 1) < 30)) = true := by rfl)
    (hline : (apos.endLine == cpos.line) = true := by rfl) (hs : starEach (e :: es) X.env = (false, eval e X.env) :: starEach es X.env := by rfl) (hplain : (backTo cpos (starEach es X.env)).any (·.1) = false := by rfl) :
    PE X (.Call (.Attribute o name apos) (e :: es) [] cpos) (tBMf r to t) := by
  constructor
  intro pins s σ H Q I h
  refine wpAny_Call_method_late hbase hfew hline rfl (thn (ho.run pins s σ H _ I h) fun v s1 z => ?_)
  obtain ⟨x, H1, I1, r1, ⟨b, xs, ex, ob, e1, c1, d1⟩, q1⟩ := z
  subst ex
  have ev : v = Value.ref b := r1
  subst ev
  obtain ⟨g1, _⟩ := I1.hok b _ e1
  refine ⟨"tuple", id, PySem.F.plainAttrs_tuple, slot, hty, ⟨ob, g1, c1⟩, fun a ea => ?_, ?_⟩
  · cases ea
    exact ⟨ob, g1, d1⟩
  have hA := ha.run cpos pins s1 σ H1 _ I1 q1
  rw [hs] at hA ⊢
  refine Calls.callWith_builtin (by show (false || (backTo cpos (starEach es X.env)).any (·.1)) = false; rw [hplain] <;> rfl) (Calls.evalArgs_plain ?_)
  exact thn hA fun us s2 ⟨vs, H2, I2, r2, q2⟩ => hm pins s2 σ H2 (.ref b) vs (.ref b) us Q I2 rfl r2 q2
end
end Gd
set_option Elab.async false
set_option linter.all false
set_option maxRecDepth 100000
set_option maxHeartbeats 4000000
namespace Ks
open PySem PySem.Spec PyProof.Rows L2 Gd Kx
/-! the places of names: {name: place for place, name in enumerate(names)} -/
def plF : Nat → List Str → List (Key × V)
  | _, [] => []
  | i, t :: r => (.inr t, .int (i : Nat)) :: plF (i + 1) r
def plc (ts : List Str) : List (Key × V) := plF 0 ts
theorem plF_len (ts : List Str) : ∀ i, (plF i ts).length = ts.length := by
  induction ts with
  | nil => intro i; rfl
  | cons t r ih => intro i; show (plF (i + 1) r).length + 1 = r.length + 1; rw [ih]
theorem plF_app (ts us : List Str) : ∀ i, plF i (ts ++ us) = plF i ts ++ plF (i + ts.length) us := by
  induction ts with
  | nil => intro i; rfl
  | cons t r ih =>
    intro i
    show (Sum.inr t, V.int (i : Nat)) :: plF (i + 1) (r ++ us) = (Sum.inr t, V.int (i : Nat)) :: (plF (i + 1) r ++ plF (i + (r.length + 1)) us)
    rw [ih, show i + 1 + r.length = i + (r.length + 1) by omega]
theorem plF_keys (ts : List Str) : ∀ i, (plF i ts).map (·.1) = ts.map Sum.inr := by
  induction ts with
  | nil => intro i; rfl
  | cons t r ih => intro i; show Sum.inr t :: (plF (i + 1) r).map (·.1) = Sum.inr t :: r.map Sum.inr; rw [ih]
theorem plc_put {ts : List Str} (nd : ts.Nodup) {i : Nat} {z : Str} (h : ts[i]? = some z) : putK (plc (ts.take i)) (.inr z) (.int (i : Nat)) = plc (ts.take (i + 1)) := by
  have hl : i < ts.length := (List.getElem?_eq_some_iff.mp h).1
  have nz : z ∉ ts.take i := fun m => by
    obtain ⟨j, hj, e⟩ := List.mem_iff_getElem.mp m
    rw [List.length_take] at hj
    rw [List.getElem_take] at e
    have e1 : ts[j]? = some z := by rw [List.getElem?_eq_getElem (by omega), e]
    have := (List.getElem?_inj (by omega) nd).mp (e1.trans h.symm)
    omega
  have na : ((plc (ts.take i)).any fun kv => decide (kv.1 = Sum.inr z)) = false := by
    rw [List.any_eq_false]
    intro kv hkv hd
    have hk : kv.1 ∈ (plc (ts.take i)).map (·.1) := List.mem_map.mpr ⟨kv, hkv, rfl⟩
    unfold plc at hk
    rw [plF_keys, of_decide_eq_true hd] at hk
    obtain ⟨y, hy, e⟩ := List.mem_map.mp hk
    cases e
    exact nz hy
  unfold putK
  rw [if_neg (by rw [na]; decide)]
  rw [List.take_add_one, h]
  unfold plc
  rw [plF_app, List.length_take, Nat.zero_add, Nat.min_eq_left (Nat.le_of_lt hl)]
  rfl
theorem plF_val {z : Str} (ts : List Str) : ∀ (i j : Nat), ts.Nodup → ts[j]? = some z → valV (plF i ts) (.inr z) = some (.int ((i + j : Nat) : Int)) := by
  induction ts with
  | nil => intro i j _ h; simp at h
  | cons t r ih =>
    intro i j nd h
    cases j with
    | zero =>
      rw [List.getElem?_cons_zero] at h
      cases h
      unfold plF valV
      rw [List.find?_cons_of_pos (by simp)]
      rfl
    | succ j =>
      rw [List.getElem?_cons_succ] at h
      have hz : z ∈ r := List.mem_of_getElem? h
      have ne : t ≠ z := fun e => (List.nodup_cons.mp nd).1 (e ▸ hz)
      have := ih (i + 1) j (List.nodup_cons.mp nd).2 h
      unfold plF
      unfold valV at this ⊢
      rw [List.find?_cons_of_neg (by simpa using ne), this]
      rw [show i + 1 + j = i + (j + 1) by omega]
theorem plc_val {z : Str} {ts : List Str} {j : Nat} (nd : ts.Nodup) (h : ts[j]? = some z) : valV (plc ts) (.inr z) = some (.int (j : Nat)) := by
  have := plF_val ts 0 j nd h
  rw [Nat.zero_add] at this
  exact this
theorem fz_inj {H : Hp} {a : Addr} {ts us : List Str} (h : FzT H a (ts.map V.str)) (h2 : FzT H a (us.map V.str)) : ts = us := by
  obtain ⟨o, e, _⟩ := h
  obtain ⟨o2, e2, _⟩ := h2
  have e3 := e.symm.trans e2
  injection e3 with e3
  injection e3 with _ e3
  injection e3 with e3
  exact List.map_inj_right (fun _ _ h => by injection h) |>.mp e3
/-- the walk of such a comprehension -/
theorem dc_places {K : PySem.W.Frag} {n D : Addr} {ts : List Str} {j1 j2 : Nat} {σ : L2.St} {vs : List Nat} {H : Hp} {Qd : Hp → Prop} (hS : FzT H n (ts.map V.str)) (hD : H D = none) (nd : ts.Nodup) (hl : ts.length < 1000)
    (h1 : ∀ a b, (((wipe σ vs).set j1 (some a)).set j2 (some b))[j2]? = some (some b)) (h2 : ∀ a b, (((wipe σ vs).set j1 (some a)).set j2 (some b))[j1]? = some (some a)) (hw : ∀ a b, wipe (((wipe σ vs).set j1 (some a)).set j2 (some b)) vs = wipe σ vs)
    (hd : ∀ H', Same H H' → H' D = some (.dK (plc ts)) → Qd H') :
    ∃ W : Nat → Nat → Hp → Prop, (∃ m, W 0 m (upd H D (.dK []))) ∧ ∀ i m H, W i m H →
      ((Iet K n).stop i H ∧ Qd H) ∨ ((Iet K n).go i H ∧ ∃ Nx : Hp → Prop, (∀ H', Nx H' → ∃ m', m' < m ∧ W (i + 1) m' H') ∧ ∀ x H', (Iet K n).yld i H x H' → gTup K 2 (gCons (gName j1) (gCons (gName j2) gNil)) x (wipe σ vs) H' fun σ2 H2 => wipe σ2 vs = wipe σ vs ∧ tYes σ2 H2 fun b H3 =>
        if b = true then tVar j2 σ2 H3 fun y H4 => tVar j1 σ2 H4 fun z H5 => ∃ kvs k, y = kV k ∧ H5 D = some (.dK kvs) ∧ kvs.length < sizeLine ∧ Nx (upd H5 D (.dK (putK kvs k z))) else Nx H3) := by
  refine ⟨fun i m H' => i + m = ts.length ∧ Same H H' ∧ H' D = some (.dK (plc (ts.take i))), ⟨ts.length, Nat.zero_add _, same_new hD, upd_same⟩, fun i m H' w => ?_⟩
  obtain ⟨em, s, eD⟩ := w
  have hq := (hS.keep s).sq (K := K)
  cases m with
  | zero =>
    refine .inl ⟨⟨_, hq, by rw [List.length_map]; omega⟩, hd H' s ?_⟩
    rw [eD, List.take_of_length_le (by omega)]
  | succ m =>
    have hi : i < ts.length := by omega
    have ez : ts[i]? = some ts[i] := List.getElem?_eq_getElem hi
    refine .inr ⟨⟨_, .str ts[i], hq, by rw [List.getElem?_map, ez]; rfl⟩, fun H2 => Same H H2 ∧ H2 D = some (.dK (plc (ts.take (i + 1)))), fun H2 ⟨a, b⟩ => ⟨m, Nat.lt_succ_self m, by omega, a, b⟩, ?_⟩
    rintro x H2 ⟨p, v, rfl, np, rfl, hv⟩
    have ev : v = .str ts[i] := by
      have := hv _ hq
      rw [List.getElem?_map, ez] at this
      exact (Option.some.inj this).symm
    subst ev
    refine ⟨p, _, rfl, SqT.of upd_same, rfl, _, _, rfl, _, _, rfl, rfl, hw _ _, Gd.yes_if ⟨.str ts[i], h1 _ _, .int (i : Nat), h2 _ _, plc (ts.take i), .inr ts[i], rfl, ?_, ?_, ?_, ?_⟩⟩
    · rw [upd_ne (ne_of_none eD np)]
      exact eD
    · unfold plc
      rw [plF_len, List.length_take]
      exact small1000 (by omega)
    · intro b o e
      have hb := s _ _ e
      rw [upd_ne (ne_of_none e hD), upd_ne (ne_of_none hb np)]
      exact hb
    · rw [upd_same, plc_put nd ez]
end Ks
set_option Elab.async false
set_option linter.all false
set_option maxRecDepth 100000
set_option maxHeartbeats 4000000
namespace Ks
open PySem PySem.Spec PyProof.Rows L2 Gd Kx
def cS (i : Nat) : Stmt := inClass (Kx.topS 25) i
def nIni : List Str := ["self", "kinds", "constructors", "constructor", "place", "name"]
theorem scIni : FnScope nIni ["self", "kinds", "constructors"] (defScope (cS 0)) := ⟨rfl, rfl, rfl, by decide +kernel, rfl, by decide +kernel, by decide +kernel⟩
/-- the fields of a schema -/
def scF (k c n d : Addr) : List (Str × V) := putF "_places" (.ref d) (putF "_names" (.ref n) (putF "_constructors" (.ref c) (putF "_kinds" (.ref k) [])))
theorem scF_k {k c n d : Addr} : (scF k c n d).lookup ("_kinds" : Str) = some (V.ref k) := rfl
theorem scF_c {k c n d : Addr} : (scF k c n d).lookup ("_constructors" : Str) = some (V.ref c) := rfl
theorem scF_n {k c n d : Addr} : (scF k c n d).lookup ("_names" : Str) = some (V.ref n) := rfl
theorem scF_p {k c n d : Addr} : (scF k c n d).lookup ("_places" : Str) = some (V.ref d) := rfl
/-- an instance with such fields and the places of its names -/
def InS (C : Addr) (H : Hp) (a dx k c n : Addr) (ts : List Str) : Prop := ∃ d : Addr, H a = some (.ins C dx (scF k c n d)) ∧ H d = some (.dK (plc ts))
theorem InS.keep {C : Addr} {H H' : Hp} {a dx k c n : Addr} {ts : List Str} (h : InS C H a dx k c n ts) (s : Same H H') : InS C H' a dx k c n ts := by
  obtain ⟨d, h1, h2⟩ := h
  exact ⟨d, s _ _ h1, s _ _ h2⟩
/-- a schema at a -/
def ScAt (C : Addr) (H : Hp) (a : Addr) (m : Md) : Prop := ∃ dx k c n : Addr, InS C H a dx k c n (m.rs.map (·.1)) ∧ StT H k m.ks ∧ RowsT H c m.rs ∧ FzT H n ((m.rs.map (·.1)).map V.str)
theorem ScAt.keep {C : Addr} {H H' : Hp} {a : Addr} {m : Md} (h : ScAt C H a m) (s : Same H H') : ScAt C H' a m := by
  obtain ⟨dx, k, c, n, h1, h2, h3, h4⟩ := h
  exact ⟨dx, k, c, n, h1.keep s, s _ _ h2, h3.keep s, h4.keep s⟩
/-- what is known of the class -/
structure SCl (K : PySem.W.Frag) (C : Addr) : Prop where
  cls : Cls K C
  nk : NoAttr K C "_kinds"
  nc : NoAttr K C "_constructors"
  nn : NoAttr K C "_names"
  np : NoAttr K C "_places"
section
variable {P : Program} {w : World} {K : PySem.W.Frag} {mg : Str → Option Value} {base : Heap} {C : Addr}
/-- all but x stands -/
def But (x : Addr) (H H' : Hp) : Prop := ∀ b o, b ≠ x → H b = some o → H' b = some o
def spIni (C : Addr) : Sp := fun vs H Q _ => ∃ (x dx k c : Addr) (m : Md), vs = [.ref x, .ref k, .ref c] ∧ H x = some (.ins C dx []) ∧ StT H k m.ks ∧ RowsT H c m.rs ∧ Good m ∧
  ∀ n H', But x H H' → n ≠ x → InS C H' x dx k c n (m.rs.map (·.1)) → FzT H' n ((m.rs.map (·.1)).map V.str) → Q .non H'
theorem ok_ini {f fk fc ft : Addr} {fd fdk fdc fdt : FuncData} (F : Fun K "__init__" "Schema.__init__" (cS 0) f fd) (T : TS0 mg) (Z : SCl K C)
    (GK : FnOk P w K mg base CX0 2 fk fdk ["kinds"] spCk) (kk : PySem.W.keepIn K (.ref fk) = true) (bK : Binds K fdk ["kinds"] []) (gK : mg "_check_kinds" = some (.ref fk))
    (GC : FnOk P w K mg base CX0 3 fc fdc ["constructors", "kinds"] spCc) (kc : PySem.W.keepIn K (.ref fc) = true) (bC : Binds K fdc ["constructors", "kinds"] []) (gC : mg "_check_constructors" = some (.ref fc))
    (GT : FnOk P w K mg base CX0 1 ft fdt ["kinds", "constructors"] (fun vs H Q E => ∃ (a c : Addr), vs = [.ref a, .ref c] ∧ spCc [.ref c, .ref a] H Q E)) (kt : PySem.W.keepIn K (.ref ft) = true) (bT : Binds K fdt ["kinds", "constructors"] []) (gT : mg "_check_trees" = some (.ref ft)) :
    FnOk P w K mg base CX0 4 f fd ["self", "kinds", "constructors"] (spIni C) := by
  refine F.ok scIni (fun vs H Q E h => ?_) (fun cv A ou s H vs Q E hr h => ?_)
  · obtain ⟨x, dx, k, c, m, rfl, _⟩ := h
    rfl
  obtain ⟨x, dx, k, c, m, rfl, hx, hs, hc, g, q⟩ := h
  have hr2 : Room 2 (A.deeper (envOfC "Schema.__init__" (defScope (cS 0)) s.heap.objs.size f cv)) := hr.mono (by decide)
  have hr1 : Room 1 (A.deeper (envOfC "Schema.__init__" (defScope (cS 0)) s.heap.objs.size f cv)) := hr.mono (by decide)
  refine ⟨_, pss_cons (ps_expr (pe_call GK hr2 (by rfl) gK kk bK .nil pass0 (pa_cons (pv 1) pa_nil)))
    (pss_cons (ps_expr (pe_call GC hr (by rfl) gC kc bC .nil pass0 (pa_cons (pv 2) (pa_cons (pv 1) pa_nil))))
    (pss_cons (ps_expr (pe_call GT hr1 (by rfl) gT kt bT .nil pass0 (pa_cons (pv 1) (pa_cons (pv 2) pa_nil))))
    (pss_cons (ps_fld (pv 0) (pv 1) rfl)
    (pss_cons (ps_fld (pv 0) (pv 2) rfl)
    (pss_cons (ps_fld (pv 0) (pe_tupF (by rfl) T.tup (pe_lc (own := [("constructor", 3)]) (g := gName 3) (tt := tYes) rfl scIni.nd (pi_tup (pv 2)) (blkOk_by (own := [("constructor", 3)]) (N := nIni) (sc := defScope (cS 0)) (by decide +kernel))
      (fun _ _ _ _ _ => pg_name (i := 3) scIni.nd rfl (Or.inl rfl)) (fun _ _ _ _ _ => pts_nil) (fun _ _ _ _ _ => asTE (te := tOp (rIxT K) (tVar 3) (tC (.int 0))) (pe_ix ix_tup (pv 3) pe_int (fun _ _ => rfl)) rfl))) rfl)
    (pss_one (ps_fld (pv 0) (pe_dc (own := [("place", 4), ("name", 5)]) (g := gTup K 2 (gCons (gName 4) (gCons (gName 5) gNil))) (tt := tYes) (tk := tVar 5) (tv := tVar 4) rfl scIni.nd (pi_enT (by rfl) T.enu (pa_cons (pe_fld (pv 0) rfl) pa_nil)) (blkOk_by (own := [("place", 4), ("name", 5)]) (N := nIni) (sc := defScope (cS 0)) (by decide +kernel))
      (fun _ _ _ _ _ => pg_tup (by rfl) (pgs_cons (pg_name (i := 4) scIni.nd rfl (Or.inl rfl)) (pgs_cons (pg_name (i := 5) scIni.nd rfl (Or.inl rfl)) pgs_nil))) (fun _ _ _ _ _ => pts_nil) (fun _ _ _ _ _ => pv 5) (fun _ _ _ _ _ => pv 4)) rfl))))))), ?_⟩
  refine ⟨.ref k, rfl, k, m, rfl, hs, g, fun H1 s1 => ?_⟩
  refine ⟨.ref c, rfl, .ref k, rfl, c, k, m, rfl, s1 _ _ hs, hc.keep s1, g, fun H2 s2 => ?_⟩
  have s12 := s1.trans s2
  refine ⟨.ref k, rfl, .ref c, rfl, k, c, rfl, c, k, m, rfl, s12 _ _ hs, hc.keep s12, g, fun H3 s3 => ?_⟩
  have s13 := s12.trans s3
  refine ⟨.ref k, rfl, .ref x, rfl, x, C, dx, [], rfl, s13 _ _ hx, Z.cls, Z.nk, by decide, ?_⟩
  refine ⟨.ref c, rfl, .ref x, rfl, x, C, dx, _, rfl, upd_same, Z.cls, Z.nc, (show 1 < 1000 by decide), ?_⟩
  have hs' : H k = some (.tup (m.ks.map V.str)) := hs
  have kx : k ≠ x := fun e => by rw [e, hx] at hs'; cases hs'
  obtain ⟨xs, hc1, hp⟩ := hc
  have cx : c ≠ x := fun e => by rw [e, hx] at hc1; cases hc1
  have b5 : But x H (upd (upd H3 x (.ins C dx (putF "_kinds" (V.ref k) []))) x (.ins C dx (putF "_constructors" (V.ref c) (putF "_kinds" (V.ref k) [])))) := fun b o n e => by
    rw [upd_ne n, upd_ne n]
    exact s13 _ _ e
  have x5 : (upd (upd H3 x (.ins C dx (putF "_kinds" (V.ref k) []))) x (.ins C dx (putF "_constructors" (V.ref c) (putF "_kinds" (V.ref k) [])))) x = some (.ins C dx (putF "_constructors" (V.ref c) (putF "_kinds" (V.ref k) []))) := upd_same
  revert b5 x5
  generalize upd (upd H3 x (.ins C dx (putF "_kinds" (V.ref k) []))) x (.ins C dx (putF "_constructors" (V.ref c) (putF "_kinds" (V.ref k) []))) = H5
  intro b5 x5
  have hc5 := b5 _ _ cx hc1
  have r6 := g.r6
  have ln : xs.length = m.rs.length := Paired.length hp
  refine ⟨.ref c, rfl, c, rfl, ⟨_, SqT.of hc5⟩, fun D nD => lc_funT (K := K) (a := c) (xs := xs) (ys := (m.rs.map (·.1)).map V.str) (fun _ => rfl) nD (SqT.of hc5) (by omega) (by rw [List.length_map, List.length_map, ln]) (fun n y z H6 hy hz s6 p => ?_) fun H6 s6 eD => ?_⟩
  · intro kk
    obtain ⟨r, hr2, b, fa, rfl, hb, hf⟩ := rows_at hp hy
    rw [List.getElem?_map, List.getElem?_map, hr2] at hz
    cases hz
    have bx : b ≠ x := fun e => by rw [e, hx] at hb; cases hb
    exact ⟨.ref b, rfl, b, _, _, .str r.1, rfl, rfl, SqT.of (s6 _ _ (b5 _ _ bx hb)), rfl, kk H6 fun _ _ e => e⟩
  · refine ⟨D, _, rfl, SqL.of eD, fun N H7 nN s7 fz => ?_⟩
    have x6 := s6 _ _ x5
    have Nx : N ≠ x := fun e => by rw [← e, nN] at x6; cases x6
    refine ⟨.ref x, rfl, x, C, dx, _, rfl, s7 _ _ x6, Z.cls, Z.nn, (show 2 < 1000 by decide), ?_⟩
    have fz8 : FzT (upd H7 x (.ins C dx (putF "_names" (V.ref N) (putF "_constructors" (V.ref c) (putF "_kinds" (V.ref k) []))))) N ((m.rs.map (·.1)).map V.str) := by
      obtain ⟨o, e, r⟩ := fz
      exact ⟨o, by rw [upd_ne Nx]; exact e, r⟩
    have b8 : But x H (upd H7 x (.ins C dx (putF "_names" (V.ref N) (putF "_constructors" (V.ref c) (putF "_kinds" (V.ref k) []))))) := fun b o n e => by
      rw [upd_ne n]
      exact s7 _ _ (s6 _ _ (b5 _ _ n e))
    have x8 : (upd H7 x (.ins C dx (putF "_names" (V.ref N) (putF "_constructors" (V.ref c) (putF "_kinds" (V.ref k) []))))) x = some (.ins C dx (putF "_names" (V.ref N) (putF "_constructors" (V.ref c) (putF "_kinds" (V.ref k) [])))) := upd_same
    revert fz8 b8 x8
    generalize upd H7 x (.ins C dx (putF "_names" (V.ref N) (putF "_constructors" (V.ref c) (putF "_kinds" (V.ref k) [])))) = H8
    intro fz8 b8 x8
    refine ⟨.ref x, rfl, x, C, dx, _, _, rfl, x8, Z.cls, Z.nn, rfl, N, _, rfl, fz8.sq, fun Dd nDd => dc_places fz8 nDd g.rd (by rw [List.length_map]; omega) (fun _ _ => rfl) (fun _ _ => rfl) (fun _ _ => rfl) fun H9 s9 eDd => ?_⟩
    have x9 := s9 _ _ x8
    have Dx : Dd ≠ x := fun e => by rw [← e, nDd] at x8; cases x8
    refine ⟨.ref x, rfl, x, C, dx, _, rfl, x9, Z.cls, Z.np, (show 3 < 1000 by decide), ?_⟩
    refine q N _ (fun b o n e => ?_) Nx ⟨Dd, upd_same, ?_⟩ ?_
    · rw [upd_ne n]
      exact s9 _ _ (b8 _ _ n e)
    · rw [upd_ne Dx]
      exact eDd
    · obtain ⟨o, e, r⟩ := fz8
      exact ⟨o, by rw [upd_ne Nx]; exact s9 _ _ e, r⟩
end
end Ks
set_option Elab.async false
set_option linter.all false
set_option maxRecDepth 100000
set_option maxHeartbeats 4000000
namespace Ks
open PySem PySem.Spec PyProof.Rows L2 Gd Kx
theorem scGk : FnScope ["self"] ["self"] (defScope (cS 2)) := ⟨rfl, rfl, rfl, by decide +kernel, rfl, by decide +kernel, by decide +kernel⟩
theorem scGc : FnScope ["self"] ["self"] (defScope (cS 3)) := ⟨rfl, rfl, rfl, by decide +kernel, rfl, by decide +kernel, by decide +kernel⟩
theorem scGr : FnScope ["self"] ["self"] (defScope (cS 4)) := ⟨rfl, rfl, rfl, by decide +kernel, rfl, by decide +kernel, by decide +kernel⟩
theorem scGn : FnScope ["self"] ["self"] (defScope (cS 5)) := ⟨rfl, rfl, rfl, by decide +kernel, rfl, by decide +kernel, by decide +kernel⟩
theorem scOf : FnScope ["self", "kind", "constructor"] ["self", "kind"] (defScope (cS 6)) := ⟨rfl, rfl, rfl, by decide +kernel, rfl, by decide +kernel, by decide +kernel⟩
theorem scCo : FnScope ["self", "name"] ["self", "name"] (defScope (cS 7)) := ⟨rfl, rfl, rfl, by decide +kernel, rfl, by decide +kernel, by decide +kernel⟩
theorem scPl : FnScope ["self", "name"] ["self", "name"] (defScope (cS 8)) := ⟨rfl, rfl, rfl, by decide +kernel, rfl, by decide +kernel, by decide +kernel⟩
theorem scLn : FnScope ["self"] ["self"] (defScope (cS 11)) := ⟨rfl, rfl, rfl, by decide +kernel, rfl, by decide +kernel, by decide +kernel⟩
theorem scCn : FnScope ["self", "value"] ["self", "value"] (defScope (cS 12)) := ⟨rfl, rfl, rfl, by decide +kernel, rfl, by decide +kernel, by decide +kernel⟩
section
variable {P : Program} {w : World} {K : PySem.W.Frag} {mg : Str → Option Value} {base : Heap} {C : Addr}
/-- an instance with the fields of a schema -/
def Raw (C : Addr) (H : Hp) (a k c n : Addr) : Prop := ∃ (dx : Addr) (ts : List Str), InS C H a dx k c n ts ∧ FzT H n (ts.map V.str)
theorem Raw.keep {C : Addr} {H H' : Hp} {a k c n : Addr} (h : Raw C H a k c n) (s : Same H H') : Raw C H' a k c n := by
  obtain ⟨dx, ts, h1, h2⟩ := h
  exact ⟨dx, ts, h1.keep s, h2.keep s⟩
def spGk (C : Addr) : Sp := fun vs H Q _ => ∃ a k c n : Addr, vs = [.ref a] ∧ Raw C H a k c n ∧ Q (.ref k) H
def spGc (C : Addr) : Sp := fun vs H Q _ => ∃ a k c n : Addr, vs = [.ref a] ∧ Raw C H a k c n ∧ Q (.ref c) H
def spGn (C : Addr) : Sp := fun vs H Q _ => ∃ a k c n : Addr, vs = [.ref a] ∧ Raw C H a k c n ∧ Q (.ref n) H
def spGr (C : Addr) : Sp := fun vs H Q _ => ∃ (a k c n : Addr) (z : Str) (r : List Str), vs = [.ref a] ∧ Raw C H a k c n ∧ StT H k (z :: r) ∧ Q (.str z) H
theorem ok_gk {f : Addr} {fd : FuncData} (F : Fun K "kinds" "Schema.kinds" (cS 2) f fd) (Z : SCl K C) : FnOk P w K mg base CX0 1 f fd ["self"] (spGk C) := by
  refine F.ok scGk (fun vs H Q E h => ?_) (fun cv A ou s H vs Q E hr h => ?_)
  · obtain ⟨a, k, c, n, rfl, _⟩ := h
    rfl
  obtain ⟨a, k, c, n, rfl, ⟨dx, ts0, ⟨dp, e, ed⟩, fz0⟩, q⟩ := h
  exact ⟨_, pss_one (ps_ret (pe_fld (pv 0) rfl)), .ref a, rfl, a, C, dx, _, _, rfl, e, Z.cls, Z.nk, scF_k, q⟩
theorem ok_gc {f : Addr} {fd : FuncData} (F : Fun K "constructors" "Schema.constructors" (cS 3) f fd) (Z : SCl K C) : FnOk P w K mg base CX0 1 f fd ["self"] (spGc C) := by
  refine F.ok scGc (fun vs H Q E h => ?_) (fun cv A ou s H vs Q E hr h => ?_)
  · obtain ⟨a, k, c, n, rfl, _⟩ := h
    rfl
  obtain ⟨a, k, c, n, rfl, ⟨dx, ts0, ⟨dp, e, ed⟩, fz0⟩, q⟩ := h
  exact ⟨_, pss_one (ps_ret (pe_fld (pv 0) rfl)), .ref a, rfl, a, C, dx, _, _, rfl, e, Z.cls, Z.nc, scF_c, q⟩
theorem ok_gn {f : Addr} {fd : FuncData} (F : Fun K "names" "Schema.names" (cS 5) f fd) (Z : SCl K C) : FnOk P w K mg base CX0 1 f fd ["self"] (spGn C) := by
  refine F.ok scGn (fun vs H Q E h => ?_) (fun cv A ou s H vs Q E hr h => ?_)
  · obtain ⟨a, k, c, n, rfl, _⟩ := h
    rfl
  obtain ⟨a, k, c, n, rfl, ⟨dx, ts0, ⟨dp, e, ed⟩, fz0⟩, q⟩ := h
  exact ⟨_, pss_one (ps_ret (pe_fld (pv 0) rfl)), .ref a, rfl, a, C, dx, _, _, rfl, e, Z.cls, Z.nn, scF_n, q⟩
theorem ok_gr {f : Addr} {fd : FuncData} (F : Fun K "root" "Schema.root" (cS 4) f fd) (Z : SCl K C) : FnOk P w K mg base CX0 1 f fd ["self"] (spGr C) := by
  refine F.ok scGr (fun vs H Q E h => ?_) (fun cv A ou s H vs Q E hr h => ?_)
  · obtain ⟨a, k, c, n, z, r, rfl, _⟩ := h
    rfl
  obtain ⟨a, k, c, n, z, r, rfl, ⟨dx, ts0, ⟨dp, e, ed⟩, fz0⟩, hk, q⟩ := h
  exact ⟨_, pss_one (ps_ret (pe_ix ix_tup (pe_fld (pv 0) rfl) pe_int (fun _ _ => rfl))), .ref a, rfl, a, C, dx, _, _, rfl, e, Z.cls, Z.nk, scF_k, k, _, _, V.str z, rfl, rfl, SqT.of hk, atI_nat (j := 0) (v := V.str z) rfl, q⟩
def spLn (C : Addr) : Sp := fun vs H Q _ => ∃ (a k c n : Addr) (xs : List V), vs = [.ref a] ∧ Raw C H a k c n ∧ H c = some (.tup xs) ∧ Q (.int xs.length) H
theorem ok_ln {f : Addr} {fd : FuncData} (F : Fun K "__len__" "Schema.__len__" (cS 11) f fd) (T : TS0 mg) (Z : SCl K C) : FnOk P w K mg base CX0 1 f fd ["self"] (spLn C) := by
  refine F.ok scLn (fun vs H Q E h => ?_) (fun cv A ou s H vs Q E hr h => ?_)
  · obtain ⟨a, k, c, n, xs, rfl, _⟩ := h
    rfl
  obtain ⟨a, k, c, n, xs, rfl, ⟨dx, ts0, ⟨dp, e, ed⟩, fz0⟩, hc, q⟩ := h
  exact ⟨_, pss_one (ps_ret (pe_callB call_len_seq (by rfl) T.len PySem.boot_len (pa_cons (pe_fld (pv 0) rfl) pa_nil))), .ref a, rfl, a, C, dx, _, _, rfl, e, Z.cls, Z.nc, scF_c, c, xs, rfl, .inr (SqT.of hc), q⟩
def spCn (K : PySem.W.Frag) (C : Addr) : Sp := fun vs H Q _ => ∃ (a k c n : Addr) (v : V) (ts : List Str) (b : Bool), vs = [.ref a, v] ∧ Raw C H a k c n ∧ FzT H n (ts.map V.str) ∧ OneOf K H v ts b ∧ Q (.bl b) H
theorem ok_cn {f fo : Addr} {fd fdo : FuncData} (F : Fun K "__contains__" "Schema.__contains__" (cS 12) f fd) (Z : SCl K C)
    (GO : FnOk P w K mg base CX0 1 fo fdo ["value", "names"] (spOne K)) (ko : PySem.W.keepIn K (.ref fo) = true) (bO : Binds K fdo ["value", "names"] []) (gO : mg "_is_one_of" = some (.ref fo)) : FnOk P w K mg base CX0 2 f fd ["self", "value"] (spCn K C) := by
  refine F.ok scCn (fun vs H Q E h => ?_) (fun cv A ou s H vs Q E hr h => ?_)
  · obtain ⟨a, k, c, n, v, ts, b, rfl, _⟩ := h
    rfl
  obtain ⟨a, k, c, n, v, ts, b, rfl, ⟨dx, ts0, ⟨dp, e, ed⟩, fz0⟩, hn, o, q⟩ := h
  exact ⟨_, pss_one (ps_ret (pe_call GO hr (by rfl) gO ko bO .nil pass0 (pa_cons (pv 1) (pa_cons (pe_fld (pv 0) rfl) pa_nil)))), v, rfl, .ref a, rfl, a, C, dx, _, _, rfl, e, Z.cls, Z.nn, scF_n, v, n, ts, b, rfl, hn.sq, o, q⟩
/-- the place of a name -/
def spPl (C : Addr) : Sp := fun vs H Q _ => ∃ (a k c n : Addr) (ts : List Str) (z : Str) (j : Nat), vs = [.ref a, .str z] ∧ Raw C H a k c n ∧ FzT H n (ts.map V.str) ∧ ts.Nodup ∧ ts[j]? = some z ∧ Q (.int (j : Nat)) H
theorem ok_pl {f fo : Addr} {fd fdo : FuncData} (F : Fun K "place" "Schema.place" (cS 8) f fd) (Z : SCl K C)
    (GO : FnOk P w K mg base CX0 1 fo fdo ["value", "names"] (spOne K)) (ko : PySem.W.keepIn K (.ref fo) = true) (bO : Binds K fdo ["value", "names"] []) (gO : mg "_is_one_of" = some (.ref fo)) : FnOk P w K mg base CX0 2 f fd ["self", "name"] (spPl C) := by
  refine F.ok scPl (fun vs H Q E h => ?_) (fun cv A ou s H vs Q E hr h => ?_)
  · obtain ⟨a, k, c, n, ts, z, j, rfl, _⟩ := h
    rfl
  obtain ⟨a, k, c, n, ts, z, j, rfl, ⟨dx, ts0, ⟨dp, e, ed⟩, fz0⟩, hn, nd, hj, q⟩ := h
  refine ⟨_, pss_cons (ps_if (pt_not (pt_val (pe_call GO hr (by rfl) gO ko bO .nil pass0 (pa_cons (pv 1) (pa_cons (pe_fld (pv 0) rfl) pa_nil))))) pss_never pss_nil)
    (pss_one (ps_ret (pe_dget (hu_of hr) (pe_fld (pv 0) rfl) (pv 1) (fun _ _ => rfl)))), ?_⟩
  refine ⟨.str z, rfl, .ref a, rfl, a, C, dx, _, _, rfl, e, Z.cls, Z.nn, scF_n, .str z, n, ts, true, rfl, hn.sq, .inl ⟨z, rfl, (decide_eq_true (List.mem_of_getElem? hj)).symm⟩, true, rfl, iteF ?_⟩
  have ets := fz_inj fz0 hn
  subst ets
  exact ⟨.ref a, rfl, a, C, dx, _, _, rfl, e, Z.cls, Z.np, scF_p, .str z, rfl, dp, _, rfl, (by have := DGet.k (k := Sum.inr z) ed; rw [plc_val nd hj] at this; exact this), q⟩
/-- a constructor by its name -/
def spCo (C : Addr) : Sp := fun vs H Q _ => ∃ (a k c n : Addr) (ts : List Str) (xs : List V) (z : Str) (j : Nat) (x : V), vs = [.ref a, .str z] ∧ Raw C H a k c n ∧ FzT H n (ts.map V.str) ∧ ts.Nodup ∧ ts[j]? = some z ∧ H c = some (.tup xs) ∧ xs[j]? = some x ∧ Q x H
theorem ok_co {f fp : Addr} {fd fdp : FuncData} (F : Fun K "constructor" "Schema.constructor" (cS 7) f fd) (Z : SCl K C)
    (GP : FnOk P w K mg base CX0 2 fp fdp ["self", "name"] (spPl C)) (mP : Meth K C "place" fp) (bP : Binds K fdp ["self", "name"] []) : FnOk P w K mg base CX0 3 f fd ["self", "name"] (spCo C) := by
  refine F.ok scCo (fun vs H Q E h => ?_) (fun cv A ou s H vs Q E hr h => ?_)
  · obtain ⟨a, k, c, n, ts, xs, z, j, x, rfl, _⟩ := h
    rfl
  obtain ⟨a, k, c, n, ts, xs, z, j, x, rfl, ⟨dx, ts0, ⟨dp, e, ed⟩, fz0⟩, hn, nd, hj, hc, hx, q⟩ := h
  refine ⟨_, pss_one (ps_ret (pe_ix ix_tup (pe_fld (pv 0) rfl) (pe_meth (pv 0) Z.cls mP GP hr bP .nil pass0 (pa_cons (pv 1) pa_nil)) (fun _ _ => rfl))), ?_⟩
  exact ⟨.ref a, rfl, a, C, dx, _, _, rfl, e, Z.cls, Z.nc, scF_c, .ref a, rfl, a, dx, _, rfl, e, rfl, .str z, rfl, a, k, c, n, ts, z, j, rfl, ⟨dx, ts0, ⟨dp, e, ed⟩, fz0⟩, hn, nd, hj, c, xs, _, x, rfl, rfl, SqT.of hc, atI_nat hx, q⟩
end
end Ks
set_option Elab.async false
set_option linter.all false
set_option maxRecDepth 100000
set_option maxHeartbeats 4000000
/-! operations on an instance of a class of one's own, by its defs: len, repr, in, bool, ==, != -/
namespace Gd
open PySem PySem.Spec PyProof.Rows L2
section
variable {X : Cx} {CX : CXT} {k : Nat} {C f a dx : Addr} {fs : List (Str × V)} {fd : FuncData} {ps : List Str} {sp : Sp} {E : XK} {pins : List (Addr × Obj)} {σ : L2.St} {H : Hp} {s : Shared} {Q : VK} {A : Around} {us : List Value} {vs : List V} {E' : Value → Shared → Prop}
theorem run_at (F : FnOk X.prog X.w X.K X.mg X.base CX k f fd ps sp) (hr : Room k A) (e0 : Env0 X.prog X.w X.K X.mg X.base A X.stack s H) (hb : Binds X.K fd ps []) (hx : Passes CX X.nox E) (I : Inv X pins σ H s) (r : Vals vs us) (h : sp vs H Q E) :
    wpAny (model X.prog X.w) A (call (.ref f) us) (EP X pins σ Q) E' s := by
  have hl : (us ++ ([] : List Value)).length = ps.length := by rw [List.append_nil, ← r.length]; exact F.len _ _ _ _ h
  have hB := hb s us I.kIn hl
  rw [List.append_nil] at hB
  refine wpAny_call (codeAny_mono (F.run A X.stack s H ⟨us, []⟩ us vs Q E hr e0 hB r h) fun r s' hq => ?_)
  cases r with
  | error er => exact False.elim (hx pins σ H s er s' (I.wish _) hq)
  | ok fl =>
    cases fl with
    | ret u =>
      obtain ⟨v, H', I3, rv, q3⟩ := I.after hq
      exact ⟨v, H', I3, rv, q3⟩
    | next => exact False.elim hq
    | brk => exact False.elim hq
    | cont => exact False.elim hq
/-- a def of the class with this name -/
structure Dm (K : PySem.W.Frag) (C : Addr) (m : Str) (f : Addr) : Prop where
  at_ : PySem.W.findIn K (.ref C) m = some (some (.ref f))
  fn : PySem.W.isFn K (.ref f) = true
/-- len(x) -/
def rLenO (C : Addr) (sp : Sp) (E : XK) : List V → Hp → VK → Prop := fun xs H Q => ∃ a dx fs, xs = [.ref a] ∧ H a = some (.ins C dx fs) ∧ sp [.ref a] H (fun v H' => ∃ n : Int, v = .int n ∧ 0 ≤ n ∧ n < 2 ^ 63 ∧ Q (.int n) H') E
theorem call_lenO (D : Dm X.K C "__len__" f) (F : FnOk X.prog X.w X.K X.mg X.base CX k f fd ps sp) (hr : Room (k + 1) X.A) (hb : Binds X.K fd ps []) (hx : Passes CX X.nox E) : CallR X (.builtin "len") (rLenO C sp E) := by
  intro pins s σ H xs us Q I r h
  obtain ⟨a, dx, fs, rfl, ea, q⟩ := h
  have e1 := Vals.ref1 r
  subst e1
  obtain ⟨mA, J, _⟩ := ins_get I.hok ea
  obtain ⟨od, J, _⟩ := J.look
  obtain ⟨m, hF⟩ := I.fr
  refine PySem.W.len_K hF I.ok.mod.kin J D.at_ D.fn (wpAny_mono (run_at F hr.in1 I.env0.in1 hb hx I r q) (fun v s' z => ?_) fun _ _ e => e)
  obtain ⟨y, H', I', ry, n, ey, n0, n1, q2⟩ := z
  subst ey
  obtain ⟨t, rfl⟩ := ry
  exact ⟨⟨n0, n1⟩, .int n, H', I'.tok _, ⟨_, rfl⟩, q2⟩
/-- repr(x) -/
def rReprO (C : Addr) (sp : Sp) (E : XK) : List V → Hp → VK → Prop := fun xs H Q => ∃ a dx fs, xs = [.ref a] ∧ H a = some (.ins C dx fs) ∧ sp [.ref a] H (fun v H' => ∃ z : Str, v = .str z ∧ Q (.str z) H') E
theorem call_reprO (D : Dm X.K C "__repr__" f) (F : FnOk X.prog X.w X.K X.mg X.base CX k f fd ps sp) (hr : Room (k + 1) X.A) (hb : Binds X.K fd ps []) (hx : Passes CX X.nox E) : CallR X (.builtin "repr") (rReprO C sp E) := by
  intro pins s σ H xs us Q I r h
  obtain ⟨a, dx, fs, rfl, ea, q⟩ := h
  have e1 := Vals.ref1 r
  subst e1
  obtain ⟨mA, J, _⟩ := ins_get I.hok ea
  obtain ⟨od, J, _⟩ := J.look
  obtain ⟨m, hF⟩ := I.fr
  refine PySem.W.repr_K hr.in1.units0 hF I.ok.mod.kin J D.at_ D.fn (wpAny_mono (run_at F hr.in1 I.env0.in1 hb hx I r q) (fun v s' z => ?_) fun _ _ e => e)
  obtain ⟨y, H', I', ry, z, ey, q2⟩ := z
  subst ey
  obtain ⟨t, rfl⟩ := ry
  exact ⟨.str z, H', I', ⟨_, rfl⟩, q2⟩
/-- v in x -/
def rInO (C : Addr) (sp : Sp) (E : XK) : R2 := fun v y H Q => ∃ a dx fs, y = .ref a ∧ H a = some (.ins C dx fs) ∧ sp [.ref a, v] H (fun r H' => ∃ b : Bool, r = .bl b ∧ Q (.bl b) H') E
theorem op_inO (D : Dm X.K C "__contains__" f) (F : FnOk X.prog X.w X.K X.mg X.base CX k f fd ps sp) (hr : Room k X.A) (hb : Binds X.K fd ps []) (hx : Passes CX X.nox E) : OpR X (compareOp .In) (rInO C sp E) := by
  intro pins s σ H x y v u Q I rx ry h
  obtain ⟨a, dx, fs, rfl, ea, q⟩ := h
  obtain rfl : u = Value.ref a := ry
  obtain ⟨mA, J, _⟩ := ins_get I.hok ea
  obtain ⟨od, J, _⟩ := J.look
  obtain ⟨m, hF⟩ := I.fr
  refine PySem.W.in_K hF I.ok.mod.kin J D.at_ D.fn (wpAny_mono (run_at F hr I.env0 hb hx I (.cons (show RelV (V.ref a) (Value.ref a) from rfl) (.cons rx .nil)) q) (fun r s' z => ?_) fun _ _ e => e)
  obtain ⟨y, H', I', ry, b, ey, q2⟩ := z
  subst ey
  obtain rfl : r = Value.bool b := ry
  exact wpAny_pure ⟨.bl b, H', I', rfl, q2⟩
/-- x == y, x an instance: y one too, or a value of a type that is no class above -/
def rEqO (K : PySem.W.Frag) (C : Addr) (sp : Sp) (E : XK) : R2 := fun x y H Q => ∃ a dx fs, x = .ref a ∧ H a = some (.ins C dx fs) ∧ ((∃ b dy gs, y = .ref b ∧ H b = some (.ins C dy gs)) ∨ ∃ t, TyOf K H y t ∧ PySem.W.notFirst K C t = true) ∧
  sp [.ref a, y] H (fun r H' => ∃ b : Bool, r = .bl b ∧ Q (.bl b) H') E
/-- what type a value has, as the machine asks -/
theorem looks_ty {M : Model} {K : PySem.W.Frag} {y : V} {u t : Value} (hK : X.K = K) (I : Inv X pins σ H s) (r : RelV y u) (ty : TyOf K H y t) : PySem.W.Looks M s.heap (typeOf u) t := by
  subst hK
  have ld : ∀ {b : Addr} {o : Obj}, s.heap.get? b = some o → PySem.W.Looks M s.heap (typeOf (.ref b)) o.cls := fun e => (PySem.W.Looks.ld e).andThen .now
  cases ty with
  | non => cases (show u = Value.none from r); exact .now
  | bl b => cases (show u = Value.bool b from r); exact .now
  | int i => obtain ⟨t, e⟩ := (show ∃ t, u = Value.int i t from r); cases e; exact .now
  | str z => obtain ⟨t, e⟩ := (show ∃ t, u = Value.str z t from r); cases e; exact .now
  | flt z => obtain ⟨t, e⟩ := (show ∃ t, u = Value.float z t from r); cases e; exact .now
  | @lst b xs e =>
    cases (show u = Value.ref b from r)
    obtain ⟨_, its, n, _, g⟩ := (show ObjOk X.prog X.w H s.heap b (.lst xs) from I.hok b _ e)
    exact ld g
  | @frz b ob xs e =>
    cases (show u = Value.ref b from r)
    obtain ⟨_, _, its, n, _, g⟩ := (show ObjOk X.prog X.w H s.heap b (.frz ob (.lst xs)) from I.hok b _ e)
    exact ld g
  | @tup b xs e =>
    cases (show u = Value.ref b from r)
    obtain ⟨_, its, _, o, g, c, _⟩ := (show ObjOk X.prog X.w H s.heap b (.tup xs) from I.hok b _ e)
    rw [← c]
    exact ld g
  | @dK b kvs e =>
    cases (show u = Value.ref b from r)
    obtain ⟨_, _, vs, _, o, es, ep, g, ex, _⟩ := (show ObjOk X.prog X.w H s.heap b (.dK kvs) from I.hok b _ e)
    rw [← ex.1]
    exact ld g
  | @dT b kvs e =>
    cases (show u = Value.ref b from r)
    obtain ⟨_, _, xs, _, o, es, ep, g, ex, _⟩ := (show ObjOk X.prog X.w H s.heap b (.dT kvs) from I.hok b _ e)
    rw [← ex.1]
    exact ld g
  | @ins b C dx fs e cl ha hn htk hm =>
    cases (show u = Value.ref b from r)
    obtain ⟨mA, J, _⟩ := ins_get I.hok e
    obtain ⟨od, J, _⟩ := J.look
    exact J.type
theorem op_eqO (D : Dm X.K C "__eq__" f) (F : FnOk X.prog X.w X.K X.mg X.base CX k f fd ps sp) (hr : Room k X.A) (hb : Binds X.K fd ps []) (hx : Passes CX X.nox E) : OpR X (compareOp .Eq) (rEqO X.K C sp E) := by
  intro pins s σ H x y v u Q I rx ry h
  obtain ⟨a, dx, fs, rfl, ea, hy, q⟩ := h
  obtain rfl : v = Value.ref a := rx
  obtain ⟨mA, J, _⟩ := ins_get I.hok ea
  obtain ⟨od, J, _⟩ := J.look
  obtain ⟨m, hF⟩ := I.fr
  obtain ⟨tb, hb', hn⟩ : ∃ tb, PySem.W.Looks (model X.prog X.w) s.heap (typeOf u) tb ∧ PySem.W.notFirst X.K C tb = true := by
    rcases hy with ⟨b, dy, gs, rfl, eb⟩ | ⟨t, ty, nf⟩
    · obtain rfl : u = Value.ref b := ry
      obtain ⟨mB, J2, _⟩ := ins_get I.hok eb
      obtain ⟨od2, J2, _⟩ := J2.look
      exact ⟨_, J2.type, by simp [PySem.W.notFirst]⟩
    · exact ⟨t, looks_ty rfl I ry ty, nf⟩
  show wpAny _ _ (richCompare .Eq (.ref a) u) _ _ _
  refine PySem.W.cmp_K (op := .Eq) hr.units0 hF I.ok.mod.kin J hb' hn D.at_ D.fn (wpAny_mono (run_at F hr I.env0 hb hx I (.cons (show RelV (V.ref a) (Value.ref a) from rfl) (.cons ry .nil)) q) (fun r s' z => ?_) fun _ _ e => e)
  obtain ⟨y, H', I', ry, b, ey, q2⟩ := z
  subst ey
  obtain rfl : r = Value.bool b := ry
  exact ⟨.bl b, H', I', rfl, q2⟩
end
end Gd
set_option Elab.async false
set_option linter.all false
set_option maxRecDepth 100000
set_option maxHeartbeats 4000000
namespace Ks
open PySem PySem.Spec PyProof.Rows L2 Gd Kx
theorem scEq : FnScope ["self", "other"] ["self", "other"] (defScope (cS 13)) := ⟨rfl, rfl, rfl, by decide +kernel, rfl, by decide +kernel, by decide +kernel⟩
theorem scRp : FnScope ["self"] ["self"] (defScope (cS 10)) := ⟨rfl, rfl, rfl, by decide +kernel, rfl, by decide +kernel, by decide +kernel⟩
/-! ### kinds and constructors as plain data -/
def dSs (ss : List Str) : PyData := .tuple (ss.map .str)
def dRw (r : Rw) : PyData := .tuple [.str r.1, .str r.2.1, dSs r.2.2]
def dRs (rs : List Rw) : PyData := .tuple (rs.map dRw)
section
variable {K : PySem.W.Frag} {H : Hp}
theorem dp_strs : ∀ ss : List Str, DpAll K H (ss.map V.str) (ss.map PyData.str)
  | [] => .nil
  | s :: r => .cons (.str s) (dp_strs r)
theorem dp_st {a : Addr} {ss : List Str} (h : SqT K H a (ss.map V.str)) : Dp K H (.ref a) (dSs ss) := .tup h (dp_strs ss)
theorem dp_row {x : V} {r : Rw} (h : RowV H x r) : Dp K H x (dRw r) := by
  obtain ⟨b, f, rfl, h1, h2⟩ := h
  exact .tup (SqT.of h1) (.cons (.str _) (.cons (.str _) (.cons (dp_st (SqT.of h2)) .nil)))
theorem dp_rws : ∀ {xs : List V} {rs : List Rw}, Paired (RowV H) xs rs → DpAll K H xs (rs.map dRw)
  | _, _, .nil => .nil
  | _, _, .cons h t => .cons (dp_row h) (dp_rws t)
theorem dp_rs {c : Addr} {rs : List Rw} (h : RowsT H c rs) : Dp K H (.ref c) (dRs rs) := by
  obtain ⟨xs, e, p⟩ := h
  exact .tup (SqT.of e) (dp_rws p)
end
theorem eqvAll_map {α : Type} [DecidableEq α] {d : α → PyData} (h : ∀ x y : α, PyData.eqv (d x) (d y) = decide (x = y)) : ∀ xs ys : List α, PyData.eqvAll (xs.map d) (ys.map d) = decide (xs = ys)
  | [], [] => rfl
  | [], y :: ys => rfl
  | x :: xs, [] => rfl
  | x :: xs, y :: ys => by
    show (PyData.eqv (d x) (d y) && PyData.eqvAll (xs.map d) (ys.map d)) = _
    rw [h, eqvAll_map h xs ys, Bool.eq_iff_iff]
    simp
theorem eqv_str (x y : Str) : PyData.eqv (.str x) (.str y) = decide (x = y) := by
  show (x == y) = _
  rw [Bool.eq_iff_iff]
  simp
theorem eqv_ss (a b : List Str) : PyData.eqv (dSs a) (dSs b) = decide (a = b) := eqvAll_map eqv_str a b
theorem eqv_rw (a b : Rw) : PyData.eqv (dRw a) (dRw b) = decide (a = b) := by
  show (PyData.eqv (.str a.1) (.str b.1) && (PyData.eqv (.str a.2.1) (.str b.2.1) && (PyData.eqv (dSs a.2.2) (dSs b.2.2) && true))) = _
  rw [eqv_str, eqv_str, eqv_ss, Bool.eq_iff_iff]
  obtain ⟨a1, a2, a3⟩ := a
  obtain ⟨b1, b2, b3⟩ := b
  simp
theorem eqv_rs (a b : List Rw) : PyData.eqv (dRs a) (dRs b) = decide (a = b) := eqvAll_map eqv_rw a b
theorem inN_ok {c : Nat} (h : inN c = true) : c < 0x110000 := by
  have m : c ∈ signs.cps.toList := of_decide_eq_true h
  have all : ∀ d ∈ signs.cps.toList, d < 0x110000 := by decide +kernel
  exact all c m
theorem nm_ok {z : Str} (h : nmS z = true) : PyData.strOk z = true := by
  unfold PyData.strOk
  rw [← Array.all_toList]
  unfold nmS at h
  cases ec : z.cps.toList with
  | nil => rfl
  | cons c r =>
    rw [ec, nmL_cons, Bool.and_eq_true_iff] at h
    exact List.all_eq_true.mpr fun d hd => decide_eq_true (inN_ok (List.all_eq_true.mp h.2 d hd))
theorem lay_all : ∀ {ds : List PyData}, (∀ d ∈ ds, d.canLay0 = true) → PyData.canLayAll0 ds = true
  | [], _ => rfl
  | d :: r, h => by
    show (PyData.canLay0 d && PyData.canLayAll0 r) = true
    rw [h d (List.mem_cons_self ..), lay_all fun x hx => h x (List.mem_cons_of_mem _ hx)]
    rfl
theorem dep_all {n : Nat} : ∀ {ds : List PyData}, (∀ d ∈ ds, d.depth ≤ n) → PyData.depthAll ds ≤ n + 1
  | [], _ => by show 0 ≤ _; omega
  | d :: r, h => by
    have a := h d (List.mem_cons_self ..)
    have b := dep_all fun x hx => h x (List.mem_cons_of_mem _ hx)
    rw [PyData.depthAll]
    omega
theorem lay_ss {ss : List Str} (h : ∀ s ∈ ss, nmS s = true) : (dSs ss).canLay0 = true ∧ (dSs ss).depth ≤ 3 := by
  refine ⟨lay_all fun d hd => ?_, ?_⟩
  · obtain ⟨s, hs, rfl⟩ := List.mem_map.mp hd
    exact nm_ok (h s hs)
  · have := dep_all (n := 1) (ds := ss.map PyData.str) fun d hd => by
      obtain ⟨s, hs, rfl⟩ := List.mem_map.mp hd
      rw [PyData.depth]
      omega
    unfold dSs
    rw [PyData.depth]
    omega
theorem lay_rw {ks : List Str} (hk : ∀ s ∈ ks, nmS s = true) {r : Rw} (g : RwOk ks r) : (dRw r).canLay0 = true ∧ (dRw r).depth ≤ 5 := by
  have e := lay_ss (ss := r.2.2) fun s hs => hk s (g.f s hs)
  have all : ∀ d ∈ [PyData.str r.1, .str r.2.1, dSs r.2.2], d.canLay0 = true ∧ d.depth ≤ 3 := by
    intro d hd
    simp only [List.mem_cons, List.not_mem_nil, or_false] at hd
    rcases hd with rfl | rfl | rfl
    · exact ⟨nm_ok g.n, by rw [PyData.depth]; omega⟩
    · exact ⟨nm_ok (hk _ g.k), by rw [PyData.depth]; omega⟩
    · exact e
  refine ⟨lay_all fun d hd => (all d hd).1, ?_⟩
  have := dep_all (n := 3) fun d hd => (all d hd).2
  unfold dRw
  rw [PyData.depth]
  omega
theorem Good.shK {m : Md} (g : Good m) : SeqAt.shaped (dSs m.ks) = true := by
  obtain ⟨h1, h2⟩ := lay_ss g.kn
  unfold SeqAt.shaped
  rw [h1, decide_eq_true (by omega)]
  rfl
theorem Good.shR {m : Md} (g : Good m) : SeqAt.shaped (dRs m.rs) = true := by
  have all : ∀ d ∈ m.rs.map dRw, d.canLay0 = true ∧ d.depth ≤ 5 := fun d hd => by
    obtain ⟨r, hr, rfl⟩ := List.mem_map.mp hd
    exact lay_rw g.kn (g.row hr)
  have d := dep_all (n := 5) fun d hd => (all d hd).2
  unfold SeqAt.shaped
  have e : (dRs m.rs).depth ≤ 64 := by
    unfold dRs
    rw [PyData.depth]
    omega
  rw [show (dRs m.rs).canLay0 = true from lay_all fun d hd => (all d hd).1, decide_eq_true e]
  rfl
/-- what isinstance asks of the class -/
structure SCi (K : PySem.W.Frag) (C : Addr) : Prop where
  ca : PySem.W.findIn K (.ref C) "__class__" = some (some (.builtin "object.__class__"))
  cn : PySem.W.specialIn K (.builtin "object.__class__") "__get__" = some (some (.builtin "getset_descriptor.__get__"))
  ct : PySem.W.takesIn K (.builtin "object.__class__") = some true
  mo : PySem.W.mroIn K C (.type "object") = some true
section
variable {P : Program} {w : World} {K : PySem.W.Frag} {mg : Str → Option Value} {base : Heap} {C : Addr}
theorem ScAt.ty {H : Hp} {a : Addr} {m : Md} (h : ScAt C H a m) (Z : SCl K C) (I : SCi K C) : TyOf K H (.ref a) (.ref C) := by
  obtain ⟨dx, k, c, n, ⟨dp, e, _⟩, _⟩ := h
  exact .ins e Z.cls I.ca I.cn I.ct I.mo
/-- the == of schemas -/
def spEq (K : PySem.W.Frag) (C : Addr) : Sp := fun vs H Q _ => ∃ (a : Addr) (y : V) (m : Md), vs = [.ref a, y] ∧ ScAt C H a m ∧ Good m ∧
  ((∃ (b : Addr) (m' : Md), y = .ref b ∧ ScAt C H b m' ∧ Good m' ∧ Q (.bl (decide (m.ks = m'.ks) && decide (m.rs = m'.rs))) H) ∨ (∃ t, TyX K H y t ∧ PySem.W.kitOne K t (.ref C) = some false ∧ Q (.bl false) H))
theorem ok_eq {f : Addr} {fd : FuncData} (F : Fun K "__eq__" "Schema.__eq__" (cS 13) f fd) (T : TS0 mg) (gS : mg "Schema" = some (.ref C)) (Z : SCl K C) (I : SCi K C) : FnOk P w K mg base CX0 1 f fd ["self", "other"] (spEq K C) := by
  refine F.ok scEq (fun vs H Q E h => ?_) (fun cv A ou s H vs Q E hr h => ?_)
  · obtain ⟨a, y, m, rfl, _⟩ := h
    rfl
  obtain ⟨a, y, m, rfl, ha, g, h⟩ := h
  have hu := hr.units
  refine ⟨_, pss_one (ps_ret (pe_and (pe_callB call_isi (by rfl) T.isi boot_isinstance (pa_cons (pv 1) (pa_cons (pe_glob (v := .ref C) (by rfl) gS rfl) pa_nil)))
    (pe_and (pe_cmpR (op_eqD hu) (pe_fld (pv 0) rfl) (pe_fld (pv 1) rfl) (nomark _)) (pe_one (pe_cmpR (op_eqD hu) (pe_fld (pv 0) rfl) (pe_fld (pv 1) rfl) (nomark _)))))), ?_⟩
  rcases h with ⟨b, m', rfl, hb, g', q⟩ | ⟨t, ty, ek, q⟩
  · refine ⟨.ref b, rfl, .ref b, .ref C, _, .ref C, true, rfl, .own C, .base (hb.ty Z I), ?_, _, rfl, ?_⟩
    · unfold PySem.W.kitOne
      rw [if_pos (beq_self_eq_true _)]
    refine iteT ?_
    obtain ⟨dx, k, c, n, ⟨dpa, ea, _⟩, ek, ec, en⟩ := ha
    obtain ⟨dy, k', c', n', ⟨dpb, eb, _⟩, ek', ec', en'⟩ := hb
    refine ⟨.ref a, rfl, a, C, dx, _, _, rfl, ea, Z.cls, Z.nk, scF_k, .ref b, rfl, b, C, dy, _, _, rfl, eb, Z.cls, Z.nk, scF_k, _, _, dp_st (SqT.of ek), dp_st (SqT.of ek'), g.shK, g'.shK, ?_⟩
    rw [eqv_ss]
    refine ⟨_, rfl, ?_⟩
    cases h1 : decide (m.ks = m'.ks) with
    | false =>
      rw [h1] at q
      exact iteF q
    | true =>
      rw [h1] at q
      refine iteT ⟨.ref a, rfl, a, C, dx, _, _, rfl, ea, Z.cls, Z.nc, scF_c, .ref b, rfl, b, C, dy, _, _, rfl, eb, Z.cls, Z.nc, scF_c, _, _, dp_rs ec, dp_rs ec', g.shR, g'.shR, ?_⟩
      rw [eqv_rs]
      exact q
  · refine ⟨y, rfl, y, .ref C, _, .ref C, false, rfl, .own C, ty, ek, _, rfl, iteF q⟩
end
end Ks
set_option Elab.async false
set_option linter.all false
set_option maxRecDepth 100000
set_option maxHeartbeats 4000000
/-! try: body, except (A, B, C) as n: suite, the three own classes -/
namespace Gd
open PySem PySem.Spec PyProof.Rows L2
theorem fly_more {h h' B : Heap} {l : List Env} {e : Addr} {Z : Obj → Prop} (k : ∀ b o, h.get? b = some o → h'.get? b = some o) (f : HandSPX.FlyingZ B l e Z h) : HandSPX.FlyingZ B l e Z h' := by
  obtain ⟨f1, f2, f3, oe, vs, T, oT, ts, g1, g2, g3, g4, g5, g6, g7, g8, g9⟩ := f
  exact ⟨fun b o q => k b o (f1 b o q), f2, f3.of_keeps fun b o q _ => ⟨o, k b o q, rfl⟩, oe, vs, T, oT, ts, k _ _ g1, g2, g3, g4, g5, g6, k _ _ g7, g8, g9⟩
/-- what such a clause wishes of an exception of the body -/
def wTup (K : PySem.W.Frag) (n : Nat) (c1 c2 c3 : Value) (i : Nat) (ts : Addr → Value → Option Addr → TS) (Wout : WX) (D : Ends) : WX := fun cls d σ H =>
  ∃ b, PySem.W.exmAny K cls [c1, c2, c3] = some b ∧ (b = true → ∀ a, H a = none → σ.length = n → ts a cls d ⟨fun τ G => D.nx (τ.set i none) G, D.rt, fun τ G => D.bk (τ.set i none) G, fun τ G => D.ct (τ.set i none) G⟩ (σ.set i (some (.ref a))) H) ∧ (b = false → Wout cls d σ H)
section
variable {X : Cx} {x1 x2 x3 n : Str} {c1 c2 c3 : Value} {i k : Nat} {body suite : List Stmt} {b₀ : Stmt} {p1 p2 p3 tp pos hpos : Pos} {tb : WX → TS} {ts : Addr → Value → Option Addr → TS} {Wout : WX}
theorem ps_try3 (hs : X.stack = X.env :: X.outer) (hf : X.env.frame = some X.env.locals) (hN : X.N.Nodup) (hi : X.N[i]? = some n) (hln : X.env.kindOf n = some .local)
    (g1 : Gl X x1) (m1 : X.mg x1 = some c1) (g2 : Gl X x2) (m2 : X.mg x2 = some c2) (g3 : Gl X x3) (m3 : X.mg x3 = some c3) (tk : Takes X Wout)
    (hb : ∀ (W : WX) (pn : List (Addr × Obj)) (xe : Value → Shared → Prop), Takes (X.tr pn xe) W → PassesOwn (model X.prog X.w) X.A X.env xe → PSs (X.tr pn xe) body (tb W))
    (hsu : ∀ (a : Addr) (oe : Obj) (cls : Value) (d : Option Addr) (pn : List (Addr × Obj)), Zc cls d oe → (∃ vs, oe.data = .fields vs) → PSs (X.suite a ((a, oe) :: pn)) (b₀ :: suite) (ts a cls d))
    (d1 : (x1 == ("__debug__" : Str)) = false := by decide) (d2 : (x2 == ("__debug__" : Str)) = false := by decide) (d3 : (x3 == ("__debug__" : Str)) = false := by decide) :
    PS X (.Try body [.ExceptHandler (some (.Tuple [.Name x1 p1, .Name x2 p2, .Name x3 p3] k tp)) (some n) (b₀ :: suite) hpos] [] [] pos) (fun D σ H => tb (wTup X.K X.N.length c1 c2 c3 i ts Wout D) D σ H) := by
  constructor
  intro pins s σ H D I0 h0
  have okX := I0.ok
  have frX : X.A.frames = some (X.env :: X.outer) := by rw [okX.frames, hs]
  have locN : Loc X.env.scope n := .inl hln
  refine wpAny_Try_except ?_
  refine wpAny_mono ((hb (wTup X.K X.N.length c1 c2 c3 i ts Wout D) (X.pn ++ pins) (fun e t1 => wpAny (model X.prog X.w) X.A (noteFrame e X.env) (fun _ t2 => wpAny (model X.prog X.w) X.A (setFlight e none) (fun _ t3 =>
    wpAny (model X.prog X.w) X.A (handleBy e X.env [.ExceptHandler (some (.Tuple [.Name x1 p1, .Name x2 p2, .Name x3 p3] k tp)) (some n) (b₀ :: suite) hpos]) (SP X pins D) X.xe t3) X.xe t2) X.xe t1) (fun u z xx => ?_) PassesOwn.looking).run [] s σ H D (I0.toTry _) h0) (fun f s1 hsp => ?_) (fun e s1 he => he)
  · obtain ⟨a, B, y, pins2, τ, G, cls, d, rfl, J0, nb, up, sky, na, os, ag, b, hb1, hyes, hno⟩ := xx
    have J : Inv X pins τ G y := J0.ofTry okX
    have sky2 : Sky B (X.env :: X.outer) a (Zc cls d) X.env.locals z.heap := by rw [← hs]; exact sky
    show wpAny (model X.prog X.w) X.A (noteFrame (.ref a) X.env) _ _ _
    refine Sky.land Zc.steady frX hf sky2 fun h3 fl3 up3 => ?_
    -- the three classes make a tuple
    have kp : ∀ b o, h3.get? b = some o → (h3.push { cls := .type "tuple", data := .seq [c1, c2, c3].toArray }).get? b = some o := fun b o e => Heap.get?_push_of_some _ e
    have fl4 := fly_more kp fl3
    have up4 : y.heap.UpToSlots (h3.push { cls := .type "tuple", data := .seq [c1, c2, c3].toArray }) := (up.trans up3).trans (Heap.UpToSlots.of_keeps kp)
    have J3 : Inv X pins τ G { z with heap := h3 } := J.landed nb fl3.1 (up.trans up3) os ag
    have J4 : Inv X pins τ G { z with heap := h3.push { cls := .type "tuple", data := .seq [c1, c2, c3].toArray } } := J.landed nb fl4.1 up4 os ag
    obtain ⟨oe3, vs3, he3, hz3, hd3⟩ := fl3.there
    have off : ∀ {g : Heap} {o : Obj} {vs : Array Value}, g.FunFrames B (X.env :: X.outer) → g.get? a = some o → o.data = .fields vs → a ∉ frs (X.env :: X.outer) := by
      intro g o vs ff e dd hm
      obtain ⟨_, o2, e2, hnf⟩ := ff.mem hm
      rw [e] at e2
      cases e2
      exact hnf _ dd
    have nfr := off fl3.2.2.1 he3 hd3
    have nL : a ≠ X.env.locals := fun q => nfr (List.mem_filterMap.mpr ⟨X.env, List.mem_cons_self, by rw [hf, q]⟩)
    have nF : a ∉ X.fs := fun hm => by
      obtain ⟨e, he, q⟩ := List.mem_filterMap.mp hm
      exact nfr (List.mem_filterMap.mpr ⟨e, List.mem_cons_of_mem _ he, q⟩)
    have S3 := J3.suite he3 hd3 na nL nF
    refine wpAny_handleBy_cons (codeAny_handlers_test ?_) (by intro q; cases q)
    have he4 := kp _ _ he3
    have LT : PySem.W.Looks (model X.prog X.w) (h3.push { cls := .type "tuple", data := .seq [c1, c2, c3].toArray }) (typeOf (.ref a)) cls := fun A Q E t kk q => wpAny_typeOf_ref (kk _ _ he4) (by rw [hz3.1]; exact q)
    have LM := PySem.W.exm_tup3 (M := model X.prog X.w) J4.kIn LT (tp := h3.objs.size) (Heap.get?_push_size _ rfl) hb1
    have evalT : ∀ {Q : Value → Shared → Prop} {E : Value → Shared → Prop}, Q (.ref h3.objs.size) { z with heap := h3.push { cls := .type "tuple", data := .seq [c1, c2, c3].toArray } } →
        wpAny (model X.prog X.w) (X.A.mark (some (.ref a))) (eval (.Tuple [.Name x1 p1, .Name x2 p2, .Name x3 p3] k tp) X.env) Q E { z with heap := h3 } := by
      intro Q E q
      refine wpAny_Tuple_spliced ?_
      refine Calls.spliced_cons (ld_glob (X := X.suite a ((a, oe3) :: (X.pn ++ pins))) S3 g1 m1 ?_ d1)
      refine Calls.spliced_cons (ld_glob (X := X.suite a ((a, oe3) :: (X.pn ++ pins))) S3 g2 m2 ?_ d2)
      refine Calls.spliced_cons (ld_glob (X := X.suite a ((a, oe3) :: (X.pn ++ pins))) S3 g3 m3 ?_ d3)
      exact Calls.spliced_nil ⟨by rw [sizeLine_eq]; exact (by decide : 3 ≤ 16777216), q⟩
    refine evalT (LM.here ?_)
    cases b with
    | true =>
      refine codeAny_handlers_suite_as ?_
      refine HandSPX.lands_againZ fl4 fun h5 fl5 up5 => ?_
      have J5 : Inv X pins τ G { z with heap := h5 } := J.landed nb fl5.1 (up4.trans up5) os ag
      obtain ⟨oe5, vs5, he5, hz5, hd5⟩ := fl5.there
      have S5 := J5.suite he5 hd5 na nL nF
      refine store_ok (X := X.suite a ((a, oe5) :: (X.pn ++ pins))) (v := .ref a) S5 hN hi locN rfl (fun s6 S6 => ?_) (.inr hln)
      refine wpAny_mono ((hsu a oe5 cls d (X.pn ++ pins) hz5 ⟨_, hd5⟩).run [] s6 _ G _ S6 (hyes rfl a na J.len)) (fun f s7 hsp => ?_) (fun _ _ q => False.elim q)
      have leave : ∀ {τ7 : L2.St} {G7 : Hp} {Q : Shared → Prop}, Inv (X.suite a ((a, oe5) :: (X.pn ++ pins))) [] τ7 G7 s7 → (∀ s8, Inv X pins (τ7.set i none) G7 s8 → Q s8) →
          wpAny (model X.prog X.w) X.A (do bindName X.env n .none; unbindBehindTheSuite X.env n hpos) (fun _ s8 => Q s8) X.xe s7 := fun {τ7 G7 Q} S7 hq => gone_ok (S7.unsuite okX) hN hi hln hq
      cases f with
      | ret u =>
        obtain ⟨v7, τ7, G7, S7, r7, q7⟩ := hsp
        exact leave S7 fun s8 J8 => ⟨_, _, _, J8, r7, q7⟩
      | next =>
        obtain ⟨τ7, G7, S7, q7⟩ := hsp
        exact leave S7 fun s8 J8 => ⟨_, _, J8, q7⟩
      | brk =>
        obtain ⟨τ7, G7, S7, q7⟩ := hsp
        exact leave S7 fun s8 J8 => ⟨_, _, J8, q7⟩
      | cont =>
        obtain ⟨τ7, G7, S7, q7⟩ := hsp
        exact leave S7 fun s8 J8 => ⟨_, _, J8, q7⟩
    | false =>
      show wpAny _ X.A (handleBy (.ref a) X.env []) _ _ _
      refine wpAny_handleBy_nil ?_
      obtain ⟨_, _, _, oe, vs, T, oT, ts2, hea, hza, hda, hv1, _⟩ := id fl4
      unfold PySem.passOn
      refine wpAny_bind (wpAny_field hea hda hv1 ?_)
      rw [if_neg (show ¬ ((Value.ref T == Value.none) = true) from by simp)]
      have on : wpAny (model X.prog X.w) X.A (setFlight (.ref a) X.env.frame) (fun _ s8 => wpAny (model X.prog X.w) X.A (throw (.ref a) : Sem Flow) (SP X pins D) X.xe s8) X.xe { z with heap := h3.push { cls := .type "tuple", data := .seq [c1, c2, c3].toArray } } := by
        rw [hf]
        refine HandSPX.setFlight_upZ fl4 fun h5 hh5 up5 => wpAny_throw (tk _ _ ?_)
        exact ⟨a, B, y, pins, τ, G, cls, d, rfl, J, nb, up4.trans up5, .inr (.inr (by rw [hs]; exact hh5)), na, os, ag, hno rfl⟩
      first
        | exact wpAny_bind (wpAny_pure (wpAny_bind on))
        | exact wpAny_bind on
  · cases f with
    | ret u =>
      obtain ⟨v, τ, G, J0, r, q⟩ := hsp
      exact ⟨v, τ, G, J0.ofTry okX, r, q⟩
    | next =>
      obtain ⟨τ, G, J0, q⟩ := hsp
      exact wpAny_execs_nil ⟨τ, G, J0.ofTry okX, q⟩
    | brk =>
      obtain ⟨τ, G, J0, q⟩ := hsp
      exact ⟨τ, G, J0.ofTry okX, q⟩
    | cont =>
      obtain ⟨τ, G, J0, q⟩ := hsp
      exact ⟨τ, G, J0.ofTry okX, q⟩
end
end Gd
set_option Elab.async false
set_option linter.all false
set_option maxRecDepth 100000
set_option maxHeartbeats 4000000
/-! the exception that is handled, handed to a def: its class asked, its field read; repr of any plain thing -/
namespace Gd
open PySem PySem.Spec PyProof.Rows L2
/-! ### repr(x), x plain data of any kind -/
def rShowV (K : PySem.W.Frag) : List V → Hp → VK → Prop := fun xs H Q => ∃ (v : V) (d : PyData), xs = [v] ∧ Dp K H v d ∧ d.showable = true ∧ d.hasDict = false ∧ d.depth ≤ 60 ∧ d.shown.length ≤ sizeLine ∧ Q (.str d.shown) H
theorem call_showV {X : Cx} (hG : X.A.guards = some []) (hu : X.A.units + 64 < cLine) : CallR X (.builtin "repr") (rShowV X.K) := by
  intro pins s σ H xs us Q I r h
  obtain ⟨v, d, rfl, hd, hs, hn, hz, hl, q⟩ := h
  obtain ⟨u, rfl, ru⟩ := vals1 r
  cases hd with
  | non =>
    cases (show u = Value.none from ru)
    exact PySem.P.repr_of_none ⟨.str "None", H, I.tok _, ⟨_, rfl⟩, q⟩
  | bl b =>
    cases (show u = Value.bool b from ru)
    refine PySem.P.repr_of_bool ?_
    cases b with
    | true => exact ⟨.str "True", H, I.tok _, ⟨_, rfl⟩, q⟩
    | false => exact ⟨.str "False", H, I.tok _, ⟨_, rfl⟩, q⟩
  | int i =>
    obtain ⟨t, rfl⟩ := (show ∃ t, u = Value.int i t from ru)
    refine PySem.P.repr_of_int ?_ ⟨.str (toString i), H, I.tok _, ⟨_, rfl⟩, q⟩
    rw [PyData.showable] at hs
    exact of_decide_eq_true hs
  | str z =>
    obtain ⟨t, rfl⟩ := (show ∃ t, u = Value.str z t from ru)
    exact PySem.P.repr_of_str ⟨.str (reprText z), H, I.tok _, ⟨_, rfl⟩, q⟩ hl
  | lst h1 h2 => exact call_show hG hu pins s σ H _ _ Q I r ⟨_, _, rfl, .lst h1 h2, hs, hn, hz, hl, q⟩
  | tup h1 h2 => exact call_show hG hu pins s σ H _ _ Q I r ⟨_, _, rfl, .tup h1 h2, hs, hn, hz, hl, q⟩
/-! ### the exception that is handled -/
/-- its object is known and stays: of the class C, its dict at d -/
def Pnd (X : Cx) (a C d : Addr) : Prop := ∃ oe : Obj, (a, oe) ∈ X.pn ∧ Zc (.ref C) (some d) oe ∧ ∃ vs, oe.data = .fields vs
theorem Pnd.obj {X : Cx} {pins : List (Addr × Obj)} {σ : L2.St} {H : Hp} {s : Shared} {a C d : Addr} {fs : List (Str × V)} (p : Pnd X a C d) (I : Inv X pins σ H s) (e : H d = some (.xd fs)) :
    ∃ (ox od : Obj) (mA : Str → Option Value), PySem.W.InstAt s.heap a ox C (some od) ∧ (∀ name, PySem.W.lookIn name od = some (mA name)) ∧ ∀ f, RelO (fs.lookup f) (mA f) := by
  obtain ⟨oe, hm, hz, vs, hd⟩ := p
  obtain ⟨ha, _⟩ := I.pin (a, oe) (List.mem_append_left _ hm)
  obtain ⟨mA, hns, hr⟩ := (show ObjOk X.prog X.w H s.heap d (.xd fs) from I.hok d _ e)
  obtain ⟨od, ho, hl⟩ := lookIn_ns hns
  exact ⟨oe, od, mA, ⟨ha, hz.1, by unfold PySem.W.notCls; rw [hd] <;> rfl, by rw [hz.2]; exact ho⟩, hl, hr⟩
/-- isinstance(e, c) -/
def rIsP (X : Cx) : List V → Hp → VK → Prop := fun xs H Q => ∃ (a C d : Addr) (fs : List (Str × V)) (c : V) (u : Value) (b : Bool), xs = [.ref a, c] ∧ Pnd X a C d ∧ H d = some (.xd fs) ∧ ClsV c u ∧ XC X.K C ∧ PySem.W.kitOne X.K (.ref C) u = some b ∧ Q (.bl b) H
theorem call_isP {X : Cx} : CallR X (.builtin "isinstance") (rIsP X) := by
  intro pins s σ H xs us Q I r h
  obtain ⟨a, C, d, fs, c, u, b, rfl, pn, ed, k, T, e, q⟩ := h
  obtain ⟨u1, u2, rfl, r1, r2⟩ := vals2 r
  have e2 := k.eq r2
  subst e2
  have e1 : u1 = Value.ref a := r1
  subst e1
  have hcl : (PySem.W.clsIn X.K C).isSome = true := by
    obtain ⟨cd, hc, _⟩ := PySem.W.any_some T.hd
    rw [hc]
    rfl
  obtain ⟨ox, od, mA, J, hl, rel⟩ := pn.obj I ed
  exact PySem.W.kia_one (PySem.W.kitx_exc hcl T.ga T.gg T.sB T.ca T.cn T.ct T.mo) I.kIn J e (fun z => nomatch z) fun tk => ⟨.bl b, H, I.tok tk, rfl, q⟩
/-- e.f -/
def tFp (X : Cx) (f : Str) (te : TE) : TE := fun σ H Q => te σ H fun x H1 => ∃ (a C d : Addr) (fs : List (Str × V)) (v : V), x = .ref a ∧ Pnd X a C d ∧ XC X.K C ∧ PySem.W.findIn X.K (.ref C) f = some none ∧ H1 d = some (.xd fs) ∧ fs.lookup f = some v ∧ Q v H1
theorem pe_fp {X : Cx} {e : Expr} {te : TE} {pos : Pos} {f : Str} (he : PE X e te) (hb : attributeBase e f X.env (eval e X.env) = eval e X.env := by rfl) : PE X (.Attribute e f pos) (tFp X f te) := by
  constructor
  intro pins s σ H Q I h
  refine attr_of hb (thn (he.run pins s σ H _ I h) fun u s1 z => ?_)
  obtain ⟨x, H1, I1, rx, a, C, d, fs, v, ex, pn, T, hno, ed, l, q⟩ := z
  subst ex
  have eu : u = Value.ref a := rx
  subst eu
  obtain ⟨ox, od, mA, J, hl, rel⟩ := pn.obj I1 ed
  obtain ⟨u2, hu, ru⟩ := RelO.some_of (v := v) (o := mA f) (by rw [← l]; exact rel f)
  exact HandSPX.exc_get I1.kIn J T.ga T.gg T.sB (PySem.W.findObj_own T.hd hno rfl (by rw [hl, hu])) (handed_of ru) ⟨v, H1, I1.tok _, ru, q⟩
/-! ### a def that gets it -/
abbrev SpE : Type := Value → Option Addr → Hp → VK → Prop
structure FnE (P : Program) (w : World) (K : PySem.W.Frag) (mg : Str → Option Value) (base : Heap) (k : Nat) (f : Addr) (fd : FuncData) (y : Str) (sp : SpE) : Prop where
  run : ∀ (A : Around) (ou : List Env) (s : Shared) (H : Hp) (gs : Args) (p : Addr × Obj) (cls : Value) (d : Option Addr) (Q : VK), A.guards = some [] → L2H.RoomH k A → L2H.PinOk ou H s p → Zc cls d p.2 → (∃ vs, p.2.data = .fields vs) → Env0 P w K mg base A ou s H →
    BindsTo s fd gs [(y, .ref p.1)] → sp cls d H Q → codeAny (model P w) A (.call (.ref f) gs) (CR CX0 ou P w H s Q E0) s
theorem okE {P : Program} {w : World} {K : PySem.W.Frag} {mg : Str → Option Value} {base : Heap} {x qn y : Str} {st : Stmt} {f : Addr} {fd : FuncData} {N : List Str} {k : Nat} {sp : SpE} (F : Fun K x qn st f fd) (S : FnScope N [y] (defScope st))
    (hb : ∀ (cv : Value) (A : Around) (ou : List Env) (s : Shared) (H : Hp) (p : Addr × Obj) (cls : Value) (d : Option Addr) (Q : VK), A.guards = some [] → L2H.RoomH k (A.deeper (envOfC qn (defScope st) s.heap.objs.size f cv)) → Zc cls d p.2 → (∃ vs, p.2.data = .fields vs) → sp cls d H Q →
      ∃ t, PSs (L2H.cxH CX0 P w K mg base N qn (defScope st) f cv A ou s H E0 p) (defBody st) t ∧ t { nx := fun _ H' => Q .non H', rt := Q } (start N [.ref p.1]) H) : FnE P w K mg base (k + 1) f fd y sp := by
  obtain ⟨oc, od, kV, dc, pm, an, cv, ct, osl, rfl, lk, hc⟩ := F.ex
  constructor
  intro A ou s H gs p cls d Q hG hR hP hz hf e0 hB hS
  have inK : K.In s.heap := e0.mod.kin.keeps (fun b o e => (e0.bs b o e).left)
  have noL : s.heap.NoLimit := e0.mod.nolimit.keeps (fun b o e => (e0.bs b o e).left)
  have kinds : ∀ q ∈ [(y, Value.ref p.1)], (defScope st).names.lookup q.1 = some .local ∨ ((defScope st).names.lookup q.1 = some .cell ∧ ((cellsFrom (s.heap.objs.size + 1) (defScope st).names []).lookup q.1).isSome = true) := by
    intro q hq
    rw [List.mem_singleton.mp hq]
    cases S.par y (List.mem_singleton.mpr rfl) with
    | inl q => exact .inl q
    | inr q => exact .inr ⟨q, PySem.W.cellsFrom_some _ _ _ (.inl q)⟩
  refine codeAny_call_function hR.depth (inK _ _ lk) rfl S.co S.gen rfl (PySem.W.codeRec_of inK hc) (hB _ _ _ _ ?_)
  refine wpAny_newFunctionEnv_cells S.kind kinds fun ev he s2 y2 => ?_
  subst he
  refine ⟨noL.keeps y2.toInCall.keep, codeAny_func ?_⟩
  obtain ⟨t, ht, hq⟩ := hb cv A ou s H p cls d Q hG (hR.deeper _) hz hf hS
  have J0 : Inv (L2H.cxH CX0 P w K mg base N qn (defScope st) f cv A ou s H E0 p) [] (start N [.ref p.1]) H s2 := L2H.inv_startH (ps := [y]) (us := [.ref p.1]) S hP e0 rfl (.cons rfl .nil) y2
  refine wpAny_mono (ht.run [] s2 (start N [.ref p.1]) H _ J0 hq) (fun fl s3 h3 => ?_) fun _ _ z => z
  have fin : ∀ {τ : L2.St} {H' : Hp} {v : V} {u : Value}, Inv (L2H.cxH CX0 P w K mg base N qn (defScope st) f cv A ou s H E0 p) [] τ H' s3 → RelV v u → Q v H' → CE ou P w H s Q u s3 := by
    intro τ H' v u J rv q
    exact ⟨v, H', J.os, J.bare, J.base, J.hok, rv, q⟩
  match fl, h3 with
  | .ret u, ⟨v, τ, H', J, rv, q⟩ => exact fin J rv q
  | .next, ⟨τ, H', J, q⟩ => exact fin (v := V.non) (u := Value.none) J rfl q
  | .brk, ⟨_, _, _, q⟩ => exact False.elim q
  | .cont, ⟨_, _, _, q⟩ => exact False.elim q
/-- f(e) in the suite that handles e -/
theorem pe_callE {X : Cx} {a : Addr} {oe : Obj} {cls : Value} {d : Option Addr} {pn : List (Addr × Obj)} {k i : Nat} {f : Addr} {fd : FuncData} {x n y : Str} {sp : SpE} {p1 p2 pos : Pos} (F : FnE X.prog X.w X.K X.mg X.base k f fd y sp) (hG : X.A.guards = some []) (hR : L2H.RoomH k X.A)
    (hz : Zc cls d oe) (hf : ∃ vs, oe.data = .fields vs) (hg : Gl X x) (hm : X.mg x = some (.ref f)) (hk : PySem.W.keepIn X.K (.ref f) = true) (hb : Binds X.K fd [y] []) (hN : X.N[i]? = some n) (hv : Vis X.env.scope n)
    (hdb : (x == ("__debug__" : Str)) = false := by decide) (hd : (n == ("__debug__" : Str)) = false := by decide) (hcd : (n == ("__classdict__" : Str)) = false := by decide) :
    PE (X.suite a ((a, oe) :: pn)) (.Call (.Name x p1) [.Name n p2] [] pos) (fun σ H Q => σ[i]? = some (some (.ref a)) ∧ sp cls d H Q) := by
  constructor
  intro pins s σ H Q I h
  obtain ⟨hs, hsp⟩ := h
  refine wpAny_Call_Name_kw (ld_glob I hg hm ?_ hdb)
  refine PySem.W.callWith_K (h₀ := X.base) I.ok.mod.kin hk ?_ (by rfl) (by rfl)
  refine Calls.spliced_cons (thn ((pe_var (X := X.suite a ((a, oe) :: pn)) (pos := p2) (i := i) hN hv hd hcd).run pins s σ H (fun v H1 => v = .ref a ∧ H1 = H) I ⟨.ref a, hs, rfl, rfl⟩) fun u s1 z => ?_)
  obtain ⟨v, H1, I1, r1, ev, eH⟩ := z
  subst ev eH
  have eu : u = Value.ref a := r1
  subst eu
  refine Calls.spliced_nil ⟨I1.kIn, ?_⟩
  have P1 := I1.pin (a, oe) (List.mem_append_left _ List.mem_cons_self)
  have hpin : L2H.PinOk X.stack H1 s1 (a, oe) := ⟨P1.1, P1.2.1, fun hm => (List.mem_cons.mp (I1.stkSub a hm)).elim P1.2.2.1 P1.2.2.2.1, P1.2.2.2.2⟩
  have b := hb s1 [.ref a] I1.kIn rfl
  rw [List.append_nil] at b
  refine wpAny_call (codeAny_mono (F.run (X.A.mark (some (.ref a))) X.stack s1 H1 ⟨[.ref a], []⟩ (a, oe) cls d Q hG ⟨hR.dp, hR.un⟩ hpin hz hf I1.env0 b hsp) fun r s' hq => ?_)
  match r, hq with
  | .error e, hq => exact (show False from hq).elim
  | .ok (.ret u), hq => exact I1.after hq
  | .ok .next, hq => exact False.elim hq
  | .ok .brk, hq => exact False.elim hq
  | .ok .cont, hq => exact False.elim hq
end Gd
set_option Elab.async false
set_option linter.all false
set_option maxRecDepth 100000
set_option maxHeartbeats 4000000
/-! a def that calls what it got, catches three classes, and has another def say what was caught -/
namespace Gd
open PySem PySem.Spec PyProof.Rows L2 LamX
abbrev nTold : List Str := ["_law_act", "_law_told_here", "_law_e"]
def TTold3 (K : PySem.W.Frag) (c1 c2 c3 : Value) (sp : SpE) : (XK → Hp → VK → Prop) → Hp → VK → Prop := fun tl H Q =>
  tl (fun cls d H' => ∃ b, PySem.W.exmAny K cls [c1, c2, c3] = some b ∧ (b = true → sp cls d H' Q) ∧ (b = false → False)) H
    (fun v H' => ∃ v', (some (some v) : Option (Option V)) = some (some v') ∧ ([V.str "given", v'].length ≤ sizeLine ∧ ∀ p, H' p = none → Q (.ref p) (upd H' p (.lst [.str "given", v']))))
theorem told3 {X : Cx} {x q : Str} {sg : Scope} {g fs : Addr} {c1 c2 c3 : Value} {cdg : Value} {fds : FuncData} {sp : SpE} {k j1 j2 : Nat} {p1 p2 p3 p4 p5 p6 p7 p8 p9 p10 p11 p12 p13 p14 p15 p16 p17 p18 : Pos} (S : FnScope nTold ["_law_act"] sg)
    (le : sg.names.lookup ("_law_e" : Str) = some .local) (lt : sg.names.lookup ("_law_told_here" : Str) = some .local)
    (g1 : sg.names.lookup ("TreeError" : Str) = some .globalImplicit) (m1 : X.mg "TreeError" = some c1) (g2 : sg.names.lookup ("StateError" : Str) = some .globalImplicit) (m2 : X.mg "StateError" = some c2) (g3 : sg.names.lookup ("LimitError" : Str) = some .globalImplicit) (m3 : X.mg "LimitError" = some c3)
    (gs : sg.names.lookup ("_law_sort" : Str) = some .globalImplicit) (ms : X.mg "_law_sort" = some (.ref fs)) (F : FnE X.prog X.w X.K X.mg X.base k fs fds "_law_e" sp) (ks : PySem.W.keepIn X.K (.ref fs) = true) (bs : Binds X.K fds ["_law_e"] []) (hG : X.A.guards = some []) (hR : Room (k + 1) X.A) :
    GivesTo X nTold x sg g cdg [.Try [.Assign [.Name "_law_told_here" p1] (.Call (.Name "_law_act" p2) [] [] p3) p4] [.ExceptHandler (some (.Tuple [.Name "TreeError" p5, .Name "StateError" p6, .Name "LimitError" p7] j1 p8)) (some "_law_e") [.Return (some (.Call (.Name "_law_sort" p9) [.Name "_law_e" p10] [] p11)) p12] p13] [] [] p14,
      .Return (some (.List [.Constant (.str "given") j2 p15, .Name "_law_told_here" p16] p17)) p18] "_law_act" q (TTold3 X.K c1 c2 c3 sp) := by
  intro f c' s H Q tl act hc h
  have rm : Room k (X.A.deeper (envOfC x sg s.heap.objs.size g cdg)) := hR.deeper _
  refine ⟨_, pss_cons (ps_try3 (X := (cxOf C8.CX0 X.prog X.w X.K X.mg X.base nTold x sg g cdg X.A X.stack s H C8.E0).nox) (i := 2) (n := "_law_e") (c1 := c1) (c2 := c2) (c3 := c3)
      (tb := fun W D σ H => ∃ Ech : XK, (∀ cls d σ' H', Ech cls d H' → W cls d σ' H') ∧ σ[0]? = some (some (.ref f)) ∧ H c' = some (CodeO c' q) ∧ tl Ech H fun v H' => D.nx (σ.set 1 (some v)) H')
      rfl rfl S.nd rfl le g1 m1 g2 m2 g3 m3 LamX.takes0 (fun W pn xe tk _ => ?_) (fun a oe cls d pn hz hf => pss_one (ps_ret (pe_callE (n := "_law_e") (i := 2) F hG ⟨rm.dp, rm.un⟩ hz hf gs ms ks bs rfl (.inl le))))) (pss_one (ps_ret (pe_lst (pa_cons pe_str (pa_cons (pe_var (i := 1) rfl (.inl lt)) pa_nil))))), ?_⟩
  · refine ⟨fun pins s' σ H' D I h' => ?_⟩
    obtain ⟨Ech, hW, h1, h2, h3⟩ := h'
    have hp := act W pn xe Ech p2 p3 tk hW
    have hq := pss_one (ps_set (i := 1) (pos := p4) (pos' := p1) S.nd rfl (.inl lt) hp)
    exact hq.run pins s' σ H' D I ⟨h1, h2, h3⟩
  · refine ⟨_, fun cls d σ' H' z => ?_, rfl, hc, h⟩
    obtain ⟨b, e1, e2, e3⟩ := z
    exact ⟨b, e1, fun hb a na hl => ⟨by rw [List.getElem?_set_self (by rw [hl]; exact (by decide : 2 < 3))], e2 hb⟩, fun hb => (e3 hb).elim⟩
end Gd
set_option Elab.async false
set_option linter.all false
set_option maxRecDepth 100000
set_option maxHeartbeats 4000000
namespace Ks
open PySem PySem.Spec PyProof.Rows L2 Gd Kx
/-- rows that are right, and behind them at most one whose kind is none -/
structure Pre (ks : List Str) (pre : List Rw) (o : Option Rw) : Prop where
  r1 : 1 ≤ (pre ++ o.toList).length
  r6 : (pre ++ o.toList).length ≤ 6
  ok : ∀ r ∈ pre, RwOk ks r
  rd : ((pre ++ o.toList).map (·.1)).Nodup
  bad : ∀ r, o = some r → nmS r.1 = true ∧ r.2.1 ∉ ks
theorem Pre.which {ks : List Str} {pre : List Rw} {o : Option Rw} (g : Pre ks pre o) {i : Nat} {r : Rw} (h : (pre ++ o.toList)[i]? = some r) : (r.2.1 ∈ ks ∧ RwOk ks r ∧ i < pre.length) ∨ (r.2.1 ∉ ks ∧ i = pre.length ∧ o = some r) := by
  by_cases hi : i < pre.length
  · rw [List.getElem?_append_left hi] at h
    have := g.ok r (List.mem_of_getElem? h)
    exact .inl ⟨this.k, this, hi⟩
  · rw [List.getElem?_append_right (by omega)] at h
    cases o with
    | none => cases h
    | some x =>
      have e : i - pre.length = 0 := by
        have := (List.getElem?_eq_some_iff.mp h).1
        simp at this
        omega
      rw [e] at h
      cases h
      exact .inr ⟨(g.bad r rfl).2, by omega, rfl⟩
theorem Pre.name {ks : List Str} {pre : List Rw} {o : Option Rw} (g : Pre ks pre o) {i : Nat} {r : Rw} (h : (pre ++ o.toList)[i]? = some r) : nmS r.1 = true := by
  rcases g.which h with ⟨_, k, _⟩ | ⟨_, _, k⟩
  · exact k.n
  · exact (g.bad r k).1
theorem Pre.kind {ks : List Str} {pre : List Rw} {o : Option Rw} (g : Pre ks pre o) {i : Nat} {r : Rw} (h : (pre ++ o.toList)[i]? = some r) : RwOk ks r ∨ r.2.1 ∉ ks := by
  rcases g.which h with ⟨_, k, _⟩ | ⟨k, _⟩
  · exact .inl k
  · exact .inr k
section
variable {P : Program} {w : World} {K : PySem.W.Frag} {mg : Str → Option Value} {base : Heap} {C : Addr}
def spIsD : Sp := fun vs H Q _ => ∃ (x : V) (a : Addr) (ks : List Str) (r : Rw), vs = [x, .ref a] ∧ StT H a ks ∧ RowV H x r ∧ nmS r.1 = true ∧ (RwOk ks r ∨ r.2.1 ∉ ks) ∧ ∀ H', Same H H' → Q (.bl (decide (r.2.1 ∈ ks))) H'
theorem ok_isD {f fi fo : Addr} {fd fdi fdo : FuncData} (F : Fun K "_is_constructor" "_is_constructor" sIsC f fd) (T : TS0 mg)
    (GI : FnOk P w K mg base CX0 1 fi fdi ["value"] (spIs K)) (ki : PySem.W.keepIn K (.ref fi) = true) (bI : Binds K fdi ["value"] []) (gI : mg "is_name" = some (.ref fi))
    (GO : FnOk P w K mg base CX0 1 fo fdo ["value", "names"] (spOne K)) (ko : PySem.W.keepIn K (.ref fo) = true) (bO : Binds K fdo ["value", "names"] []) (gO : mg "_is_one_of" = some (.ref fo)) :
    FnOk P w K mg base CX0 2 f fd ["value", "kinds"] spIsD := by
  obtain ⟨t3, m3⟩ := T.mfi
  refine F.ok scIsC (fun vs H Q E h => ?_) (fun cv A ou s H vs Q E hr h => ?_)
  · obtain ⟨x, a, ks, r, rfl, _⟩ := h
    rfl
  obtain ⟨x, a, ks, r, rfl, hs, ⟨b, fa, rfl, hb, hf⟩, gn, gk, q⟩ := h
  refine ⟨_, pss_cons (ps_if (PW.pt (pw_or (pt_not (pt_val (pe_callB call_isi (by rfl) T.isi boot_isinstance (pa_cons (pv 0) (pa_cons (pe_bltn (v := .ty "tuple") (by rfl) T.tup boot_tuple rfl) pa_nil)))))
        (pw_or1 (pt_cmpR op_ne (pe_callB call_len_seq (by rfl) T.len PySem.boot_len (pa_cons (pv 0) pa_nil)) pe_int (nomark _))))) (pss_one (ps_ret pe_bl)) pss_nil)
    (pss_cons (ps_asg (pv 0) (pg_tup (by rfl) (pgs_cons (pg_name (i := 2) scIsC.nd rfl (.inl rfl)) (pgs_cons (pg_name (i := 3) scIsC.nd rfl (.inl rfl)) (pgs_cons (pg_name (i := 4) scIsC.nd rfl (.inl rfl)) pgs_nil)))))
    (pss_cons (ps_if (PW.pt (pw_or (pt_not (pt_val (pe_call GI hr (by rfl) gI ki bI .nil pass0 (pa_cons (pv 2) pa_nil)))) (pw_or1 (pt_not (pt_val (pe_call GO hr (by rfl) gO ko bO .nil pass0 (pa_cons (pv 3) (pa_cons (pv 1) pa_nil)))))))) (pss_one (ps_ret pe_bl)) pss_nil)
    (pss_cons (ps_if (PW.pt (pw_or (pt_not (pt_val (pe_callB call_isi (by rfl) T.isi boot_isinstance (pa_cons (pv 4) (pa_cons (pe_bltn (v := .ty "tuple") (by rfl) T.tup boot_tuple rfl) pa_nil)))))
        (pw_or1 (pt_cmpR op_gt (pe_callB call_len_seq (by rfl) T.len PySem.boot_len (pa_cons (pv 4) pa_nil)) (pe_glob (v := .int 3) (by rfl) m3 ⟨_, rfl⟩) (nomark _))))) (pss_one (ps_ret pe_bl)) pss_nil)
    (pss_one (ps_ret (pe_callB (cr_all rfl) (by rfl) T.all boot_all (pa_cons (pe_lc (own := [("field", 5)]) (g := gName 5) (tt := tYes) rfl scIsC.nd (pi_tup (pv 4)) (blkOk_by (own := [("field", 5)]) (N := ["value", "kinds", "name", "kind", "fields", "field"]) (sc := defScope sIsC) (by decide +kernel))
      (fun _ _ _ _ _ => pg_name (i := 5) scIsC.nd rfl (Or.inl rfl)) (fun _ _ _ _ _ => pts_nil)
      (fun _ _ _ _ _ => asTE (te := tCall (spOne K) [] E0 (tCons (tVar 5) (tCons (tVar 1) tNil))) (pe_call GO hr (by rfl) gO ko bO .nil pass0 (pa_cons (pv 5) (pa_cons (pv 1) pa_nil))) rfl)) pa_nil))))))), ?_⟩
  refine ⟨.ref b, rfl, .ref b, .ty "tuple", _, _, true, rfl, .ty "tuple", .base (.tup hb), kit_ty (by decide +kernel), _, rfl, iteF ?_⟩
  refine ⟨.ref b, rfl, b, _, rfl, .inr (SqT.of hb), rfl, _, rfl, ?_⟩
  rw [show decide (V.int ((([V.str r.1, .str r.2.1, .ref fa] : List V).length : Nat) : Int) = V.int 3) = true from decide_eq_true rfl]
  refine iteF ?_
  refine ⟨.ref b, rfl, b, _, rfl, SqT.of hb, rfl, _, _, rfl, _, _, rfl, _, _, rfl, rfl, ?_⟩
  refine ⟨.str r.1, rfl, .str r.1, rfl, .inl ⟨r.1, rfl, by have := (nm_len gn).2; omega, fun H2 s2 => ?_⟩⟩
  rw [gn]
  have hs2 : StT H2 a ks := s2 _ _ hs
  have hf2 : H2 fa = _ := s2 _ _ hf
  rcases gk with g | ng
  rotate_left
  · refine ⟨true, rfl, iteF ⟨.str r.2.1, rfl, .ref a, rfl, .str r.2.1, a, ks, false, rfl, SqT.of hs2, .inl ⟨r.2.1, rfl, (decide_eq_false ng).symm⟩, false, rfl, iteT ?_⟩⟩
    have q2 := q H2 s2
    rw [decide_eq_false ng] at q2
    exact q2
  rw [decide_eq_true g.k] at q
  refine ⟨true, rfl, iteF ⟨.str r.2.1, rfl, .ref a, rfl, .str r.2.1, a, ks, true, rfl, SqT.of hs2, .inl ⟨r.2.1, rfl, (decide_eq_true g.k).symm⟩, true, rfl, iteF ?_⟩⟩
  refine ⟨.ref fa, rfl, .ref fa, .ty "tuple", _, _, true, rfl, .ty "tuple", .base (.tup hf2), kit_ty (by decide +kernel), _, rfl, iteF ?_⟩
  refine ⟨.ref fa, rfl, fa, _, rfl, .inr (SqT.of hf2), _, _, rfl, rfl, _, rfl, ?_⟩
  have gl := g.l
  rw [decide_eq_false (show ¬ ((r.2.2.map V.str).length : Int) > 3 by rw [List.length_map]; omega)]
  refine iteF ?_
  refine ⟨.ref fa, rfl, fa, rfl, ⟨_, SqT.of hf2⟩, fun D nD => lc_funT (K := K) (a := fa) (xs := r.2.2.map V.str) (ys := List.replicate r.2.2.length (V.bl true)) (fun _ => rfl) nD (SqT.of hf2) (by rw [List.length_map]; omega) (by rw [List.length_map, List.length_replicate]) (fun i x y H3 hx hy s3 q => ?_) fun H3 s3 eD => ?_⟩
  · intro k
    rw [List.getElem?_map] at hx
    cases e : r.2.2[i]? with
    | none => rw [e] at hx; cases hx
    | some z =>
      rw [e] at hx
      cases hx
      have ey : y = V.bl true := by
        have := List.mem_of_getElem? hy
        exact (List.mem_replicate.mp this).2
      subst ey
      exact ⟨.str z, rfl, .ref a, rfl, .str z, a, ks, true, rfl, SqT.of (s3 _ _ hs2), .inl ⟨z, rfl, (decide_eq_true (g.f z (List.mem_of_getElem? e))).symm⟩, k H3 fun _ _ e => e⟩
  · refine ⟨D, List.replicate r.2.2.length true, rfl, SqL.of (by rw [eD, List.map_replicate]), ?_⟩
    rw [show (List.replicate r.2.2.length true).all id = true from List.all_eq_true.mpr fun x hx => by rw [(List.mem_replicate.mp hx).2]; rfl]
    exact q H3 (s2.trans s3)
def spCd (C : Addr) : Sp := fun vs H Q E => ∃ (c a : Addr) (ks : List Str) (pre : List Rw) (o : Option Rw), vs = [.ref c, .ref a] ∧ StT H a ks ∧ RowsT H c (pre ++ o.toList) ∧ Pre ks pre o ∧
  (o = none → ∀ H', Same H H' → Q .non H') ∧ (o.isSome = true → ∀ d H', Same H H' → H' d = some (.xd [("index", .int (pre.length : Nat))]) → E (.ref C) (some d) H')
theorem ok_cd {f fi : Addr} {fd fdi : FuncData} (F : Fun K "_check_constructors" "_check_constructors" sCc f fd) (T : TS0 mg)
    (GI : FnOk P w K mg base CX0 2 fi fdi ["value", "kinds"] spIsD) (ki : PySem.W.keepIn K (.ref fi) = true) (bI : Binds K fdi ["value", "kinds"] []) (gI : mg "_is_constructor" = some (.ref fi)) (O : One P w K mg base "InvalidConstructors" "index" C) (ty : PySem.W.typeIn K (.ref C) = some (.type "type")) :
    FnOk P w K mg base (CX P w) 3 f fd ["constructors", "kinds"] (spCd C) := by
  obtain ⟨t6, m6⟩ := T.mco
  refine F.okX scCc (fun vs H Q E h => ?_) (fun cv A ou s H vs Q E hr h => ?_)
  · obtain ⟨c, a, ks, pre, o, rfl, _⟩ := h
    rfl
  obtain ⟨c, a, ks, pre, o, rfl, hs, ⟨xs, hc, hp⟩, g, q, qE⟩ := h
  have ln : xs.length = (pre ++ o.toList).length := Paired.length hp
  refine ⟨_, pss_cons (ps_if (PW.pt (pw_or (pt_not (pt_val (pe_callB call_isi (by rfl) T.isi boot_isinstance (pa_cons (pv 0) (pa_cons (pe_bltn (v := .ty "tuple") (by rfl) T.tup boot_tuple rfl) pa_nil)))))
        (pw_or1 (pt_not (pt_chain op_le op_le pe_int (pe_callB call_len_seq (by rfl) T.len PySem.boot_len (pa_cons (pv 0) pa_nil)) (pe_glob (v := .int 6) (by rfl) m6 ⟨_, rfl⟩)))))) pss_never pss_nil)
    (pss_cons (ps_set (i := 2) scCc.nd rfl (.inl rfl) (pe_lst pa_nil))
    (pss_one (ps_for PassesOwn.leaving rfl (pi_enT (by rfl) T.enu (pa_cons (pv 0) pa_nil)) (pg_tup rfl (pgs_cons (pg_name (i := 3) scCc.nd rfl (.inl rfl)) (pgs_cons (pg_name (i := 4) scCc.nd rfl (.inl rfl)) pgs_nil)))
      (pss_cons (ps_if (PW.pt (pw_or (pt_not (pt_val (pe_call GI hr (by rfl) gI ki bI .nil pass0 (pa_cons (pv 4) (pa_cons (pv 1) pa_nil))))) (pw_or1 (pt_cmpR op_in_seq (pe_ix ix_tup (pv 4) pe_int (fun _ _ => rfl)) (pv 2) (by rfl))))) (pss_one (ps_raise rfl (takes_of rfl rfl rfl rfl) (pmk_one O ty hr (by rfl) (pv 3)))) pss_nil)
      (pss_one (ps_expr (pe_bm PySem.F.plainAttrs_list PySem.F.slot_list_append PySem.F.type_list_append mt_append (pv 2) (pa_cons (pe_ix ix_tup (pv 4) pe_int (fun _ _ => rfl)) pa_nil)))))))), ?_⟩
  refine ⟨.ref c, rfl, .ref c, .ty "tuple", _, _, true, rfl, .ty "tuple", .base (.tup hc), kit_ty (by decide +kernel), _, rfl, iteF ?_⟩
  refine ⟨.ref c, rfl, c, _, rfl, .inr (SqT.of hc), _, _, rfl, rfl, _, rfl, ?_⟩
  have r1 := g.r1
  have r6 := g.r6
  rw [decide_eq_true (show (1 : Int) ≤ ((xs.length : Nat) : Int) by omega)]
  refine iteT ⟨_, _, rfl, rfl, _, rfl, ?_⟩
  rw [decide_eq_true (show ((xs.length : Nat) : Int) ≤ 6 by omega)]
  refine iteF ⟨(by show 0 ≤ sizeLine; exact Nat.zero_le _), fun L nL => ?_⟩
  refine ⟨.ref c, rfl, c, _, rfl, SqT.of (same_new nL _ _ hc), for_enT (K := K) (t := c) (xs := xs) (fun i σ H' => ∃ o3 o4 : Option V, σ = [some (.ref c), some (.ref a), some (.ref L), o3, o4] ∧ Same H H' ∧ H' L = some (.lst ((((pre ++ o.toList).take i).map (·.1)).map V.str)) ∧ i ≤ pre.length) ⟨none, none, rfl, same_new nL, upd_same, Nat.zero_le _⟩ (fun i σ H' _ p => ?_) ?_ ?_⟩
  · obtain ⟨_, _, _, s1, _⟩ := p
    exact SqT.of (s1 _ _ hc)
  · rintro i x σ H1 p hx ⟨o3, o4, rfl, s1, eL, _⟩ np
    obtain ⟨r, hr2, b, fa, rfl, hb, hf⟩ := rows_at hp hx
    have hi : i < (pre ++ o.toList).length := (List.getElem?_eq_some_iff.mp hr2).1
    have s2 : Same H1 (upd H1 p (.tup [.int (i : Nat), .ref b])) := same_new np
    refine ⟨p, _, rfl, SqT.of upd_same, rfl, ?_⟩
    have sA := s1.trans s2
    refine ⟨_, _, rfl, _, _, rfl, rfl, .ref b, rfl, .ref a, rfl, .ref b, a, ks, r, rfl, sA _ _ hs, ⟨b, fa, rfl, sA _ _ hb, sA _ _ hf⟩, g.name hr2, g.kind hr2, fun H2 s3 => ?_⟩
    rcases g.which hr2 with ⟨hk, _, hip⟩ | ⟨hk, ei, eo⟩
    rotate_left
    · rw [decide_eq_false hk]
      refine ⟨false, rfl, iteT ?_⟩
      refine ⟨.int (i : Nat), rfl, fun d H3 s4 _ e3 => ?_⟩
      rw [ei] at e3
      exact qE (by rw [eo]; rfl) d H3 (s1.trans (s2.trans (s3.trans s4))) e3
    rw [decide_eq_true hk]
    refine ⟨true, rfl, iteF ?_⟩
    have sB := sA.trans s3
    have eL2 := s3 _ _ (s2 _ _ eL)
    have hb2 := sB _ _ hb
    refine ⟨.ref b, rfl, b, _, _, .str r.1, rfl, rfl, SqT.of hb2, rfl, .ref L, rfl, L, _, rfl, .inl (SqL.of eL2), rfl, all_flat _, _, rfl, ?_⟩
    rw [if_neg (by decide), inV_str, decide_eq_false (fun h => ?_)]
    · refine iteF ⟨.ref L, rfl, .inl ⟨rfl, _, SqL.of eL2⟩, .ref b, rfl, b, _, _, .str r.1, rfl, rfl, SqT.of hb2, rfl, L, _, _, rfl, rfl, eL2, ?_, _, _, rfl, same_upd sB nL, ?_, hip⟩
      · rw [List.length_map, List.length_map, List.length_take]
        exact small1000 (by omega)
      · rw [upd_same, List.take_add_one, hr2]
        simp
    · rw [List.map_take] at h
      obtain ⟨j, hj, ej⟩ := List.getElem_of_mem h
      rw [List.length_take, List.length_map] at hj
      rw [List.getElem_take] at ej
      have e2 : ((pre ++ o.toList).map (·.1))[j]? = ((pre ++ o.toList).map (·.1))[i]? := by
        rw [List.getElem?_eq_getElem (by rw [List.length_map]; omega), ej, List.getElem?_map, hr2]
        rfl
      have := (List.getElem?_inj (by rw [List.length_map]; omega) g.rd).mp e2
      omega
  · rintro σ H1 ⟨o3, o4, rfl, s1, _, le⟩
    rw [ln] at le
    cases o with
    | none => exact q rfl H1 s1
    | some _ => simp at le; omega
end
end Ks
set_option Elab.async false
set_option linter.all false
set_option maxRecDepth 100000
set_option maxHeartbeats 4000000
namespace Ks
open PySem PySem.Spec PyProof.Rows L2 Gd Kx
/-! the kinds that have a tree, filled in rounds -/
def stp (fl : List Str) (r : Rw) : List Str := if r.2.1 ∉ fl ∧ (r.2.2.all fun z => decide (z ∈ fl)) = true then fl ++ [r.2.1] else fl
def rds (rs : List Rw) : Nat → List Str
  | 0 => []
  | n + 1 => rs.foldl stp (rds rs n)
def fullOf (ks : List Str) (rs : List Rw) : List Str := rds rs ks.length
/-- the first kind without a tree -/
def emp (ks : List Str) (rs : List Rw) : Option Str := ks.find? fun k => !decide (k ∈ fullOf ks rs)
structure FullK (ks fl : List Str) : Prop where
  nd : fl.Nodup
  sub : ∀ x ∈ fl, x ∈ ks
theorem FullK.len {ks fl : List Str} (f : FullK ks fl) (g : ks.length ≤ 4) : fl.length ≤ 4 := Nat.le_trans (nd_le fl ks f.nd f.sub) g
theorem all_in {l fl : List Str} : (l.map fun z => decide (z ∈ fl)).all id = l.all fun z => decide (z ∈ fl) := by
  rw [List.all_map]
  rfl
theorem find_at {z : Str} {fl : List Str} : ∀ {ks : List Str} {j : Nat}, (∀ k ∈ ks.take j, k ∈ fl) → ks[j]? = some z → z ∉ fl → (ks.find? fun k => !decide (k ∈ fl)) = some z
  | [], _, _, h, _ => by cases h
  | x :: r, 0, _, h, n => by
    cases h
    rw [List.find?_cons, decide_eq_false n]
    rfl
  | x :: r, j + 1, p, h, n => by
    rw [List.find?_cons, decide_eq_true (p x (by rw [List.take_succ_cons]; exact List.mem_cons_self ..))]
    exact find_at (j := j) (fun k hk => p k (by rw [List.take_succ_cons]; exact List.mem_cons_of_mem _ hk)) h n
theorem find_no {fl ks : List Str} (h : ∀ k ∈ ks, k ∈ fl) : (ks.find? fun k => !decide (k ∈ fl)) = none := by
  rw [List.find?_eq_none]
  intro x hx
  rw [decide_eq_true (h x hx)]
  decide
section
variable {P : Program} {w : World} {K : PySem.W.Frag} {mg : Str → Option Value} {base : Heap} {C : Addr}
def spCtX (C : Addr) : Sp := fun vs H Q E => ∃ (a c : Addr) (ks : List Str) (rs : List Rw), vs = [.ref a, .ref c] ∧ StT H a ks ∧ RowsT H c rs ∧ ks.length ≤ 4 ∧ (∀ r ∈ rs, RwOk ks r) ∧
  (emp ks rs = none → ∀ H', Same H H' → Q .non H') ∧ (∀ z, emp ks rs = some z → ∀ d H', Same H H' → H' d = some (.xd [("kind", .str z)]) → E (.ref C) (some d) H')
theorem ok_ctX {f : Addr} {fd : FuncData} (F : Fun K "_check_trees" "_check_trees" sCt f fd) (T : TS0 mg) (O : One P w K mg base "EmptyKind" "kind" C) (ty : PySem.W.typeIn K (.ref C) = some (.type "type")) : FnOk P w K mg base (CX P w) 3 f fd ["kinds", "constructors"] (spCtX C) := by
  refine F.okX scCt (fun vs H Q E h => ?_) (fun cv A ou s H vs Q E hr h => ?_)
  · obtain ⟨c, a, ks, rs, rfl, _⟩ := h
    rfl
  obtain ⟨a, c, ks, rs, rfl, hs, ⟨xs, hc, hp⟩, k4, g, q, qE⟩ := h
  have ln : xs.length = rs.length := Paired.length hp
  refine ⟨_, pss_cons (ps_set (i := 2) scCt.nd rfl (.inr rfl) (pe_lst pa_nil))
    (pss_cons (ps_for PassesOwn.leaving rfl (pi_range1 rfl T.rng (pa_cons (pe_callB call_len_seq (by rfl) T.len PySem.boot_len (pa_cons (pv 0) pa_nil)) pa_nil)) (pg_name (i := 3) scCt.nd rfl (.inl rfl))
      (pss_one (ps_for PassesOwn.leaving rfl (pi_tup (pv 1)) (pg_name (i := 4) scCt.nd rfl (.inl rfl))
        (pss_cons (ps_par (i := 5) (j := 6) (by rfl) scCt.nd rfl rfl (by decide) rfl rfl (pa_cons (pe_ix ix_tup (pv 4) pe_int (fun _ _ => rfl)) (pa_cons (pe_ix ix_tup (pv 4) pe_int (fun _ _ => rfl)) pa_nil)) (by rfl))
        (pss_one (ps_if (PW.pt (pw_and (pt_cmpR op_notIn_seq (pv 5) (pv 2) (by rfl)) (pw_and1 (pt_val (pe_callB (cr_all rfl) (by rfl) T.all boot_all (pa_cons (pe_lc (own := [("field", 7)]) (g := gName 7) (tt := tYes) rfl scCt.nd (pi_tup (pv 6)) (blkOk_by (own := [("field", 7)]) (N := ["kinds", "constructors", "full", "_", "constructor", "kind", "fields", "field"]) (sc := defScope sCt) (by decide +kernel))
            (fun _ _ _ _ _ => pg_name (i := 7) scCt.nd rfl (Or.inl rfl)) (fun _ _ _ _ _ => pts_nil)
            (fun _ _ _ _ _ => asTE (te := tOp (rIn K false) (tVar 7) (tVar 2)) (pe_cmpR op_in_seq (pv 7) (pv 2) (by rfl)) rfl)) pa_nil))))))
          (pss_one (ps_expr (pe_bm PySem.F.plainAttrs_list PySem.F.slot_list_append PySem.F.type_list_append mt_append (pv 2) (pa_cons (pv 5) pa_nil)))) pss_nil))))))
    (pss_one (ps_for PassesOwn.leaving rfl (pi_tup (pv 0)) (pg_name (i := 5) scCt.nd rfl (.inl rfl)) (pss_one (ps_if (pt_cmpR op_notIn_seq (pv 5) (pv 2) (by rfl)) (pss_one (ps_raise rfl (takes_of rfl rfl rfl rfl) (pmk_one O ty hr (by rfl) (pv 5)))) pss_nil))))), ?_⟩
  refine ⟨(by show 0 ≤ sizeLine; exact Nat.zero_le _), fun L nL => ?_⟩
  refine ⟨.ref a, rfl, a, _, rfl, .inr (SqT.of (same_new nL _ _ hs)), _, rfl, ?_, ?_, for_range (fun i σ H' => ∃ (o3 o4 o5 o6 : Option V) (fl : List Str), σ = [some (.ref a), some (.ref c), some (.ref L), o3, o4, o5, o6, none] ∧ Same H H' ∧ H' L = some (.lst (fl.map V.str)) ∧ FullK ks fl ∧ fl = rds rs i)
    ⟨none, none, none, none, [], rfl, same_new nL, upd_same, ⟨.nil, fun x hx => by cases hx⟩, rfl⟩ ?_ ?_⟩
  · omega
  · rw [List.length_map]
    omega
  · rintro i σ H1 hi ⟨o3, o4, o5, o6, fl, rfl, s1, eL, fu, al⟩
    refine ⟨.ref c, rfl, c, rfl, ⟨_, SqT.of (s1 _ _ hc)⟩, for_tup (K := K) (a := c) (xs := xs) (fun j σ H' => ∃ (o4 o5 o6 : Option V) (fl : List Str), σ = [some (.ref a), some (.ref c), some (.ref L), some (.int (0 + (i : Int))), o4, o5, o6, none] ∧ Same H H' ∧ H' L = some (.lst (fl.map V.str)) ∧ FullK ks fl ∧ fl = (rs.take j).foldl stp (rds rs i))
      ⟨o4, o5, o6, fl, rfl, s1, eL, fu, al⟩ (fun j σ H' _ p => ?_) ?_ ?_⟩
    · obtain ⟨_, _, _, _, _, s2, _⟩ := p
      exact SqT.of (s2 _ _ hc)
    · clear eL fu al
      rintro j x σ H2 hx ⟨o4, o5, o6, fl, rfl, s2, eL, fu, al⟩
      obtain ⟨r, hr2, b, fa, rfl, hb, hf⟩ := rows_at hp hx
      have hrm := List.mem_of_getElem? hr2
      have hb2 := s2 _ _ hb
      have hf2 : StT H2 fa r.2.2 := s2 _ _ hf
      have l4 := fu.len k4
      have gf := (g r hrm).l
      refine ⟨.ref b, rfl, b, _, _, .str r.2.1, rfl, rfl, SqT.of hb2, rfl, .ref b, rfl, b, _, _, .ref fa, rfl, rfl, SqT.of hb2, rfl, _, _, rfl, ?_⟩
      have tk : stp fl r = (rs.take (j + 1)).foldl stp (rds rs i) := by
        rw [List.take_add_one, hr2, List.foldl_append, ← al]
        rfl
      refine ⟨.str r.2.1, rfl, .ref L, rfl, L, _, rfl, .inl (SqL.of eL), rfl, all_flat _, _, rfl, ?_⟩
      rw [if_pos rfl, inV_str]
      by_cases hk : r.2.1 ∈ fl
      · rw [decide_eq_true hk]
        refine iteF (iteF ?_)
        exact ⟨_, _, _, fl, rfl, s2, eL, fu, by rw [← tk, stp, if_neg (fun h => h.1 hk)]⟩
      · rw [decide_eq_false hk]
        refine iteT ?_
        refine ⟨.ref fa, rfl, fa, rfl, ⟨_, SqT.of hf2⟩, fun D nD => lc_funT (K := K) (a := fa) (xs := r.2.2.map V.str) (ys := (r.2.2.map fun z => decide (z ∈ fl)).map V.bl) (fun _ => rfl) nD (SqT.of hf2) (by rw [List.length_map]; omega) (by rw [List.length_map, List.length_map, List.length_map]) (fun n x y H3 hx hy s3 q => ?_) fun H3 s3 eD => ?_⟩
        · intro k
          rw [List.getElem?_map] at hx
          cases e : r.2.2[n]? with
          | none => rw [e] at hx; cases hx
          | some z =>
            rw [e] at hx
            cases hx
            rw [List.getElem?_map, List.getElem?_map, e] at hy
            cases hy
            refine ⟨.str z, rfl, .ref L, rfl, L, _, rfl, .inl (SqL.of (s3 _ _ eL)), rfl, all_flat _, ?_⟩
            rw [if_neg (by decide), inV_str]
            exact k H3 fun _ _ e => e
        · refine ⟨D, _, rfl, SqL.of eD, _, rfl, ?_⟩
          have eL3 := s3 _ _ eL
          have s4 := s2.trans s3
          cases hb : (r.2.2.map fun z => decide (z ∈ fl)).all id with
          | false =>
            refine iteF ⟨_, _, _, fl, rfl, s4, eL3, fu, ?_⟩
            rw [← tk, stp, if_neg (fun h => ?_)]
            rw [all_in, h.2] at hb
            cases hb
          | true =>
            refine iteT ⟨.ref L, rfl, .inl ⟨rfl, _, SqL.of eL3⟩, .str r.2.1, rfl, L, _, _, rfl, rfl, eL3, ?_, _, _, _, fl ++ [r.2.1], rfl, same_upd s4 nL, ?_, ⟨?_, ?_⟩, by rw [← tk, stp, if_pos ⟨hk, by rw [← all_in]; exact hb⟩]⟩
            · rw [List.length_map]
              exact small1000 (by omega)
            · rw [upd_same, List.map_append]
              rfl
            · rw [List.nodup_append]
              exact ⟨fu.nd, List.nodup_cons.mpr ⟨by simp, .nil⟩, fun x hx y hy e => hk (by rw [List.mem_singleton.mp hy] at e; rw [← e]; exact hx)⟩
            · intro x hx
              rcases List.mem_append.mp hx with z | z
              · exact fu.sub x z
              · rw [List.mem_singleton.mp z]
                exact (g r hrm).k
    · clear eL fu al
      rintro σ H2 ⟨o4, o5, o6, fl, rfl, s2, eL, fu, al⟩
      refine ⟨_, o4, o5, o6, fl, rfl, s2, eL, fu, ?_⟩
      rw [al, ln, List.take_length]
      rfl
  · rintro σ H1 ⟨o3, o4, o5, o6, fl, rfl, s1, eL, fu, al⟩
    have al2 : fl = fullOf ks rs := by rw [al, List.length_map]; rfl
    refine ⟨.ref a, rfl, a, rfl, ⟨_, SqT.of (s1 _ _ hs)⟩, for_tup (K := K) (a := a) (xs := ks.map V.str) (fun j σ H' => ∃ (o3 o4 o5 o6 : Option V), σ = [some (.ref a), some (.ref c), some (.ref L), o3, o4, o5, o6, none] ∧ H' = H1 ∧ ∀ k ∈ ks.take j, k ∈ fl) ⟨_, _, _, _, rfl, rfl, fun k hk => by rw [List.take_zero] at hk; cases hk⟩ (fun j σ H' _ p => ?_) ?_ ?_⟩
    · obtain ⟨_, _, _, _, _, rfl, _⟩ := p
      exact SqT.of (s1 _ _ hs)
    · rintro j x σ H2 hx ⟨o3, o4, o5, o6, rfl, rfl, pf⟩
      obtain ⟨z, hz, rfl⟩ : ∃ z, ks[j]? = some z ∧ x = V.str z := by
        rw [List.getElem?_map] at hx
        cases e : ks[j]? with
        | none => rw [e] at hx; cases hx
        | some z => rw [e] at hx; exact ⟨z, rfl, (Option.some.inj hx).symm⟩
      refine ⟨.str z, rfl, .ref L, rfl, L, _, rfl, .inl (SqL.of eL), rfl, all_flat _, _, rfl, ?_⟩
      rw [if_pos rfl, inV_str]
      by_cases hf : z ∈ fl
      · rw [decide_eq_true hf]
        refine iteF ⟨_, _, _, _, rfl, rfl, fun k hk => ?_⟩
        rw [List.take_add_one, hz] at hk
        rcases List.mem_append.mp hk with m | m
        · exact pf k m
        · have : k = z := by simpa using m
          rw [this]
          exact hf
      · rw [decide_eq_false hf]
        refine iteT ⟨.str z, rfl, fun d H3 s4 _ e3 => qE z ?_ d H3 (s1.trans s4) e3⟩
        rw [al2] at pf hf
        exact find_at pf hz hf
    · rintro σ H2 ⟨o3, o4, o5, o6, rfl, rfl, pf⟩
      refine q ?_ _ s1
      rw [List.length_map, List.take_length, al2] at pf
      exact find_no pf
end
end Ks
set_option Elab.async false
set_option linter.all false
set_option maxRecDepth 100000
set_option maxHeartbeats 4000000
namespace Ks
open PySem PySem.Spec PyProof.Rows L2 Gd Kx
structure KsOk (ks : List Str) : Prop where
  k1 : 1 ≤ ks.length
  k4 : ks.length ≤ 4
  kn : ∀ k ∈ ks, nmS k = true
  kd : ks.Nodup
theorem KsOk.good {ks : List Str} (h : KsOk ks) : Good ⟨ks, ks.map fun z => (z, z, [])⟩ where
  k1 := h.k1
  k4 := h.k4
  kn := h.kn
  kd := h.kd
  r1 := by rw [List.length_map]; exact h.k1
  r6 := by rw [List.length_map]; exact Nat.le_trans h.k4 (by decide)
  rn := fun r hr => by
    obtain ⟨z, hz, rfl⟩ := List.mem_map.mp hr
    exact h.kn z hz
  rd := by
    rw [List.map_map, show ((fun x : Rw => x.1) ∘ fun z => (z, z, [])) = id from rfl, List.map_id]
    exact h.kd
  rk := fun r hr => by
    obtain ⟨z, hz, rfl⟩ := List.mem_map.mp hr
    exact hz
  f3 := fun r hr => by
    obtain ⟨z, hz, rfl⟩ := List.mem_map.mp hr
    exact Nat.zero_le _
  fk := fun r hr => by
    obtain ⟨z, hz, rfl⟩ := List.mem_map.mp hr
    intro f hf
    cases hf
  tr := fun k hk => ⟨(k, k, []), List.mem_map.mpr ⟨k, hk, rfl⟩, rfl, rfl⟩
section
variable {P : Program} {w : World} {K : PySem.W.Frag} {mg : Str → Option Value} {base : Heap} {C CC CE : Addr}
def spIniX (C CC CE : Addr) : Sp := fun vs H Q E => ∃ (x dx k c : Addr) (ks : List Str) (pre : List Rw) (o : Option Rw), vs = [.ref x, .ref k, .ref c] ∧ H x = some (.ins C dx []) ∧ StT H k ks ∧ RowsT H c (pre ++ o.toList) ∧ KsOk ks ∧ Pre ks pre o ∧
  (o = none → emp ks pre = none → ∀ n H', But x H H' → n ≠ x → InS C H' x dx k c n (pre.map (·.1)) → FzT H' n ((pre.map (·.1)).map V.str) → Q .non H') ∧
  (o.isSome = true → ∀ d H', Same H H' → H' d = some (.xd [("index", .int (pre.length : Nat))]) → E (.ref CC) (some d) H') ∧
  (o = none → ∀ z, emp ks pre = some z → ∀ d H', Same H H' → H' d = some (.xd [("kind", .str z)]) → E (.ref CE) (some d) H')
theorem ok_iniX {f fk fc ft : Addr} {fd fdk fdc fdt : FuncData} (F : Fun K "__init__" "Schema.__init__" (cS 0) f fd) (T : TS0 mg) (Z : SCl K C)
    (GK : FnOk P w K mg base CX0 2 fk fdk ["kinds"] spCk) (kk : PySem.W.keepIn K (.ref fk) = true) (bK : Binds K fdk ["kinds"] []) (gK : mg "_check_kinds" = some (.ref fk))
    (GC : FnOk P w K mg base (CX P w) 3 fc fdc ["constructors", "kinds"] (spCd CC)) (kc : PySem.W.keepIn K (.ref fc) = true) (bC : Binds K fdc ["constructors", "kinds"] []) (gC : mg "_check_constructors" = some (.ref fc))
    (GT : FnOk P w K mg base (CX P w) 3 ft fdt ["kinds", "constructors"] (spCtX CE)) (kt : PySem.W.keepIn K (.ref ft) = true) (bT : Binds K fdt ["kinds", "constructors"] []) (gT : mg "_check_trees" = some (.ref ft)) :
    FnOk P w K mg base (CX P w) 4 f fd ["self", "kinds", "constructors"] (spIniX C CC CE) := by
  refine F.okX scIni (fun vs H Q E h => ?_) (fun cv A ou s H vs Q E hr h => ?_)
  · obtain ⟨x, dx, k, c, ks, pre, o, rfl, _⟩ := h
    rfl
  obtain ⟨x, dx, k, c, ks, pre, o, rfl, hx, hs, hc, gk, g, q, qC, qE⟩ := h
  have hr2 : Room 2 (A.deeper (envOfC "Schema.__init__" (defScope (cS 0)) s.heap.objs.size f cv)) := hr.mono (by decide)
  refine ⟨_, pss_cons (ps_expr (pe_call GK hr2 (by rfl) gK kk bK .nil pass0 (pa_cons (pv 1) pa_nil)))
    (pss_cons (ps_expr (pe_call GC hr (by rfl) gC kc bC .nil (passes_call (takes_of rfl rfl rfl rfl) (fun _ _ _ _ h => h)) (pa_cons (pv 2) (pa_cons (pv 1) pa_nil))))
    (pss_cons (ps_expr (pe_call GT hr (by rfl) gT kt bT .nil (passes_call (takes_of rfl rfl rfl rfl) (fun _ _ _ _ h => h)) (pa_cons (pv 1) (pa_cons (pv 2) pa_nil))))
    (pss_cons (ps_fld (pv 0) (pv 1) rfl)
    (pss_cons (ps_fld (pv 0) (pv 2) rfl)
    (pss_cons (ps_fld (pv 0) (pe_tupF (by rfl) T.tup (pe_lc (own := [("constructor", 3)]) (g := gName 3) (tt := tYes) rfl scIni.nd (pi_tup (pv 2)) (blkOk_by (own := [("constructor", 3)]) (N := nIni) (sc := defScope (cS 0)) (by decide +kernel))
      (fun _ _ _ _ _ => pg_name (i := 3) scIni.nd rfl (Or.inl rfl)) (fun _ _ _ _ _ => pts_nil) (fun _ _ _ _ _ => asTE (te := tOp (rIxT K) (tVar 3) (tC (.int 0))) (pe_ix ix_tup (pv 3) pe_int (fun _ _ => rfl)) rfl))) rfl)
    (pss_one (ps_fld (pv 0) (pe_dc (own := [("place", 4), ("name", 5)]) (g := gTup K 2 (gCons (gName 4) (gCons (gName 5) gNil))) (tt := tYes) (tk := tVar 5) (tv := tVar 4) rfl scIni.nd (pi_enT (by rfl) T.enu (pa_cons (pe_fld (pv 0) rfl) pa_nil)) (blkOk_by (own := [("place", 4), ("name", 5)]) (N := nIni) (sc := defScope (cS 0)) (by decide +kernel))
      (fun _ _ _ _ _ => pg_tup (by rfl) (pgs_cons (pg_name (i := 4) scIni.nd rfl (Or.inl rfl)) (pgs_cons (pg_name (i := 5) scIni.nd rfl (Or.inl rfl)) pgs_nil))) (fun _ _ _ _ _ => pts_nil) (fun _ _ _ _ _ => pv 5) (fun _ _ _ _ _ => pv 4)) rfl))))))), ?_⟩
  refine ⟨.ref k, rfl, k, ⟨ks, ks.map fun z => (z, z, [])⟩, rfl, hs, gk.good, fun H1 s1 => ?_⟩
  refine ⟨.ref c, rfl, .ref k, rfl, c, k, ks, pre, o, rfl, s1 _ _ hs, hc.keep s1, g, fun eo H2 s2 => ?_, fun eo d H2 s2 e2 => qC eo d H2 (s1.trans s2) e2⟩
  have s12 := s1.trans s2
  subst eo
  have g0 : pre ++ (none : Option Rw).toList = pre := List.append_nil _
  rw [g0] at hc
  refine ⟨.ref k, rfl, .ref c, rfl, k, c, ks, pre, rfl, s12 _ _ hs, hc.keep s12, gk.k4, g.ok, fun ee H3 s3 => ?_, fun z ee d H3 s3 e3 => qE rfl z ee d H3 (s12.trans s3) e3⟩
  have s13 := s12.trans s3
  refine ⟨.ref k, rfl, .ref x, rfl, x, C, dx, [], rfl, s13 _ _ hx, Z.cls, Z.nk, by decide, ?_⟩
  refine ⟨.ref c, rfl, .ref x, rfl, x, C, dx, _, rfl, upd_same, Z.cls, Z.nc, (show 1 < 1000 by decide), ?_⟩
  have hs' : H k = some (.tup (ks.map V.str)) := hs
  have kx : k ≠ x := fun e => by rw [e, hx] at hs'; cases hs'
  obtain ⟨xs, hc1, hp⟩ := hc
  have cx : c ≠ x := fun e => by rw [e, hx] at hc1; cases hc1
  have b5 : But x H (upd (upd H3 x (.ins C dx (putF "_kinds" (V.ref k) []))) x (.ins C dx (putF "_constructors" (V.ref c) (putF "_kinds" (V.ref k) [])))) := fun b o n e => by
    rw [upd_ne n, upd_ne n]
    exact s13 _ _ e
  have x5 : (upd (upd H3 x (.ins C dx (putF "_kinds" (V.ref k) []))) x (.ins C dx (putF "_constructors" (V.ref c) (putF "_kinds" (V.ref k) [])))) x = some (.ins C dx (putF "_constructors" (V.ref c) (putF "_kinds" (V.ref k) []))) := upd_same
  revert b5 x5
  generalize upd (upd H3 x (.ins C dx (putF "_kinds" (V.ref k) []))) x (.ins C dx (putF "_constructors" (V.ref c) (putF "_kinds" (V.ref k) []))) = H5
  intro b5 x5
  have hc5 := b5 _ _ cx hc1
  have r6 := g.r6
  rw [g0] at r6
  have ln : xs.length = pre.length := Paired.length hp
  refine ⟨.ref c, rfl, c, rfl, ⟨_, SqT.of hc5⟩, fun D nD => lc_funT (K := K) (a := c) (xs := xs) (ys := (pre.map (·.1)).map V.str) (fun _ => rfl) nD (SqT.of hc5) (by omega) (by rw [List.length_map, List.length_map, ln]) (fun n y z H6 hy hz s6 p => ?_) fun H6 s6 eD => ?_⟩
  · intro kk
    obtain ⟨r, hr2, b, fa, rfl, hb, hf⟩ := rows_at hp hy
    rw [List.getElem?_map, List.getElem?_map, hr2] at hz
    cases hz
    have bx : b ≠ x := fun e => by rw [e, hx] at hb; cases hb
    exact ⟨.ref b, rfl, b, _, _, .str r.1, rfl, rfl, SqT.of (s6 _ _ (b5 _ _ bx hb)), rfl, kk H6 fun _ _ e => e⟩
  · refine ⟨D, _, rfl, SqL.of eD, fun N H7 nN s7 fz => ?_⟩
    have x6 := s6 _ _ x5
    have Nx : N ≠ x := fun e => by rw [← e, nN] at x6; cases x6
    refine ⟨.ref x, rfl, x, C, dx, _, rfl, s7 _ _ x6, Z.cls, Z.nn, (show 2 < 1000 by decide), ?_⟩
    have fz8 : FzT (upd H7 x (.ins C dx (putF "_names" (V.ref N) (putF "_constructors" (V.ref c) (putF "_kinds" (V.ref k) []))))) N ((pre.map (·.1)).map V.str) := by
      obtain ⟨o, e, r⟩ := fz
      exact ⟨o, by rw [upd_ne Nx]; exact e, r⟩
    have b8 : But x H (upd H7 x (.ins C dx (putF "_names" (V.ref N) (putF "_constructors" (V.ref c) (putF "_kinds" (V.ref k) []))))) := fun b o n e => by
      rw [upd_ne n]
      exact s7 _ _ (s6 _ _ (b5 _ _ n e))
    have x8 : (upd H7 x (.ins C dx (putF "_names" (V.ref N) (putF "_constructors" (V.ref c) (putF "_kinds" (V.ref k) []))))) x = some (.ins C dx (putF "_names" (V.ref N) (putF "_constructors" (V.ref c) (putF "_kinds" (V.ref k) [])))) := upd_same
    revert fz8 b8 x8
    generalize upd H7 x (.ins C dx (putF "_names" (V.ref N) (putF "_constructors" (V.ref c) (putF "_kinds" (V.ref k) [])))) = H8
    intro fz8 b8 x8
    have prd : (pre.map (·.1)).Nodup := by have := g.rd; rwa [show pre ++ (none : Option Rw).toList = pre from List.append_nil _] at this
    refine ⟨.ref x, rfl, x, C, dx, _, _, rfl, x8, Z.cls, Z.nn, rfl, N, _, rfl, fz8.sq, fun Dd nDd => dc_places fz8 nDd prd (by rw [List.length_map]; omega) (fun _ _ => rfl) (fun _ _ => rfl) (fun _ _ => rfl) fun H9 s9 eDd => ?_⟩
    have x9 := s9 _ _ x8
    have Dx : Dd ≠ x := fun e => by rw [← e, nDd] at x8; cases x8
    refine ⟨.ref x, rfl, x, C, dx, _, rfl, x9, Z.cls, Z.np, (show 3 < 1000 by decide), ?_⟩
    refine q rfl ee N _ (fun b o n e => ?_) Nx ⟨Dd, upd_same, ?_⟩ ?_
    · rw [upd_ne n]
      exact s9 _ _ (b8 _ _ n e)
    · rw [upd_ne Dx]
      exact eDd
    · obtain ⟨o, e, r⟩ := fz8
      exact ⟨o, by rw [upd_ne Nx]; exact s9 _ _ e, r⟩
end
end Ks
set_option Elab.async false
set_option linter.all false
set_option maxRecDepth 100000
set_option maxHeartbeats 4000000
namespace Ks
open PySem PySem.Spec PyProof.Rows L2 Gd Kx
theorem asTT {X : Cx} {es : List Expr} {t t' : TT} (h : PTs X es t') (q : t' = t) : PTs X es t := q ▸ h
theorem picked_filter {rs : List Rw} (p : Rw → Bool) : picked (rs.map fun r => (p r, V.str r.1)) = ((rs.filter p).map (·.1)).map V.str := by
  unfold picked
  induction rs with
  | nil => rfl
  | cons r t ih =>
    cases h : p r <;> simp [h] <;> simpa using ih
section
variable {P : Program} {w : World} {K : PySem.W.Frag} {mg : Str → Option Value} {base : Heap} {C : Addr}
def spOf (C : Addr) : Sp := fun vs H Q _ => ∃ (a : Addr) (m : Md) (z : Str), vs = [.ref a, .str z] ∧ ScAt C H a m ∧ Good m ∧ z ∈ m.ks ∧ ∀ p H', Same H H' → FzT H' p (((m.rs.filter fun r => decide (r.2.1 = z)).map (·.1)).map V.str) → Q (.ref p) H'
theorem ok_of {f fo : Addr} {fd fdo : FuncData} (F : Fun K "of_kind" "Schema.of_kind" (cS 6) f fd) (T : TS0 mg) (Z : SCl K C)
    (GO : FnOk P w K mg base CX0 1 fo fdo ["value", "names"] (spOne K)) (ko : PySem.W.keepIn K (.ref fo) = true) (bO : Binds K fdo ["value", "names"] []) (gO : mg "_is_one_of" = some (.ref fo)) : FnOk P w K mg base CX0 2 f fd ["self", "kind"] (spOf C) := by
  refine F.ok scOf (fun vs H Q E h => ?_) (fun cv A ou s H vs Q E hr h => ?_)
  · obtain ⟨a, m, z, rfl, _⟩ := h
    rfl
  obtain ⟨a, m, z, rfl, ⟨dx, k, c, n, ⟨dp, e, _⟩, ek, ⟨xs, ec, hp⟩, en⟩, g, hz, q⟩ := h
  refine ⟨_, pss_cons (ps_if (pt_not (pt_val (pe_call GO hr (by rfl) gO ko bO .nil pass0 (pa_cons (pv 1) (pa_cons (pe_fld (pv 0) rfl) pa_nil))))) pss_never pss_nil)
    (pss_one (ps_ret (pe_tupF (by rfl) T.tup (pe_lc (own := [("constructor", 2)]) (g := gName 2) (tt := tTest (tOp rEq (tOp (rIxT K) (tVar 2) (tC (.int 1))) (tVar 1))) rfl scOf.nd (pi_tup (pe_fld (pv 0) rfl)) (blkOk_by (own := [("constructor", 2)]) (N := ["self", "kind", "constructor"]) (sc := defScope (cS 6)) (by decide +kernel))
      (fun _ _ _ _ _ => pg_name (i := 2) scOf.nd rfl (Or.inl rfl)) (fun _ _ _ _ _ => asTT (pts_one (pt_cmpR op_eq (pe_ix ix_tup (pv 2) pe_int (fun _ _ => rfl)) (pv 1) (nomark _))) rfl) (fun _ _ _ _ _ => asTE (te := tOp (rIxT K) (tVar 2) (tC (.int 0))) (pe_ix ix_tup (pv 2) pe_int (fun _ _ => rfl)) rfl))))), ?_⟩
  refine ⟨.str z, rfl, .ref a, rfl, a, C, dx, _, _, rfl, e, Z.cls, Z.nk, scF_k, .str z, k, m.ks, true, rfl, SqT.of ek, .inl ⟨z, rfl, (decide_eq_true hz).symm⟩, true, rfl, iteF ?_⟩
  have r6 := g.r6
  have ln : xs.length = m.rs.length := Paired.length hp
  refine ⟨.ref a, rfl, a, C, dx, _, _, rfl, e, Z.cls, Z.nc, scF_c, c, rfl, ⟨_, SqT.of ec⟩, fun D nD => lc_selT (K := K) (a := c) (xs := xs) (zs := m.rs.map fun r => (decide (r.2.1 = z), V.str r.1)) (fun _ => rfl) nD (SqT.of ec) (by omega) (by rw [List.length_map, ln]) (fun i x y H3 hx hy s3 p => ?_) (fun i x y H3 hx hy hb s3 p => ?_) fun H3 s3 eD => ?_⟩
  · intro kk
    obtain ⟨r, hr2, b, fa, rfl, hb, hf⟩ := rows_at hp hx
    rw [List.getElem?_map, hr2] at hy
    cases hy
    refine ⟨.ref b, rfl, b, _, _, .str r.2.1, rfl, rfl, SqT.of (s3 _ _ hb), rfl, .str z, rfl, rfl, _, rfl, ?_⟩
    have := kk H3 fun _ _ e => e
    rw [show decide (V.str r.2.1 = V.str z) = decide (r.2.1 = z) by rw [Bool.eq_iff_iff]; simp]
    exact this
  · intro kk
    obtain ⟨r, hr2, b, fa, rfl, hb', hf⟩ := rows_at hp hx
    rw [List.getElem?_map, hr2] at hy
    cases hy
    exact ⟨.ref b, rfl, b, _, _, .str r.1, rfl, rfl, SqT.of (s3 _ _ hb'), rfl, kk H3 fun _ _ e => e⟩
  · rw [picked_filter fun r => decide (r.2.1 = z)] at eD
    exact ⟨D, _, rfl, SqL.of eD, fun p H' np s' fz => q p H' (s3.trans s') fz⟩
/-- repr of a schema -/
def rpS (m : Md) : Str := ((((Str.empty ++ Str.ofString "Schema(") ++ ((toString ((m.ks.length : Nat) : Int) : String) : Str)) ++ Str.ofString " kinds, ") ++ ((toString ((m.rs.length : Nat) : Int) : String) : Str)) ++ Str.ofString " constructors)"
def spRp (C : Addr) : Sp := fun vs H Q _ => ∃ (a : Addr) (m : Md), vs = [.ref a] ∧ ScAt C H a m ∧ Good m ∧ Q (.str (rpS m)) H
theorem ok_rp {f : Addr} {fd : FuncData} (F : Fun K "__repr__" "Schema.__repr__" (cS 10) f fd) (T : TS0 mg) (Z : SCl K C) : FnOk P w K mg base CX0 1 f fd ["self"] (spRp C) := by
  refine F.ok scRp (fun vs H Q E h => ?_) (fun cv A ou s H vs Q E hr h => ?_)
  · obtain ⟨a, m, rfl, _⟩ := h
    rfl
  obtain ⟨a, m, rfl, ⟨dx, k, c, n, ⟨dp, e, _⟩, ek, ⟨xs, ec, hp⟩, en⟩, g, q⟩ := h
  have ln : xs.length = m.rs.length := Paired.length hp
  refine ⟨_, pss_one (ps_ret (pe_joined (.cons pe_str (.cons (pe_fmt (pe_callB call_len_seq (by rfl) T.len PySem.boot_len (pa_cons (pe_fld (pv 0) rfl) pa_nil))) (.cons pe_str (.cons (pe_fmt (pe_callB call_len_seq (by rfl) T.len PySem.boot_len (pa_cons (pe_fld (pv 0) rfl) pa_nil))) (.cons pe_str .nil))))))), ?_⟩
  have k4 := g.k4
  have r6 := g.r6
  have i1 : ∀ j : Nat, j ≤ 6 → ((j : Nat) : Int).natAbs.log2 < 1920 ∧ (((toString ((j : Nat) : Int) : String) : Str)).length ≤ 1 := by
    intro j hj
    have : ∀ i : _root_.Fin 7, (((i.1 : Nat) : Int)).natAbs.log2 < 1920 ∧ (((toString ((i.1 : Nat) : Int) : String) : Str)).length ≤ 1 := by
      intro i
      refine ⟨?_, ?_⟩
      · have : i.1 < 2 ^ 3 := Nat.lt_trans i.2 (by decide)
        by_cases z : ((i.1 : Nat) : Int).natAbs = 0
        · rw [z]; decide
        · exact (Nat.log2_lt z).mpr (Nat.lt_of_lt_of_le (show ((i.1 : Nat) : Int).natAbs < 2 ^ 3 by omega) (Nat.pow_le_pow_right (by decide) (by decide)))
      · revert i
        decide +kernel
    exact this ⟨j, by omega⟩
  obtain ⟨a1, a2⟩ := i1 m.ks.length (by omega)
  obtain ⟨b1, b2⟩ := i1 m.rs.length (by omega)
  have l1 : (Str.ofString "Schema(").length = 7 := by decide +kernel
  have l2 : (Str.ofString " kinds, ").length = 8 := by decide +kernel
  have l3 : (Str.ofString " constructors)").length = 14 := by decide +kernel
  have l0 : Str.empty.length = 0 := rfl
  have sz := sizeLine_eq
  have e1 : (m.ks.map V.str).length = m.ks.length := List.length_map ..
  rw [← e1] at a1 a2
  rw [← ln] at b1 b2
  have ap := fun x y : Str => Str.length_append x y
  refine ⟨_, rfl, ?_, .ref a, rfl, a, C, dx, _, _, rfl, e, Z.cls, Z.nk, scF_k, k, _, rfl, .inr (SqT.of ek), .inr ⟨_, rfl, a1, _, rfl, ?_, _, rfl, ?_, .ref a, rfl, a, C, dx, _, _, rfl, e, Z.cls, Z.nc, scF_c, c, _, rfl, .inr (SqT.of ec), .inr ⟨_, rfl, b1, _, rfl, ?_, _, rfl, ?_, ?_⟩⟩⟩
  · rw [ap, l0, l1]; omega
  · rw [ap, ap, l0, l1]; omega
  · rw [ap, ap, ap, l0, l1, l2]; omega
  · rw [ap, ap, ap, ap, l0, l1, l2]; omega
  · rw [ap, ap, ap, ap, ap, l0, l1, l2, l3]; omega
  · rw [e1, ln]
    exact q
end
end Ks
set_option Elab.async false
set_option linter.all false
set_option maxRecDepth 100000
set_option maxHeartbeats 4000000
namespace Ks
open PySem PySem.Spec PyProof.Rows L2 Gd Kx
mutual
theorem dp_keep {K : PySem.W.Frag} {H H' : Hp} (s : Same H H') : ∀ (d : PyData) (v : V), Dp K H v d → Dp K H' v d
  | .none, _, h => by cases h; exact .non
  | .bool b, _, h => by cases h; exact .bl b
  | .int i, _, h => by cases h; exact .int i
  | .str x, _, h => by cases h; exact .str x
  | .list ds, _, h => by
    cases h with
    | lst h1 h2 => exact .lst (s.seq h1) (dp_keepAll s ds _ h2)
  | .tuple ds, _, h => by
    cases h with
    | tup h1 h2 => exact .tup (SqT.ext h1 s) (dp_keepAll s ds _ h2)
  | .dict _, _, h => by cases h
theorem dp_keepAll {K : PySem.W.Frag} {H H' : Hp} (s : Same H H') : ∀ (ds : List PyData) (vs : List V), DpAll K H vs ds → DpAll K H' vs ds
  | [], _, h => by cases h; exact .nil
  | d :: ds, _, h => by
    cases h with
    | cons h1 h2 => exact .cons (dp_keep s d _ h1) (dp_keepAll s ds _ h2)
end
structure SB (n b : Nat) (d : PyData) : Prop where
  sh : d.showable = true
  nd : d.hasDict = false
  dp : d.depth ≤ n
  ln : d.shown.length ≤ b
theorem SB.mono {n b n' b' : Nat} {d : PyData} (h : SB n b d) (hn : n ≤ n') (hb : b ≤ b') : SB n' b' d := ⟨h.sh, h.nd, Nat.le_trans h.dp hn, Nat.le_trans h.ln hb⟩
theorem sb_sh {n b : Nat} : ∀ {ds : List PyData}, (∀ d ∈ ds, SB n b d) → PyData.showableAll ds = true
  | [], _ => rfl
  | d :: r, h => by rw [PyData.showableAll, (h d (List.mem_cons_self ..)).sh, sb_sh fun x hx => h x (List.mem_cons_of_mem _ hx)]; rfl
theorem sb_nd {n b : Nat} : ∀ {ds : List PyData}, (∀ d ∈ ds, SB n b d) → PyData.hasDictAll ds = false
  | [], _ => rfl
  | d :: r, h => by rw [PyData.hasDictAll, (h d (List.mem_cons_self ..)).nd, sb_nd fun x hx => h x (List.mem_cons_of_mem _ hx)]; rfl
theorem sb_dp {n b : Nat} : ∀ {ds : List PyData}, (∀ d ∈ ds, SB n b d) → PyData.depthAll ds ≤ n + 1
  | [], _ => by show 0 ≤ _; omega
  | d :: r, h => by
    have a := (h d (List.mem_cons_self ..)).dp
    have c := sb_dp fun x hx => h x (List.mem_cons_of_mem _ hx)
    rw [PyData.depthAll]
    omega
theorem sb_list {n b c : Nat} {ds : List PyData} (h : ∀ d ∈ ds, SB n b d) (hl : ds.length ≤ c) : SB (n + 2) (2 + c * (b + 2)) (.list ds) := by
  refine ⟨?_, ?_, ?_, ?_⟩
  · rw [PyData.showable]
    exact sb_sh h
  · rw [PyData.hasDict]
    exact sb_nd h
  · have := sb_dp h
    rw [PyData.depth]
    omega
  · rw [PyData.shown]
    have := listText_le (ts := PyData.shownAll ds) (b := b) (by
      rw [shownAll_map]
      intro t ht
      obtain ⟨d, hd, rfl⟩ := List.mem_map.mp ht
      exact (h d hd).ln)
    rw [shownAll_map, List.length_map] at this
    have z : ds.length * (b + 2) ≤ c * (b + 2) := Nat.mul_le_mul_right _ hl
    rw [shownAll_map]
    omega
theorem join_le (sep : Str) (b : Nat) : ∀ ts : List Str, (∀ t ∈ ts, t.length ≤ b) → (Str.join sep ts).length ≤ ts.length * (b + sep.length)
  | [], _ => by show 0 ≤ _; omega
  | [x], h => by
    have := h x (List.mem_cons_self ..)
    show x.length ≤ 1 * (b + sep.length)
    omega
  | x :: y :: r, h => by
    have a := h x (List.mem_cons_self ..)
    have ih := join_le sep b (y :: r) fun t ht => h t (List.mem_cons_of_mem _ ht)
    show (x ++ sep ++ Str.join sep (y :: r)).length ≤ _
    rw [Str.length_append, Str.length_append, List.length_cons, Nat.add_mul, Nat.one_mul]
    omega
theorem sb_tup {n b c : Nat} {ds : List PyData} (h : ∀ d ∈ ds, SB n b d) (hl : ds.length ≤ c) : SB (n + 2) (3 + c * (b + 2)) (.tuple ds) := by
  refine ⟨?_, ?_, ?_, ?_⟩
  · rw [PyData.showable]
    exact sb_sh h
  · rw [PyData.hasDict]
    exact sb_nd h
  · have := sb_dp h
    rw [PyData.depth]
    omega
  · rw [PyData.shown]
    have := join_le (Str.ofString ", ") b (PyData.shownAll ds) (by
      rw [shownAll_map]
      intro t ht
      obtain ⟨d, hd, rfl⟩ := List.mem_map.mp ht
      exact (h d hd).ln)
    have l2 : (Str.ofString ", ").length = 2 := by decide +kernel
    have l1 : (Str.ofString "(").length = 1 := by decide +kernel
    have l3 : ((if (PyData.shownAll ds).length == 1 then ",)" else ")" : String) : Str).length ≤ 2 := by split <;> decide +kernel
    rw [l2] at this
    have e : (PyData.shownAll ds).length = ds.length := by rw [shownAll_map, List.length_map]
    rw [e] at this
    have z : ds.length * (b + 2) ≤ c * (b + 2) := Nat.mul_le_mul_right _ hl
    show (Str.ofString "(" ++ Str.join (Str.ofString ", ") (PyData.shownAll ds) ++ ((if (PyData.shownAll ds).length == 1 then ",)" else ")" : String) : Str)).length ≤ _
    rw [Str.length_append, Str.length_append]
    omega
theorem sb_str {z : Str} {l : Nat} (h : nmS z = true) (hl : z.length ≤ l) : SB 1 (10 * l + 2) (.str z) := by
  refine ⟨rfl, rfl, by rw [PyData.depth]; omega, ?_⟩
  have ok : ∀ c ∈ z.cps.toList, c < 16 ^ 8 := by
    have := nm_ok h
    unfold PyData.strOk at this
    rw [← Array.all_toList] at this
    intro c hc
    have := of_decide_eq_true (List.all_eq_true.mp this c hc)
    omega
  have := StrLaws.reprText_len z ok
  rw [PyData.shown]
  omega
theorem sb_nm {z : Str} (h : nmS z = true) : SB 1 82 (.str z) := sb_str h (nm_len h).2
theorem sb_ss {ss : List Str} {c : Nat} (h : ∀ s ∈ ss, nmS s = true) (hl : ss.length ≤ c) : SB 3 (3 + c * 84) (dSs ss) :=
  sb_tup (n := 1) (b := 82) (fun d hd => by obtain ⟨s, hs, rfl⟩ := List.mem_map.mp hd; exact sb_nm (h s hs)) (by rw [List.length_map]; exact hl)
theorem Good.sbK {m : Md} (g : Good m) : SB 3 339 (dSs m.ks) := sb_ss g.kn g.k4
theorem Good.sbR1 {m : Md} (g : Good m) {r : Rw} (hr : r ∈ m.rs) : SB 5 774 (dRw r) := by
  have rk := g.row hr
  refine (sb_tup (n := 3) (b := 255) (c := 3) (ds := [.str r.1, .str r.2.1, dSs r.2.2]) ?_ (Nat.le_refl 3)).mono (by decide) (by decide)
  intro d hd
  simp only [List.mem_cons, List.not_mem_nil, or_false] at hd
  rcases hd with rfl | rfl | rfl
  · exact (sb_nm (g.rn r hr)).mono (by decide) (by decide)
  · exact (sb_nm (g.kn _ (g.rk r hr))).mono (by decide) (by decide)
  · exact sb_ss (c := 3) (fun s hs => g.kn s (g.fk r hr s hs)) (g.f3 r hr)
theorem Good.sbR {m : Md} (g : Good m) : SB 7 4659 (dRs m.rs) :=
  sb_tup (n := 5) (b := 774) (c := 6) (fun d hd => by obtain ⟨r, hr, rfl⟩ := List.mem_map.mp hd; exact g.sbR1 hr) (by rw [List.length_map]; exact g.r6)
theorem Good.sbN {m : Md} (g : Good m) {rs : List Rw} (h : ∀ r ∈ rs, r ∈ m.rs) (hl : rs.length ≤ 6) : SB 3 507 (dSs (rs.map (·.1))) :=
  sb_ss (c := 6) (fun s hs => by obtain ⟨r, hr, rfl⟩ := List.mem_map.mp hs; exact g.rn r (h r hr)) (by rw [List.length_map]; exact hl)
end Ks
set_option Elab.async false
set_option linter.all false
set_option maxRecDepth 100000
set_option maxHeartbeats 4000000
/-! values of any plain kind, as data -/
namespace Ks
open PySem PySem.Spec PyProof.Rows L2 Gd Kx
mutual
inductive Dv (p : Addr) (H : Hp) : V → PyData → Prop
  | non : Dv p H .non .none
  | bl (b : Bool) : Dv p H (.bl b) (.bool b)
  | int (i : Int) : Dv p H (.int i) (.int i)
  | str (z : Str) (h : z.length ≤ 1000) : Dv p H (.str z) (.str z)
  | lst {a : Addr} {xs : List V} {ds : List PyData} : a ≠ p → H a = some (.lst xs) → DvAll p H xs ds → Dv p H (.ref a) (.list ds)
  | tup {a : Addr} {xs : List V} {ds : List PyData} : H a = some (.tup xs) → DvAll p H xs ds → Dv p H (.ref a) (.tuple ds)
inductive DvAll (p : Addr) (H : Hp) : List V → List PyData → Prop
  | nil : DvAll p H [] []
  | cons {x : V} {d : PyData} {xs : List V} {ds : List PyData} : Dv p H x d → DvAll p H xs ds → DvAll p H (x :: xs) (d :: ds)
end
/-- what stands but for what is at p, lists there among them -/
def SbV (p : Addr) (H H' : Hp) : Prop := ∀ b o, b ≠ p → (∀ ps : Array Value, o ≠ .tbl ps) → H b = some o → H' b = some o
theorem SbV.of {p : Addr} {H H' : Hp} (s : Same H H') : SbV p H H' := fun b o _ _ e => s b o e
theorem SbV.sb {p : Addr} {H H' : Hp} (s : Sb p H H') : SbV p H H' := fun b o n _ e => s b o n e
mutual
theorem dv_sbv {p : Addr} {H H' : Hp} (hp : ∃ zs, H p = some (.lst zs)) (s : SbV p H H') : ∀ (d : PyData) (v : V), Dv p H v d → Dv p H' v d
  | .none, _, h => by cases h; exact .non
  | .bool b, _, h => by cases h; exact .bl b
  | .int i, _, h => by cases h; exact .int i
  | .str x, _, h => by cases h with | str _ l => exact .str x l
  | .list ds, _, h => by
    cases h with
    | lst n h1 h2 => exact .lst n (s _ _ n (fun _ z => by cases z) h1) (dv_sbvAll hp s ds _ h2)
  | .tuple ds, _, h => by
    cases h with
    | tup h1 h2 =>
      obtain ⟨zs, ep⟩ := hp
      exact .tup (s _ _ (fun e => by rw [e, ep] at h1; cases h1) (fun _ z => by cases z) h1) (dv_sbvAll ⟨zs, ep⟩ s ds _ h2)
  | .dict _, _, h => by cases h
theorem dv_sbvAll {p : Addr} {H H' : Hp} (hp : ∃ zs, H p = some (.lst zs)) (s : SbV p H H') : ∀ (ds : List PyData) (vs : List V), DvAll p H vs ds → DvAll p H' vs ds
  | [], _, h => by cases h; exact .nil
  | d :: ds, _, h => by
    cases h with
    | cons h1 h2 => exact .cons (dv_sbv hp s d _ h1) (dv_sbvAll hp s ds _ h2)
end
mutual
theorem dv_same {p : Addr} {H H' : Hp} (s : Same H H') : ∀ (d : PyData) (v : V), Dv p H v d → Dv p H' v d
  | .none, _, h => by cases h; exact .non
  | .bool b, _, h => by cases h; exact .bl b
  | .int i, _, h => by cases h; exact .int i
  | .str x, _, h => by cases h with | str _ l => exact .str x l
  | .list ds, _, h => by
    cases h with
    | lst n h1 h2 => exact .lst n (s _ _ h1) (dv_sameAll s ds _ h2)
  | .tuple ds, _, h => by
    cases h with
    | tup h1 h2 => exact .tup (s _ _ h1) (dv_sameAll s ds _ h2)
  | .dict _, _, h => by cases h
theorem dv_sameAll {p : Addr} {H H' : Hp} (s : Same H H') : ∀ (ds : List PyData) (vs : List V), DvAll p H vs ds → DvAll p H' vs ds
  | [], _, h => by cases h; exact .nil
  | d :: ds, _, h => by
    cases h with
    | cons h1 h2 => exact .cons (dv_same s d _ h1) (dv_sameAll s ds _ h2)
end
mutual
theorem dv_dp {K : PySem.W.Frag} {p : Addr} {H : Hp} : ∀ (d : PyData) (v : V), Dv p H v d → Dp K H v d
  | .none, _, h => by cases h; exact .non
  | .bool b, _, h => by cases h; exact .bl b
  | .int i, _, h => by cases h; exact .int i
  | .str x, _, h => by cases h; exact .str x
  | .list ds, _, h => by
    cases h with
    | lst n h1 h2 => exact .lst (SqL.of h1) (dv_dpAll ds _ h2)
  | .tuple ds, _, h => by
    cases h with
    | tup h1 h2 => exact .tup (SqT.of h1) (dv_dpAll ds _ h2)
  | .dict _, _, h => by cases h
theorem dv_dpAll {K : PySem.W.Frag} {p : Addr} {H : Hp} : ∀ (ds : List PyData) (vs : List V), DvAll p H vs ds → DpAll K H vs ds
  | [], _, h => by cases h; exact .nil
  | d :: ds, _, h => by
    cases h with
    | cons h1 h2 => exact .cons (dv_dp d _ h1) (dv_dpAll ds _ h2)
end
theorem Dv.keep {p : Addr} {H H' : Hp} {v : V} {d : PyData} (h : Dv p H v d) (s : Same H H') : Dv p H' v d := dv_same s d v h
theorem DvAll.keep {p : Addr} {H H' : Hp} {vs : List V} {ds : List PyData} (h : DvAll p H vs ds) (s : Same H H') : DvAll p H' vs ds := dv_sameAll s ds vs h
theorem DvAll.length {p : Addr} {H : Hp} : ∀ {vs : List V} {ds : List PyData}, DvAll p H vs ds → vs.length = ds.length
  | _, _, .nil => rfl
  | _, _, .cons _ t => by rw [List.length_cons, List.length_cons, t.length]
theorem DvAll.at {p : Addr} {H : Hp} : ∀ {vs : List V} {ds : List PyData}, DvAll p H vs ds → ∀ {i : Nat} {x : V}, vs[i]? = some x → ∃ d, ds[i]? = some d ∧ Dv p H x d
  | _, _, .cons h t, 0, _, e => by cases e; exact ⟨_, rfl, h⟩
  | _, _, .cons h t, i + 1, _, e => t.at (i := i) e
theorem DvAll.app {p : Addr} {H : Hp} : ∀ {vs ws : List V} {ds es : List PyData}, DvAll p H vs ds → DvAll p H ws es → DvAll p H (vs ++ ws) (ds ++ es)
  | _, _, _, _, .nil, h => h
  | _, _, _, _, .cons a t, h => .cons a (t.app h)
theorem DvAll.take {p : Addr} {H : Hp} : ∀ {vs : List V} {ds : List PyData} (n : Nat), DvAll p H vs ds → DvAll p H (vs.take n) (ds.take n)
  | _, _, 0, _ => .nil
  | _, _, _ + 1, .nil => .nil
  | _, _, n + 1, .cons a t => .cons a (t.take n)
theorem DvAll.drop {p : Addr} {H : Hp} : ∀ {vs : List V} {ds : List PyData} (n : Nat), DvAll p H vs ds → DvAll p H (vs.drop n) (ds.drop n)
  | _, _, 0, h => h
  | _, _, _ + 1, .nil => .nil
  | _, _, n + 1, .cons _ t => t.drop n
/-! ### its type -/
def isStr : PyData → Bool
  | .str _ => true
  | _ => false
def isTup : PyData → Bool
  | .tuple _ => true
  | _ => false
def kB : List (String × Bool × Bool) := [("NoneType", false, false), ("bool", false, false), ("int", false, false), ("str", true, false), ("list", false, false), ("tuple", false, true)]
theorem kB_ok : ∀ x ∈ kB, kitB x.1 "str" = some x.2.1 ∧ kitB x.1 "tuple" = some x.2.2 := by decide +kernel
theorem dv_ty {K : PySem.W.Frag} {p : Addr} {H : Hp} {v : V} {d : PyData} (h : Dv p H v d) : ∃ t : String, TyX K H v (.type t) ∧ kitB t "str" = some (isStr d) ∧ kitB t "tuple" = some (isTup d) := by
  cases h with
  | non => exact ⟨"NoneType", .base .non, kB_ok ("NoneType", false, false) (by decide)⟩
  | bl b => exact ⟨"bool", .base (.bl b), kB_ok ("bool", false, false) (by decide)⟩
  | int i => exact ⟨"int", .base (.int i), kB_ok ("int", false, false) (by decide)⟩
  | str z _ => exact ⟨"str", .base (.str z), kB_ok ("str", true, false) (by decide)⟩
  | lst _ h1 _ => exact ⟨"list", .base (.lst h1), kB_ok ("list", false, false) (by decide)⟩
  | tup h1 _ => exact ⟨"tuple", .base (.tup h1), kB_ok ("tuple", false, true) (by decide)⟩
/-! ### names, one of some -/
def nameD : PyData → Bool
  | .str z => nmS z
  | _ => false
def memD (ts : List Str) : PyData → Bool
  | .str z => decide (z ∈ ts)
  | _ => false
/-- a string, or no string -/
theorem dv_cases {p : Addr} {H : Hp} {v : V} {d : PyData} (K : PySem.W.Frag) (h : Dv p H v d) : (∃ z, v = .str z ∧ d = .str z ∧ z.length ≤ 1000) ∨ (nameD d = false ∧ (∀ ts, memD ts d = false) ∧ ∃ t : Value, TyX K H v t ∧ PySem.W.kitOne K t (.type "str") = some false) := by
  obtain ⟨t, ty, k, _⟩ := dv_ty (K := K) h
  cases h with
  | str z l => exact .inl ⟨z, rfl, rfl, l⟩
  | non => exact .inr ⟨rfl, fun _ => rfl, _, ty, kit_ty k⟩
  | bl b => exact .inr ⟨rfl, fun _ => rfl, _, ty, kit_ty k⟩
  | int i => exact .inr ⟨rfl, fun _ => rfl, _, ty, kit_ty k⟩
  | lst _ _ _ => exact .inr ⟨rfl, fun _ => rfl, _, ty, kit_ty k⟩
  | tup _ _ => exact .inr ⟨rfl, fun _ => rfl, _, ty, kit_ty k⟩
/-- whether it is one of some -/
theorem one_of_dv {K : PySem.W.Frag} {p : Addr} {H : Hp} {v : V} {d : PyData} (h : Dv p H v d) (ts : List Str) : OneOf K H v ts (memD ts d) := by
  rcases dv_cases K h with ⟨z, rfl, rfl, _⟩ | ⟨_, m, t, ty, k⟩
  · exact .inl ⟨z, rfl, rfl⟩
  · exact .inr ⟨t, ty, k, m ts⟩
/-! ### what is wrong with kinds -/
def kscan : List Str → List PyData → Option Nat
  | _, [] => none
  | acc, .str z :: r => if nmS z = true ∧ z ∉ acc then kscan (acc ++ [z]) r else some acc.length
  | acc, _ :: _ => some acc.length
def kErr : PyData → Option (Option Nat)
  | .tuple ds => if 1 ≤ ds.length ∧ ds.length ≤ 4 then (kscan [] ds).map some else some none
  | _ => some none
def vOf : Option Nat → V
  | none => .non
  | some i => .int (i : Nat)
theorem kscan_ok : ∀ {ds : List PyData} {acc : List Str}, kscan acc ds = none → ∃ zs, ds = zs.map PyData.str ∧ (∀ z ∈ zs, nmS z = true) ∧ (acc.Nodup → (acc ++ zs).Nodup)
  | [], acc, _ => ⟨[], rfl, (fun z hz => by cases hz), (fun h => by rw [List.append_nil]; exact h)⟩
  | .str z :: r, acc, h => by
    unfold kscan at h
    split at h
    · rename_i c
      obtain ⟨zs, rfl, h1, h2⟩ := kscan_ok h
      refine ⟨z :: zs, rfl, fun y hy => ?_, fun nd => ?_⟩
      · rcases List.mem_cons.mp hy with rfl | hy
        · exact c.1
        · exact h1 y hy
      · have := h2 (by
          rw [List.nodup_append]
          exact ⟨nd, List.nodup_cons.mpr ⟨by simp, .nil⟩, fun x hx y hy e => c.2 (by rw [List.mem_singleton.mp hy] at e; rw [← e]; exact hx)⟩)
        rw [List.append_assoc] at this
        exact this
    · cases h
  | .none :: _, acc, h => by cases h
  | .bool _ :: _, acc, h => by cases h
  | .int _ :: _, acc, h => by cases h
  | .list _ :: _, acc, h => by cases h
  | .tuple _ :: _, acc, h => by cases h
  | .dict _ :: _, acc, h => by cases h
theorem kErr_ok {d : PyData} (h : kErr d = none) : ∃ ks, d = dSs ks ∧ KsOk ks := by
  match d, h with
  | .tuple ds, h =>
    by_cases c : 1 ≤ ds.length ∧ ds.length ≤ 4
    · have h2 : (kscan [] ds).map some = none := by
        have e : kErr (.tuple ds) = (kscan [] ds).map some := by
          unfold kErr
          exact if_pos c
        rw [← e]
        exact h
      have h' : kscan [] ds = none := by
        cases e : kscan [] ds with
        | none => rfl
        | some i => rw [e] at h2; cases h2
      obtain ⟨zs, rfl, h3, h4⟩ := kscan_ok h'
      rw [List.length_map] at c
      exact ⟨zs, rfl, c.1, c.2, h3, by have := h4 .nil; rwa [List.nil_append] at this⟩
    · have e : kErr (.tuple ds) = some none := by
        unfold kErr
        exact if_neg c
      rw [e] at h
      cases h
theorem strs_dv {p : Addr} {H : Hp} : ∀ {ks : List Str} {xs : List V}, DvAll p H xs (ks.map PyData.str) → xs = ks.map V.str
  | [], _, .nil => rfl
  | z :: r, _, .cons (.str _ _) t => by rw [strs_dv t]; rfl
theorem dv_strs {p : Addr} {H : Hp} : ∀ {ks : List Str}, (∀ z ∈ ks, z.length ≤ 1000) → DvAll p H (ks.map V.str) (ks.map PyData.str)
  | [], _ => .nil
  | z :: r, h => .cons (.str z (h z (List.mem_cons_self ..))) (dv_strs fun y hy => h y (List.mem_cons_of_mem _ hy))
theorem st_dv {p : Addr} {H : Hp} {v : V} {ks : List Str} (h : Dv p H v (dSs ks)) : ∃ a, v = .ref a ∧ StT H a ks := by
  cases h with
  | tup h1 h2 => exact ⟨_, rfl, by rw [strs_dv h2] at h1; exact h1⟩
theorem dv_st {p a : Addr} {H : Hp} {ks : List Str} (h : StT H a ks) (hl : ∀ z ∈ ks, z.length ≤ 1000) : Dv p H (.ref a) (dSs ks) := .tup h (dv_strs hl)
end Ks
set_option Elab.async false
set_option linter.all false
set_option maxRecDepth 100000
set_option maxHeartbeats 4000000
namespace Ks
open PySem PySem.Spec PyProof.Rows L2 Gd Kx
theorem kscan_no {d : PyData} {acc : List Str} {r : List PyData} (h : nameD d = false) : kscan acc (d :: r) = some acc.length := by
  cases d with
  | str z =>
    unfold kscan
    exact if_neg fun c => by rw [show nameD (.str z) = nmS z from rfl, c.1] at h; cases h
  | _ => rfl
theorem kscan_yes {z : Str} {acc : List Str} {r : List PyData} (h : nmS z = true) (n : z ∉ acc) : kscan acc (.str z :: r) = kscan (acc ++ [z]) r := by
  rw [kscan]
  exact if_pos ⟨h, n⟩
theorem kscan_in {z : Str} {acc : List Str} {r : List PyData} (n : z ∈ acc) : kscan acc (.str z :: r) = some acc.length := by
  rw [kscan]
  exact if_neg fun c => c.2 n
theorem nameD_str {d : PyData} (h : nameD d = true) : ∃ z, d = .str z ∧ nmS z = true := by
  cases d with
  | str z => exact ⟨z, rfl, h⟩
  | _ => cases h
theorem drop_at {α : Type} {l : List α} {i : Nat} {x : α} (h : l[i]? = some x) : l.drop i = x :: l.drop (i + 1) := by
  obtain ⟨hi, e⟩ := List.getElem?_eq_some_iff.mp h
  rw [List.drop_eq_getElem_cons hi, e]
section
variable {P : Program} {w : World} {K : PySem.W.Frag} {mg : Str → Option Value} {base : Heap} {C : Addr}
def spCkX (C : Addr) : Sp := fun vs H Q E => ∃ (p : Addr) (v : V) (d : PyData), vs = [v] ∧ Dv p H v d ∧ (kErr d = none → ∀ H', Same H H' → Q .non H') ∧ ∀ e, kErr d = some e → ∀ d' H', Same H H' → H' d' = some (.xd [("index", vOf e)]) → E (.ref C) (some d') H'
theorem ok_ckX {f fi : Addr} {fd fdi : FuncData} (F : Fun K "_check_kinds" "_check_kinds" sCk f fd) (T : TS0 mg) (GI : FnOk P w K mg base CX0 1 fi fdi ["value"] (spIs K)) (ki : PySem.W.keepIn K (.ref fi) = true) (bI : Binds K fdi ["value"] []) (gI : mg "is_name" = some (.ref fi))
    (O : One P w K mg base "InvalidKinds" "index" C) (ty : PySem.W.typeIn K (.ref C) = some (.type "type")) :
    FnOk P w K mg base (CX P w) 3 f fd ["kinds"] (spCkX C) := by
  obtain ⟨t4, m4⟩ := T.mki
  refine F.okX scCk (fun vs H Q E h => ?_) (fun cv A ou s H vs Q E hr h => ?_)
  · obtain ⟨p, v, d, rfl, _⟩ := h
    rfl
  obtain ⟨p, v, d, rfl, hv, q, qE⟩ := h
  have hr1 : Room 1 (A.deeper (envOfC "_check_kinds" (defScope sCk) s.heap.objs.size f cv)) := hr.mono (by decide)
  refine ⟨_, pss_cons (ps_if (PW.pt (pw_or (pt_not (pt_val (pe_callB call_isi (by rfl) T.isi boot_isinstance (pa_cons (pv 0) (pa_cons (pe_bltn (v := .ty "tuple") (by rfl) T.tup boot_tuple rfl) pa_nil)))))
        (pw_or1 (pt_not (pt_chain op_le op_le pe_int (pe_callB call_len_seq (by rfl) T.len PySem.boot_len (pa_cons (pv 0) pa_nil)) (pe_glob (v := .int 4) (by rfl) m4 ⟨_, rfl⟩)))))) (pss_one (ps_raise rfl (takes_of rfl rfl rfl rfl) (pmk_one O ty hr (by rfl) pe_non))) pss_nil)
    (pss_one (ps_for PassesOwn.leaving rfl (pi_enT (by rfl) T.enu (pa_cons (pv 0) pa_nil)) (pg_tup rfl (pgs_cons (pg_name (i := 1) scCk.nd rfl (.inl rfl)) (pgs_cons (pg_name (i := 2) scCk.nd rfl (.inl rfl)) pgs_nil)))
      (pss_one (ps_if (PW.pt (pw_or (pt_not (pt_val (pe_call GI hr1 (by rfl) gI ki bI .nil pass0 (pa_cons (pv 2) pa_nil)))) (pw_or1 (pt_cmpR op_in_seq (pv 2) (pe_slice sl_tup (pv 0) po_none (po_some (pv 1))) (by rfl))))) (pss_one (ps_raise rfl (takes_of rfl rfl rfl rfl) (pmk_one O ty hr (by rfl) (pv 1)))) pss_nil)))), ?_⟩
  obtain ⟨t, tyv, _, kt⟩ := dv_ty (K := K) hv
  refine ⟨v, rfl, v, .ty "tuple", _, _, isTup d, rfl, .ty "tuple", tyv, kit_ty kt, _, rfl, ?_⟩
  cases hv with
  | non => exact iteT (iteT fun d' H3 s4 _ e3 => qE none rfl d' H3 s4 e3)
  | bl b => exact iteT (iteT fun d' H3 s4 _ e3 => qE none rfl d' H3 s4 e3)
  | int i => exact iteT (iteT fun d' H3 s4 _ e3 => qE none rfl d' H3 s4 e3)
  | str z _ => exact iteT (iteT fun d' H3 s4 _ e3 => qE none rfl d' H3 s4 e3)
  | lst _ _ _ => exact iteT (iteT fun d' H3 s4 _ e3 => qE none rfl d' H3 s4 e3)
  | @tup a xs ds hs hall =>
  have ln := hall.length
  refine iteF ⟨.ref a, rfl, a, _, rfl, .inr (SqT.of hs), _, _, rfl, rfl, _, rfl, ?_⟩
  by_cases k1 : 1 ≤ ds.length
  rotate_left
  · rw [decide_eq_false (show ¬ (1 : Int) ≤ ((xs.length : Nat) : Int) by omega)]
    refine iteF ⟨_, rfl, iteT fun d' H3 s4 _ e3 => qE none ?_ d' H3 s4 e3⟩
    unfold kErr
    exact if_neg fun c => k1 c.1
  rw [decide_eq_true (show (1 : Int) ≤ ((xs.length : Nat) : Int) by omega)]
  refine iteT ⟨_, _, rfl, rfl, _, rfl, ?_⟩
  by_cases k4 : ds.length ≤ 4
  rotate_left
  · rw [decide_eq_false (show ¬ ((xs.length : Nat) : Int) ≤ 4 by omega)]
    refine iteT fun d' H3 s4 _ e3 => qE none ?_ d' H3 s4 e3
    unfold kErr
    exact if_neg fun c => k4 c.2
  rw [decide_eq_true (show ((xs.length : Nat) : Int) ≤ 4 by omega)]
  have ek : kErr (.tuple ds) = (kscan [] ds).map some := by
    unfold kErr
    exact if_pos ⟨k1, k4⟩
  refine iteF ⟨.ref a, rfl, a, _, rfl, SqT.of hs, for_enT (K := K) (t := a) (xs := xs) (fun i σ H' => ∃ (o1 o2 : Option V) (acc : List Str), σ = [some (.ref a), o1, o2] ∧ Same H H' ∧ acc.length = i ∧ xs.take i = acc.map V.str ∧ kscan [] ds = kscan acc (ds.drop i)) ⟨none, none, [], rfl, fun _ _ e => e, rfl, rfl, rfl⟩ (fun i σ H' _ p => ?_) ?_ ?_⟩
  · obtain ⟨_, _, _, _, s1, _⟩ := p
    exact SqT.of (s1 _ _ hs)
  · rintro i x σ H1 L0 hx ⟨o1, o2, acc, rfl, s1, la, tk, sc⟩ np
    obtain ⟨dx, edx, hvx⟩ := hall.at hx
    have hi : i < xs.length := (List.getElem?_eq_some_iff.mp hx).1
    have s2 : Same H1 (upd H1 L0 (.tup [.int (i : Nat), x])) := same_new np
    rw [drop_at edx] at sc
    have bad : kscan acc (dx :: ds.drop (i + 1)) = some acc.length → ∀ d' H3, Same H H3 → H3 d' = some (.xd [("index", V.int (i : Nat))]) → E (.ref C) (some d') H3 := fun e d' H3 s3 e3 => by
      refine qE (some i) ?_ d' H3 s3 e3
      rw [ek, sc, e, la]
      rfl
    refine ⟨L0, _, rfl, SqT.of upd_same, rfl, ?_⟩
    rcases dv_cases K (hvx.keep (s1.trans s2)) with ⟨z, rfl, rfl, lz⟩ | ⟨hn, _, t, tyx, kx⟩
    rotate_left
    · exact ⟨_, _, rfl, _, _, rfl, rfl, x, rfl, x, rfl, .inr ⟨t, tyx, kx, false, rfl, iteT (iteT ⟨.int (i : Nat), rfl, fun d' H3 s4 _ e3 => bad (kscan_no hn) d' H3 (s1.trans (s2.trans s4)) e3⟩)⟩⟩
    refine ⟨_, _, rfl, _, _, rfl, rfl, .str z, rfl, .str z, rfl, .inl ⟨z, rfl, lz, fun H2 s3 => ?_⟩⟩
    have sA := s1.trans (s2.trans s3)
    cases nz : nmS z with
    | false => exact ⟨false, rfl, iteT (iteT ⟨.int (i : Nat), rfl, fun d' H3 s4 _ e3 => bad (kscan_no nz) d' H3 (sA.trans s4) e3⟩)⟩
    | true =>
      refine ⟨true, rfl, iteF ⟨.str z, rfl, .ref a, rfl, .int (i : Nat), rfl, _, rfl, a, xs, rfl, SqT.of (sA _ _ hs), ?_, fun L nL => ?_⟩⟩
      · rintro ⟨_, e⟩
        rw [HT.sIx_nat] at e
        omega
      rw [cut_take (by omega), tk]
      refine ⟨L, _, rfl, .inr (SqT.of upd_same), rfl, all_flat _, _, rfl, ?_⟩
      rw [if_neg (by decide), inV_str]
      by_cases hm : z ∈ acc
      · rw [decide_eq_true hm]
        refine iteT ⟨.int (i : Nat), rfl, fun d' H3 s4 _ e3 => bad (kscan_in hm) d' H3 ((sA.trans (same_new nL)).trans s4) e3⟩
      · rw [decide_eq_false hm]
        refine iteF ⟨_, _, acc ++ [z], rfl, sA.trans (same_new nL), by rw [List.length_append, la]; rfl, ?_, ?_⟩
        · rw [List.take_add_one, hx, tk, List.map_append]
          rfl
        · rw [sc, kscan_yes nz hm]
  · rintro σ H1 ⟨o1, o2, acc, rfl, s1, la, tk, sc⟩
    refine q ?_ H1 s1
    rw [ek, sc, ln, List.drop_length]
    rfl
end
end Ks
set_option Elab.async false
set_option linter.all false
set_option maxRecDepth 100000
set_option maxHeartbeats 4000000
namespace Ks
open PySem PySem.Spec PyProof.Rows L2 Gd Kx
def fldD (ks : List Str) : PyData → Bool
  | .tuple fs => decide (fs.length ≤ 3) && fs.all (memD ks)
  | _ => false
def rowD (ks : List Str) : PyData → Bool
  | .tuple [n, k, f] => nameD n && (memD ks k && fldD ks f)
  | _ => false
theorem rowD_len {ks : List Str} {ds : List PyData} (h : ds.length ≠ 3) : rowD ks (.tuple ds) = false := by
  match ds, h with
  | [], _ => rfl
  | [_], _ => rfl
  | [_, _], _ => rfl
  | [_, _, _], h => exact absurd rfl h
  | _ :: _ :: _ :: _ :: _, _ => rfl
section
variable {P : Program} {w : World} {K : PySem.W.Frag} {mg : Str → Option Value} {base : Heap}
def spIsV : Sp := fun vs H Q _ => ∃ (p : Addr) (x : V) (d : PyData) (a : Addr) (ks : List Str), vs = [x, .ref a] ∧ Dv p H x d ∧ StT H a ks ∧ ∀ H', Same H H' → Q (.bl (rowD ks d)) H'
theorem ok_isV {f fi fo : Addr} {fd fdi fdo : FuncData} (F : Fun K "_is_constructor" "_is_constructor" sIsC f fd) (T : TS0 mg)
    (GI : FnOk P w K mg base CX0 1 fi fdi ["value"] (spIs K)) (ki : PySem.W.keepIn K (.ref fi) = true) (bI : Binds K fdi ["value"] []) (gI : mg "is_name" = some (.ref fi))
    (GO : FnOk P w K mg base CX0 1 fo fdo ["value", "names"] (spOne K)) (ko : PySem.W.keepIn K (.ref fo) = true) (bO : Binds K fdo ["value", "names"] []) (gO : mg "_is_one_of" = some (.ref fo)) :
    FnOk P w K mg base CX0 2 f fd ["value", "kinds"] spIsV := by
  obtain ⟨t3, m3⟩ := T.mfi
  refine F.ok scIsC (fun vs H Q E h => ?_) (fun cv A ou s H vs Q E hr h => ?_)
  · obtain ⟨p, x, d, a, ks, rfl, _⟩ := h
    rfl
  obtain ⟨p, x, d, a, ks, rfl, hv, hs, q⟩ := h
  refine ⟨_, pss_cons (ps_if (PW.pt (pw_or (pt_not (pt_val (pe_callB call_isi (by rfl) T.isi boot_isinstance (pa_cons (pv 0) (pa_cons (pe_bltn (v := .ty "tuple") (by rfl) T.tup boot_tuple rfl) pa_nil)))))
        (pw_or1 (pt_cmpR op_ne (pe_callB call_len_seq (by rfl) T.len PySem.boot_len (pa_cons (pv 0) pa_nil)) pe_int (nomark _))))) (pss_one (ps_ret pe_bl)) pss_nil)
    (pss_cons (ps_asg (pv 0) (pg_tup (by rfl) (pgs_cons (pg_name (i := 2) scIsC.nd rfl (.inl rfl)) (pgs_cons (pg_name (i := 3) scIsC.nd rfl (.inl rfl)) (pgs_cons (pg_name (i := 4) scIsC.nd rfl (.inl rfl)) pgs_nil)))))
    (pss_cons (ps_if (PW.pt (pw_or (pt_not (pt_val (pe_call GI hr (by rfl) gI ki bI .nil pass0 (pa_cons (pv 2) pa_nil)))) (pw_or1 (pt_not (pt_val (pe_call GO hr (by rfl) gO ko bO .nil pass0 (pa_cons (pv 3) (pa_cons (pv 1) pa_nil)))))))) (pss_one (ps_ret pe_bl)) pss_nil)
    (pss_cons (ps_if (PW.pt (pw_or (pt_not (pt_val (pe_callB call_isi (by rfl) T.isi boot_isinstance (pa_cons (pv 4) (pa_cons (pe_bltn (v := .ty "tuple") (by rfl) T.tup boot_tuple rfl) pa_nil)))))
        (pw_or1 (pt_cmpR op_gt (pe_callB call_len_seq (by rfl) T.len PySem.boot_len (pa_cons (pv 4) pa_nil)) (pe_glob (v := .int 3) (by rfl) m3 ⟨_, rfl⟩) (nomark _))))) (pss_one (ps_ret pe_bl)) pss_nil)
    (pss_one (ps_ret (pe_callB (cr_all rfl) (by rfl) T.all boot_all (pa_cons (pe_lc (own := [("field", 5)]) (g := gName 5) (tt := tYes) rfl scIsC.nd (pi_tup (pv 4)) (blkOk_by (own := [("field", 5)]) (N := ["value", "kinds", "name", "kind", "fields", "field"]) (sc := defScope sIsC) (by decide +kernel))
      (fun _ _ _ _ _ => pg_name (i := 5) scIsC.nd rfl (Or.inl rfl)) (fun _ _ _ _ _ => pts_nil)
      (fun _ _ _ _ _ => asTE (te := tCall (spOne K) [] E0 (tCons (tVar 5) (tCons (tVar 1) tNil))) (pe_call GO hr (by rfl) gO ko bO .nil pass0 (pa_cons (pv 5) (pa_cons (pv 1) pa_nil))) rfl)) pa_nil))))))), ?_⟩
  obtain ⟨t, tyv, _, kt⟩ := dv_ty (K := K) hv
  have q0 := q H fun _ _ e => e
  refine ⟨x, rfl, x, .ty "tuple", _, _, isTup d, rfl, .ty "tuple", tyv, kit_ty kt, _, rfl, ?_⟩
  cases hv with
  | non => exact iteT (iteT q0)
  | bl b => exact iteT (iteT q0)
  | int i => exact iteT (iteT q0)
  | str z _ => exact iteT (iteT q0)
  | lst _ _ _ => exact iteT (iteT q0)
  | @tup b xs ds hb hall =>
  have ln := hall.length
  refine iteF ⟨.ref b, rfl, b, _, rfl, .inr (SqT.of hb), rfl, _, rfl, ?_⟩
  by_cases l3 : ds.length = 3
  rotate_left
  · rw [show decide (V.int ((xs.length : Nat) : Int) = V.int 3) = false from decide_eq_false fun e => by injection e with e; omega]
    rw [rowD_len l3] at q0
    exact iteT q0
  rw [show decide (V.int ((xs.length : Nat) : Int) = V.int 3) = true from decide_eq_true (by rw [show ((xs.length : Nat) : Int) = 3 by omega])]
  obtain ⟨dn, dk, df, rfl⟩ : ∃ x y z, ds = [x, y, z] := by
    match ds, l3 with
    | [x, y, z], _ => exact ⟨x, y, z, rfl⟩
  cases hall with
  | @cons xn _ _ _ hn hall =>
  cases hall with
  | @cons xk _ _ _ hk hall =>
  cases hall with
  | @cons xf _ _ _ hf hall =>
  cases hall
  refine iteF ?_
  refine ⟨.ref b, rfl, b, _, rfl, SqT.of hb, rfl, _, _, rfl, _, _, rfl, _, _, rfl, rfl, ?_⟩
  have er : rowD ks (.tuple [dn, dk, df]) = (nameD dn && (memD ks dk && fldD ks df)) := rfl
  rw [er] at q q0
  rcases dv_cases K hn with ⟨z, rfl, rfl, lz⟩ | ⟨nn, _, t, tyx, kx⟩
  rotate_left
  · rw [nn] at q0
    exact ⟨xn, rfl, xn, rfl, .inr ⟨t, tyx, kx, false, rfl, iteT (iteT q0)⟩⟩
  refine ⟨.str z, rfl, .str z, rfl, .inl ⟨z, rfl, lz, fun H2 s2 => ?_⟩⟩
  have q2 := q H2 s2
  rw [show nameD (PyData.str z) = nmS z from rfl] at q q2
  cases nz : nmS z with
  | false =>
    rw [nz] at q2
    exact ⟨false, rfl, iteT (iteT q2)⟩
  | true =>
  rw [nz, Bool.true_and] at q q2
  have hs2 : StT H2 a ks := s2 _ _ hs
  have hk2 := hk.keep s2
  have hf2 := hf.keep s2
  refine ⟨true, rfl, iteF ⟨xk, rfl, .ref a, rfl, xk, a, ks, memD ks dk, rfl, SqT.of hs2, one_of_dv hk2 ks, memD ks dk, rfl, ?_⟩⟩
  cases mk : memD ks dk with
  | false =>
    rw [mk] at q2
    exact iteT q2
  | true =>
  rw [mk, Bool.true_and] at q q2
  obtain ⟨t, tyf, _, kf⟩ := dv_ty (K := K) hf2
  refine iteF ⟨xf, rfl, xf, .ty "tuple", _, _, isTup df, rfl, .ty "tuple", tyf, kit_ty kf, _, rfl, ?_⟩
  cases hf2 with
  | non => exact iteT (iteT q2)
  | bl b => exact iteT (iteT q2)
  | int i => exact iteT (iteT q2)
  | str z _ => exact iteT (iteT q2)
  | lst _ _ _ => exact iteT (iteT q2)
  | @tup fa fs gs hfa hfs =>
  have lf := hfs.length
  refine iteF ⟨.ref fa, rfl, fa, _, rfl, .inr (SqT.of hfa), _, _, rfl, rfl, _, rfl, ?_⟩
  have ef : fldD ks (.tuple gs) = (decide (gs.length ≤ 3) && gs.all (memD ks)) := rfl
  rw [ef] at q q2
  by_cases g3 : gs.length ≤ 3
  rotate_left
  · rw [decide_eq_false g3] at q2
    rw [decide_eq_true (show ((fs.length : Nat) : Int) > 3 by omega)]
    exact iteT q2
  rw [decide_eq_true g3, Bool.true_and] at q q2
  rw [decide_eq_false (show ¬ ((fs.length : Nat) : Int) > 3 by omega)]
  refine iteF ?_
  refine ⟨.ref fa, rfl, fa, rfl, ⟨_, SqT.of hfa⟩, fun D nD => lc_funT (K := K) (a := fa) (xs := fs) (ys := (gs.map (memD ks)).map V.bl) (fun _ => rfl) nD (SqT.of hfa) (by omega) (by rw [List.length_map, List.length_map, lf]) (fun i x y H3 hx hy s3 qq => ?_) fun H3 s3 eD => ?_⟩
  · intro k
    obtain ⟨d, ed, hd⟩ := hfs.at hx
    rw [List.getElem?_map, List.getElem?_map, ed] at hy
    cases hy
    exact ⟨x, rfl, .ref a, rfl, x, a, ks, memD ks d, rfl, SqT.of (s3 _ _ hs2), one_of_dv (hd.keep s3) ks, k H3 fun _ _ e => e⟩
  · refine ⟨D, gs.map (memD ks), rfl, SqL.of eD, ?_⟩
    have e : (gs.map (memD ks)).all id = gs.all (memD ks) := by rw [List.all_map]; rfl
    rw [e]
    exact q H3 (s2.trans s3)
end
end Ks
set_option Elab.async false
set_option linter.all false
set_option maxRecDepth 100000
set_option maxHeartbeats 4000000
namespace Ks
open PySem PySem.Spec PyProof.Rows L2 Gd Kx
def nmOf : PyData → Str
  | .tuple (.str z :: _) => z
  | _ => Str.ofString ""
def rscan (ks : List Str) : List Str → List PyData → Option Nat
  | _, [] => none
  | acc, d :: r => if rowD ks d = true ∧ nmOf d ∉ acc then rscan ks (acc ++ [nmOf d]) r else some acc.length
def rErr (ks : List Str) : PyData → Option (Option Nat)
  | .tuple ds => if 1 ≤ ds.length ∧ ds.length ≤ 6 then (rscan ks [] ds).map some else some none
  | _ => some none
theorem memD_str {ks : List Str} {d : PyData} (h : memD ks d = true) : ∃ z, d = .str z ∧ z ∈ ks := by
  match d, h with
  | .str z, h => exact ⟨z, rfl, of_decide_eq_true h⟩
theorem fld_of {ks : List Str} : ∀ {fs : List PyData}, fs.all (memD ks) = true → ∃ zs : List Str, fs = zs.map PyData.str ∧ ∀ z ∈ zs, z ∈ ks
  | [], _ => ⟨[], rfl, fun z hz => by cases hz⟩
  | d :: r, h => by
    rw [List.all_cons, Bool.and_eq_true_iff] at h
    obtain ⟨z, rfl, hz⟩ := memD_str h.1
    obtain ⟨zs, rfl, hzs⟩ := fld_of h.2
    refine ⟨z :: zs, rfl, fun y hy => ?_⟩
    rcases List.mem_cons.mp hy with rfl | hy
    · exact hz
    · exact hzs y hy
theorem rowD_ok {ks : List Str} {d : PyData} (h : rowD ks d = true) : ∃ r : Rw, d = dRw r ∧ RwOk ks r ∧ nmOf d = r.1 := by
  match d, h with
  | .tuple [n, k, f], h =>
    have h' : (nameD n && (memD ks k && fldD ks f)) = true := h
    rw [Bool.and_eq_true_iff, Bool.and_eq_true_iff] at h'
    obtain ⟨h1, h2, h3⟩ := h'
    obtain ⟨z, rfl, nz⟩ := nameD_str h1
    obtain ⟨y, rfl, hy⟩ := memD_str h2
    match f, h3 with
    | .tuple fs, h3 =>
      have h4 : (decide (fs.length ≤ 3) && fs.all (memD ks)) = true := h3
      rw [Bool.and_eq_true_iff] at h4
      obtain ⟨zs, rfl, hzs⟩ := fld_of h4.2
      have l := of_decide_eq_true h4.1
      rw [List.length_map] at l
      exact ⟨(z, y, zs), rfl, ⟨nz, hy, l, hzs⟩, rfl⟩
theorem rscan_ok {ks : List Str} : ∀ {ds : List PyData} {acc : List Str}, rscan ks acc ds = none → ∃ rs : List Rw, ds = rs.map dRw ∧ (∀ r ∈ rs, RwOk ks r) ∧ (acc.Nodup → (acc ++ rs.map (·.1)).Nodup)
  | [], acc, _ => ⟨[], rfl, (fun z hz => by cases hz), (fun h => by rw [List.map_nil, List.append_nil]; exact h)⟩
  | d :: r, acc, h => by
    unfold rscan at h
    split at h
    · rename_i c
      obtain ⟨rw, e1, e2, e3⟩ := rowD_ok c.1
      obtain ⟨rs, rfl, h1, h2⟩ := rscan_ok h
      refine ⟨rw :: rs, by rw [List.map_cons, e1], fun y hy => ?_, fun nd => ?_⟩
      · rcases List.mem_cons.mp hy with rfl | hy
        · exact e2
        · exact h1 y hy
      · have := h2 (by
          rw [List.nodup_append]
          exact ⟨nd, List.nodup_cons.mpr ⟨by simp, .nil⟩, fun x hx y hy e => c.2 (by rw [List.mem_singleton.mp hy] at e; rw [← e]; exact hx)⟩)
        rw [List.append_assoc, e3] at this
        exact this
    · cases h
theorem rErr_ok {ks : List Str} {d : PyData} (h : rErr ks d = none) : ∃ rs : List Rw, d = dRs rs ∧ Pre ks rs none := by
  match d, h with
  | .tuple ds, h =>
    by_cases c : 1 ≤ ds.length ∧ ds.length ≤ 6
    · have h2 : (rscan ks [] ds).map some = none := by
        have e : rErr ks (.tuple ds) = (rscan ks [] ds).map some := by
          unfold rErr
          exact if_pos c
        rw [← e]
        exact h
      have h' : rscan ks [] ds = none := by
        cases e : rscan ks [] ds with
        | none => rfl
        | some i => rw [e] at h2; cases h2
      obtain ⟨rs, rfl, h3, h4⟩ := rscan_ok h'
      rw [List.length_map] at c
      refine ⟨rs, rfl, ⟨?_, ?_, h3, ?_, fun r e => by cases e⟩⟩
      · rw [show rs ++ (none : Option Rw).toList = rs from List.append_nil _]
        exact c.1
      · rw [show rs ++ (none : Option Rw).toList = rs from List.append_nil _]
        exact c.2
      · rw [show rs ++ (none : Option Rw).toList = rs from List.append_nil _]
        have := h4 .nil
        rwa [List.nil_append] at this
    · have e : rErr ks (.tuple ds) = some none := by
        unfold rErr
        exact if_neg c
      rw [e] at h
      cases h
theorem row_dv {p : Addr} {H : Hp} {x : V} {r : Rw} (h : Dv p H x (dRw r)) : RowV H x r := by
  cases h with
  | @tup b xs ds hb hall =>
  cases hall with
  | cons h1 t =>
  cases t with
  | cons h2 t =>
  cases t with
  | cons h3 t =>
  cases t
  cases h1
  cases h2
  obtain ⟨f, rfl, hf⟩ := st_dv h3
  exact ⟨b, f, rfl, hb, hf⟩
theorem rows_dvA {p : Addr} {H : Hp} : ∀ {rs : List Rw} {xs : List V}, DvAll p H xs (rs.map dRw) → Paired (RowV H) xs rs
  | [], _, .nil => .nil
  | r :: rs, _, .cons h t => .cons (row_dv h) (rows_dvA t)
theorem rows_dv {p : Addr} {H : Hp} {v : V} {rs : List Rw} (h : Dv p H v (dRs rs)) : ∃ a, v = .ref a ∧ RowsT H a rs := by
  cases h with
  | tup h1 h2 => exact ⟨_, rfl, _, h1, rows_dvA h2⟩
theorem dv_row {p : Addr} {H : Hp} {x : V} {r : Rw} (h : RowV H x r) (l1 : r.1.length ≤ 1000) (l2 : r.2.1.length ≤ 1000) (l3 : ∀ z ∈ r.2.2, z.length ≤ 1000) : Dv p H x (dRw r) := by
  obtain ⟨b, f, rfl, hb, hf⟩ := h
  exact .tup hb (.cons (.str _ l1) (.cons (.str _ l2) (.cons (dv_st hf l3) .nil)))
section
variable {P : Program} {w : World} {K : PySem.W.Frag} {mg : Str → Option Value} {base : Heap} {C : Addr}
def spCcX (C : Addr) : Sp := fun vs H Q E => ∃ (p : Addr) (v : V) (d : PyData) (a : Addr) (ks : List Str), vs = [v, .ref a] ∧ Dv p H v d ∧ StT H a ks ∧ (rErr ks d = none → ∀ H', Same H H' → Q .non H') ∧ ∀ e, rErr ks d = some e → ∀ d' H', Same H H' → H' d' = some (.xd [("index", vOf e)]) → E (.ref C) (some d') H'
theorem ok_ccX {f fi : Addr} {fd fdi : FuncData} (F : Fun K "_check_constructors" "_check_constructors" sCc f fd) (T : TS0 mg)
    (GI : FnOk P w K mg base CX0 2 fi fdi ["value", "kinds"] spIsV) (ki : PySem.W.keepIn K (.ref fi) = true) (bI : Binds K fdi ["value", "kinds"] []) (gI : mg "_is_constructor" = some (.ref fi))
    (O : One P w K mg base "InvalidConstructors" "index" C) (ty : PySem.W.typeIn K (.ref C) = some (.type "type")) :
    FnOk P w K mg base (CX P w) 3 f fd ["constructors", "kinds"] (spCcX C) := by
  obtain ⟨t6, m6⟩ := T.mco
  refine F.okX scCc (fun vs H Q E h => ?_) (fun cv A ou s H vs Q E hr h => ?_)
  · obtain ⟨p, v, d, a, ks, rfl, _⟩ := h
    rfl
  obtain ⟨p, v, d, a, ks, rfl, hv, hs, q, qE⟩ := h
  refine ⟨_, pss_cons (ps_if (PW.pt (pw_or (pt_not (pt_val (pe_callB call_isi (by rfl) T.isi boot_isinstance (pa_cons (pv 0) (pa_cons (pe_bltn (v := .ty "tuple") (by rfl) T.tup boot_tuple rfl) pa_nil)))))
        (pw_or1 (pt_not (pt_chain op_le op_le pe_int (pe_callB call_len_seq (by rfl) T.len PySem.boot_len (pa_cons (pv 0) pa_nil)) (pe_glob (v := .int 6) (by rfl) m6 ⟨_, rfl⟩)))))) (pss_one (ps_raise rfl (takes_of rfl rfl rfl rfl) (pmk_one O ty hr (by rfl) pe_non))) pss_nil)
    (pss_cons (ps_set (i := 2) scCc.nd rfl (.inl rfl) (pe_lst pa_nil))
    (pss_one (ps_for PassesOwn.leaving rfl (pi_enT (by rfl) T.enu (pa_cons (pv 0) pa_nil)) (pg_tup rfl (pgs_cons (pg_name (i := 3) scCc.nd rfl (.inl rfl)) (pgs_cons (pg_name (i := 4) scCc.nd rfl (.inl rfl)) pgs_nil)))
      (pss_cons (ps_if (PW.pt (pw_or (pt_not (pt_val (pe_call GI hr (by rfl) gI ki bI .nil pass0 (pa_cons (pv 4) (pa_cons (pv 1) pa_nil))))) (pw_or1 (pt_cmpR op_in_seq (pe_ix ix_tup (pv 4) pe_int (fun _ _ => rfl)) (pv 2) (by rfl))))) (pss_one (ps_raise rfl (takes_of rfl rfl rfl rfl) (pmk_one O ty hr (by rfl) (pv 3)))) pss_nil)
      (pss_one (ps_expr (pe_bm PySem.F.plainAttrs_list PySem.F.slot_list_append PySem.F.type_list_append mt_append (pv 2) (pa_cons (pe_ix ix_tup (pv 4) pe_int (fun _ _ => rfl)) pa_nil)))))))), ?_⟩
  obtain ⟨t, tyv, _, kt⟩ := dv_ty (K := K) hv
  refine ⟨v, rfl, v, .ty "tuple", _, _, isTup d, rfl, .ty "tuple", tyv, kit_ty kt, _, rfl, ?_⟩
  cases hv with
  | non => exact iteT (iteT fun d' H3 s4 _ e3 => qE none rfl d' H3 s4 e3)
  | bl b => exact iteT (iteT fun d' H3 s4 _ e3 => qE none rfl d' H3 s4 e3)
  | int i => exact iteT (iteT fun d' H3 s4 _ e3 => qE none rfl d' H3 s4 e3)
  | str z _ => exact iteT (iteT fun d' H3 s4 _ e3 => qE none rfl d' H3 s4 e3)
  | lst _ _ _ => exact iteT (iteT fun d' H3 s4 _ e3 => qE none rfl d' H3 s4 e3)
  | @tup c xs ds hc hall =>
  have ln := hall.length
  refine iteF ⟨.ref c, rfl, c, _, rfl, .inr (SqT.of hc), _, _, rfl, rfl, _, rfl, ?_⟩
  by_cases k1 : 1 ≤ ds.length
  rotate_left
  · rw [decide_eq_false (show ¬ (1 : Int) ≤ ((xs.length : Nat) : Int) by omega)]
    refine iteF ⟨_, rfl, iteT fun d' H3 s4 _ e3 => qE none ?_ d' H3 s4 e3⟩
    unfold rErr
    exact if_neg fun c => k1 c.1
  rw [decide_eq_true (show (1 : Int) ≤ ((xs.length : Nat) : Int) by omega)]
  refine iteT ⟨_, _, rfl, rfl, _, rfl, ?_⟩
  by_cases k4 : ds.length ≤ 6
  rotate_left
  · rw [decide_eq_false (show ¬ ((xs.length : Nat) : Int) ≤ 6 by omega)]
    refine iteT fun d' H3 s4 _ e3 => qE none ?_ d' H3 s4 e3
    unfold rErr
    exact if_neg fun c => k4 c.2
  rw [decide_eq_true (show ((xs.length : Nat) : Int) ≤ 6 by omega)]
  have ek : rErr ks (.tuple ds) = (rscan ks [] ds).map some := by
    unfold rErr
    exact if_pos ⟨k1, k4⟩
  refine iteF ⟨(by show 0 ≤ sizeLine; exact Nat.zero_le _), fun L nL => ?_⟩
  refine ⟨.ref c, rfl, c, _, rfl, SqT.of (same_new nL _ _ hc), for_enT (K := K) (t := c) (xs := xs) (fun i σ H' => ∃ (o3 o4 : Option V) (acc : List Str), σ = [some (.ref c), some (.ref a), some (.ref L), o3, o4] ∧ Same H H' ∧ H' L = some (.lst (acc.map V.str)) ∧ acc.length = i ∧ rscan ks [] ds = rscan ks acc (ds.drop i)) ⟨none, none, [], rfl, same_new nL, upd_same, rfl, rfl⟩ (fun i σ H' _ p => ?_) ?_ ?_⟩
  · obtain ⟨_, _, _, _, s1, _⟩ := p
    exact SqT.of (s1 _ _ hc)
  · rintro i x σ H1 L0 hx ⟨o3, o4, acc, rfl, s1, eL, la, sc⟩ np
    obtain ⟨dx, edx, hvx⟩ := hall.at hx
    have hi : i < xs.length := (List.getElem?_eq_some_iff.mp hx).1
    have s2 : Same H1 (upd H1 L0 (.tup [.int (i : Nat), x])) := same_new np
    rw [drop_at edx] at sc
    have bad : rscan ks acc (dx :: ds.drop (i + 1)) = some acc.length → ∀ d' H3, Same H H3 → H3 d' = some (.xd [("index", V.int (i : Nat))]) → E (.ref C) (some d') H3 := fun e d' H3 s3 e3 => by
      refine qE (some i) ?_ d' H3 s3 e3
      rw [ek, sc, e, la]
      rfl
    have sA := s1.trans s2
    refine ⟨L0, _, rfl, SqT.of upd_same, rfl, ?_⟩
    refine ⟨_, _, rfl, _, _, rfl, rfl, x, rfl, .ref a, rfl, p, x, dx, a, ks, rfl, hvx.keep sA, sA _ _ hs, fun H2 s3 => ⟨rowD ks dx, rfl, ?_⟩⟩
    have sB := sA.trans s3
    cases hrow : rowD ks dx with
    | false =>
      refine iteT (iteT ⟨.int (i : Nat), rfl, fun d' H3 s4 _ e3 => bad ?_ d' H3 (sB.trans s4) e3⟩)
      rw [rscan]
      exact if_neg fun c => by rw [hrow] at c; exact absurd c.1 (by decide)
    | true =>
      obtain ⟨r, rfl, gr, en⟩ := rowD_ok hrow
      obtain ⟨b, fa, rfl, hb, hf⟩ := row_dv (hvx.keep sB)
      have eL2 := s3 _ _ (s2 _ _ eL)
      refine iteF ⟨.ref b, rfl, b, _, _, .str r.1, rfl, rfl, SqT.of hb, rfl, .ref L, rfl, L, _, rfl, .inl (SqL.of eL2), rfl, all_flat _, _, rfl, ?_⟩
      rw [if_neg (by decide), inV_str]
      by_cases hm : r.1 ∈ acc
      · rw [decide_eq_true hm]
        refine iteT ⟨.int (i : Nat), rfl, fun d' H3 s4 _ e3 => bad ?_ d' H3 (sB.trans s4) e3⟩
        rw [rscan]
        exact if_neg fun c => c.2 (by rw [en]; exact hm)
      · rw [decide_eq_false hm]
        refine iteF ⟨.ref L, rfl, .inl ⟨rfl, _, SqL.of eL2⟩, .ref b, rfl, b, _, _, .str r.1, rfl, rfl, SqT.of hb, rfl, L, _, _, rfl, rfl, eL2, ?_, _, _, acc ++ [r.1], rfl, same_upd sB nL, ?_, by rw [List.length_append, la]; rfl, ?_⟩
        · rw [List.length_map]
          exact small1000 (by omega)
        · rw [upd_same, List.map_append]
          rfl
        · rw [sc, rscan, if_pos ⟨hrow, by rw [en]; exact hm⟩, en]
  · rintro σ H1 ⟨o3, o4, acc, rfl, s1, _, la, sc⟩
    refine q ?_ H1 s1
    rw [ek, sc, ln, List.drop_length]
    rfl
end
end Ks
set_option Elab.async false
set_option linter.all false
set_option maxRecDepth 100000
set_option maxHeartbeats 4000000
namespace Ks
open PySem PySem.Spec PyProof.Rows L2 Gd Kx
section
variable {P : Program} {w : World} {K : PySem.W.Frag} {mg : Str → Option Value} {base : Heap} {C CK CC CE : Addr}
def spIniV (C CK CC CE : Addr) : Sp := fun vs H Q E => ∃ (p x dx : Addr) (vk vc : V) (dk dc : PyData), vs = [.ref x, vk, vc] ∧ H x = some (.ins C dx []) ∧ Dv p H vk dk ∧ Dv p H vc dc ∧
  (∀ e, kErr dk = some e → ∀ d H', Same H H' → H' d = some (.xd [("index", vOf e)]) → E (.ref CK) (some d) H') ∧
  ∀ ks, dk = dSs ks → KsOk ks → (∀ e, rErr ks dc = some e → ∀ d H', Same H H' → H' d = some (.xd [("index", vOf e)]) → E (.ref CC) (some d) H') ∧
    ∀ pre, dc = dRs pre → Pre ks pre none → (∀ z, emp ks pre = some z → ∀ d H', Same H H' → H' d = some (.xd [("kind", .str z)]) → E (.ref CE) (some d) H') ∧
      (emp ks pre = none → ∀ k c n H', vk = .ref k → vc = .ref c → But x H H' → n ≠ x → InS C H' x dx k c n (pre.map (·.1)) → FzT H' n ((pre.map (·.1)).map V.str) → Q .non H')
theorem ok_iniV {f fk fc ft : Addr} {fd fdk fdc fdt : FuncData} (F : Fun K "__init__" "Schema.__init__" (cS 0) f fd) (T : TS0 mg) (Z : SCl K C)
    (GK : FnOk P w K mg base (CX P w) 3 fk fdk ["kinds"] (spCkX CK)) (kk : PySem.W.keepIn K (.ref fk) = true) (bK : Binds K fdk ["kinds"] []) (gK : mg "_check_kinds" = some (.ref fk))
    (GC : FnOk P w K mg base (CX P w) 3 fc fdc ["constructors", "kinds"] (spCcX CC)) (kc : PySem.W.keepIn K (.ref fc) = true) (bC : Binds K fdc ["constructors", "kinds"] []) (gC : mg "_check_constructors" = some (.ref fc))
    (GT : FnOk P w K mg base (CX P w) 3 ft fdt ["kinds", "constructors"] (spCtX CE)) (kt : PySem.W.keepIn K (.ref ft) = true) (bT : Binds K fdt ["kinds", "constructors"] []) (gT : mg "_check_trees" = some (.ref ft)) :
    FnOk P w K mg base (CX P w) 4 f fd ["self", "kinds", "constructors"] (spIniV C CK CC CE) := by
  refine F.okX scIni (fun vs H Q E h => ?_) (fun cv A ou s H vs Q E hr h => ?_)
  · obtain ⟨p, x, dx, vk, vc, dk, dc, rfl, _⟩ := h
    rfl
  obtain ⟨p, x, dx, vk, vc, dk, dc, rfl, hx, hk, hcv, qK, qR⟩ := h
  refine ⟨_, pss_cons (ps_expr (pe_call GK hr (by rfl) gK kk bK .nil (passes_call (takes_of rfl rfl rfl rfl) (fun _ _ _ _ h => h)) (pa_cons (pv 1) pa_nil)))
    (pss_cons (ps_expr (pe_call GC hr (by rfl) gC kc bC .nil (passes_call (takes_of rfl rfl rfl rfl) (fun _ _ _ _ h => h)) (pa_cons (pv 2) (pa_cons (pv 1) pa_nil))))
    (pss_cons (ps_expr (pe_call GT hr (by rfl) gT kt bT .nil (passes_call (takes_of rfl rfl rfl rfl) (fun _ _ _ _ h => h)) (pa_cons (pv 1) (pa_cons (pv 2) pa_nil))))
    (pss_cons (ps_fld (pv 0) (pv 1) rfl)
    (pss_cons (ps_fld (pv 0) (pv 2) rfl)
    (pss_cons (ps_fld (pv 0) (pe_tupF (by rfl) T.tup (pe_lc (own := [("constructor", 3)]) (g := gName 3) (tt := tYes) rfl scIni.nd (pi_tup (pv 2)) (blkOk_by (own := [("constructor", 3)]) (N := nIni) (sc := defScope (cS 0)) (by decide +kernel))
      (fun _ _ _ _ _ => pg_name (i := 3) scIni.nd rfl (Or.inl rfl)) (fun _ _ _ _ _ => pts_nil) (fun _ _ _ _ _ => asTE (te := tOp (rIxT K) (tVar 3) (tC (.int 0))) (pe_ix ix_tup (pv 3) pe_int (fun _ _ => rfl)) rfl))) rfl)
    (pss_one (ps_fld (pv 0) (pe_dc (own := [("place", 4), ("name", 5)]) (g := gTup K 2 (gCons (gName 4) (gCons (gName 5) gNil))) (tt := tYes) (tk := tVar 5) (tv := tVar 4) rfl scIni.nd (pi_enT (by rfl) T.enu (pa_cons (pe_fld (pv 0) rfl) pa_nil)) (blkOk_by (own := [("place", 4), ("name", 5)]) (N := nIni) (sc := defScope (cS 0)) (by decide +kernel))
      (fun _ _ _ _ _ => pg_tup (by rfl) (pgs_cons (pg_name (i := 4) scIni.nd rfl (Or.inl rfl)) (pgs_cons (pg_name (i := 5) scIni.nd rfl (Or.inl rfl)) pgs_nil))) (fun _ _ _ _ _ => pts_nil) (fun _ _ _ _ _ => pv 5) (fun _ _ _ _ _ => pv 4)) rfl))))))), ?_⟩
  refine ⟨vk, rfl, p, vk, dk, rfl, hk, fun ek H1 s1 => ?_, fun e ee d H' s' e3 => qK e ee d H' s' e3⟩
  obtain ⟨ks, rfl, gk⟩ := kErr_ok ek
  obtain ⟨k, rfl, hs⟩ := st_dv hk
  obtain ⟨qC, qT⟩ := qR ks rfl gk
  refine ⟨vc, rfl, .ref k, rfl, p, vc, dc, k, ks, rfl, hcv.keep s1, s1 _ _ hs, fun er H2 s2 => ?_, fun e ee d H2 s2 e2 => qC e ee d H2 (s1.trans s2) e2⟩
  obtain ⟨pre, rfl, g⟩ := rErr_ok er
  obtain ⟨c, rfl, hc⟩ := rows_dv hcv
  obtain ⟨qE, q4⟩ := qT pre rfl g
  have s12 := s1.trans s2
  refine ⟨.ref k, rfl, .ref c, rfl, k, c, ks, pre, rfl, s12 _ _ hs, hc.keep s12, gk.k4, g.ok, fun ee H3 s3 => ?_, fun z ee d H3 s3 e3 => qE z ee d H3 (s12.trans s3) e3⟩
  replace q4 := q4 ee
  have s13 := s12.trans s3
  refine ⟨.ref k, rfl, .ref x, rfl, x, C, dx, [], rfl, s13 _ _ hx, Z.cls, Z.nk, by decide, ?_⟩
  refine ⟨.ref c, rfl, .ref x, rfl, x, C, dx, _, rfl, upd_same, Z.cls, Z.nc, (show 1 < 1000 by decide), ?_⟩
  have hs' : H k = some (.tup (ks.map V.str)) := hs
  have kx : k ≠ x := fun e => by rw [e, hx] at hs'; cases hs'
  obtain ⟨xs, hc1, hp⟩ := hc
  have cx : c ≠ x := fun e => by rw [e, hx] at hc1; cases hc1
  have b5 : But x H (upd (upd H3 x (.ins C dx (putF "_kinds" (V.ref k) []))) x (.ins C dx (putF "_constructors" (V.ref c) (putF "_kinds" (V.ref k) [])))) := fun b o n e => by
    rw [upd_ne n, upd_ne n]
    exact s13 _ _ e
  have x5 : (upd (upd H3 x (.ins C dx (putF "_kinds" (V.ref k) []))) x (.ins C dx (putF "_constructors" (V.ref c) (putF "_kinds" (V.ref k) [])))) x = some (.ins C dx (putF "_constructors" (V.ref c) (putF "_kinds" (V.ref k) []))) := upd_same
  revert b5 x5
  generalize upd (upd H3 x (.ins C dx (putF "_kinds" (V.ref k) []))) x (.ins C dx (putF "_constructors" (V.ref c) (putF "_kinds" (V.ref k) []))) = H5
  intro b5 x5
  have hc5 := b5 _ _ cx hc1
  have r6 : pre.length ≤ 6 := by have := g.r6; rwa [show pre ++ (none : Option Rw).toList = pre from List.append_nil _] at this
  have ln : xs.length = pre.length := Paired.length hp
  refine ⟨.ref c, rfl, c, rfl, ⟨_, SqT.of hc5⟩, fun D nD => lc_funT (K := K) (a := c) (xs := xs) (ys := (pre.map (·.1)).map V.str) (fun _ => rfl) nD (SqT.of hc5) (by omega) (by rw [List.length_map, List.length_map, ln]) (fun n y z H6 hy hz s6 p => ?_) fun H6 s6 eD => ?_⟩
  · intro kk
    obtain ⟨r, hr2, b, fa, rfl, hb, hf⟩ := rows_at hp hy
    rw [List.getElem?_map, List.getElem?_map, hr2] at hz
    cases hz
    have bx : b ≠ x := fun e => by rw [e, hx] at hb; cases hb
    exact ⟨.ref b, rfl, b, _, _, .str r.1, rfl, rfl, SqT.of (s6 _ _ (b5 _ _ bx hb)), rfl, kk H6 fun _ _ e => e⟩
  · refine ⟨D, _, rfl, SqL.of eD, fun N H7 nN s7 fz => ?_⟩
    have x6 := s6 _ _ x5
    have Nx : N ≠ x := fun e => by rw [← e, nN] at x6; cases x6
    refine ⟨.ref x, rfl, x, C, dx, _, rfl, s7 _ _ x6, Z.cls, Z.nn, (show 2 < 1000 by decide), ?_⟩
    have fz8 : FzT (upd H7 x (.ins C dx (putF "_names" (V.ref N) (putF "_constructors" (V.ref c) (putF "_kinds" (V.ref k) []))))) N ((pre.map (·.1)).map V.str) := by
      obtain ⟨o, e, r⟩ := fz
      exact ⟨o, by rw [upd_ne Nx]; exact e, r⟩
    have b8 : But x H (upd H7 x (.ins C dx (putF "_names" (V.ref N) (putF "_constructors" (V.ref c) (putF "_kinds" (V.ref k) []))))) := fun b o n e => by
      rw [upd_ne n]
      exact s7 _ _ (s6 _ _ (b5 _ _ n e))
    have x8 : (upd H7 x (.ins C dx (putF "_names" (V.ref N) (putF "_constructors" (V.ref c) (putF "_kinds" (V.ref k) []))))) x = some (.ins C dx (putF "_names" (V.ref N) (putF "_constructors" (V.ref c) (putF "_kinds" (V.ref k) [])))) := upd_same
    revert fz8 b8 x8
    generalize upd H7 x (.ins C dx (putF "_names" (V.ref N) (putF "_constructors" (V.ref c) (putF "_kinds" (V.ref k) [])))) = H8
    intro fz8 b8 x8
    have prd : (pre.map (·.1)).Nodup := by have := g.rd; rwa [show pre ++ (none : Option Rw).toList = pre from List.append_nil _] at this
    refine ⟨.ref x, rfl, x, C, dx, _, _, rfl, x8, Z.cls, Z.nn, rfl, N, _, rfl, fz8.sq, fun Dd nDd => dc_places fz8 nDd prd (by rw [List.length_map]; omega) (fun _ _ => rfl) (fun _ _ => rfl) (fun _ _ => rfl) fun H9 s9 eDd => ?_⟩
    have x9 := s9 _ _ x8
    have Dx : Dd ≠ x := fun e => by rw [← e, nDd] at x8; cases x8
    refine ⟨.ref x, rfl, x, C, dx, _, rfl, x9, Z.cls, Z.np, (show 3 < 1000 by decide), ?_⟩
    refine q4 k c N _ rfl rfl (fun b o n e => ?_) Nx ⟨Dd, upd_same, ?_⟩ ?_
    · rw [upd_ne n]
      exact s9 _ _ (b8 _ _ n e)
    · rw [upd_ne Dx]
      exact eDd
    · obtain ⟨o, e, r⟩ := fz8
      exact ⟨o, by rw [upd_ne Nx]; exact s9 _ _ e, r⟩
end
end Ks
set_option Elab.async false
set_option linter.all false
set_option maxRecDepth 100000
set_option maxHeartbeats 4000000
namespace Ks
open PySem PySem.Spec PyProof.Rows L2 Gd Kx
section
variable {P : Program} {w : World} {K : PySem.W.Frag} {mg : Str → Option Value} {base : Heap} {C CU CN : Addr}
def spOfX (C CU : Addr) : Sp := fun vs H Q E => ∃ (p a : Addr) (m : Md) (v : V) (d : PyData), vs = [.ref a, v] ∧ ScAt C H a m ∧ Good m ∧ Dv p H v d ∧ (memD m.ks d = true → ∀ b H', Same H H' → Q (.ref b) H') ∧ (memD m.ks d = false → ∀ d' H', Same H H' → H' d' = some (.xd [("value", v)]) → E (.ref CU) (some d') H')
theorem ok_ofX {f fo : Addr} {fd fdo : FuncData} (F : Fun K "of_kind" "Schema.of_kind" (cS 6) f fd) (T : TS0 mg) (Z : SCl K C)
    (GO : FnOk P w K mg base CX0 1 fo fdo ["value", "names"] (spOne K)) (ko : PySem.W.keepIn K (.ref fo) = true) (bO : Binds K fdo ["value", "names"] []) (gO : mg "_is_one_of" = some (.ref fo))
    (O : One P w K mg base "UnknownKind" "value" CU) (ty : PySem.W.typeIn K (.ref CU) = some (.type "type")) : FnOk P w K mg base (CX P w) 3 f fd ["self", "kind"] (spOfX C CU) := by
  refine F.okX scOf (fun vs H Q E h => ?_) (fun cv A ou s H vs Q E hr h => ?_)
  · obtain ⟨p, a, m, v, d, rfl, _⟩ := h
    rfl
  obtain ⟨p, a, m, v, d, rfl, ⟨dx, k, c, n, ⟨dp, e, _⟩, ek, ⟨xs, ec, hp⟩, en⟩, g, hv, q, qE⟩ := h
  have hr1 : Room 1 (A.deeper (envOfC "Schema.of_kind" (defScope (cS 6)) s.heap.objs.size f cv)) := hr.mono (by decide)
  refine ⟨_, pss_cons (ps_if (pt_not (pt_val (pe_call GO hr1 (by rfl) gO ko bO .nil pass0 (pa_cons (pv 1) (pa_cons (pe_fld (pv 0) rfl) pa_nil))))) (pss_one (ps_raise rfl (takes_of rfl rfl rfl rfl) (pmk_one O ty hr (by rfl) (pv 1)))) pss_nil)
    (pss_one (ps_ret (pe_tupF (by rfl) T.tup (pe_lc (own := [("constructor", 2)]) (g := gName 2) (tt := tTest (tOp rEq (tOp (rIxT K) (tVar 2) (tC (.int 1))) (tVar 1))) rfl scOf.nd (pi_tup (pe_fld (pv 0) rfl)) (blkOk_by (own := [("constructor", 2)]) (N := ["self", "kind", "constructor"]) (sc := defScope (cS 6)) (by decide +kernel))
      (fun _ _ _ _ _ => pg_name (i := 2) scOf.nd rfl (Or.inl rfl)) (fun _ _ _ _ _ => asTT (pts_one (pt_cmpR op_eq (pe_ix ix_tup (pv 2) pe_int (fun _ _ => rfl)) (pv 1) (nomark _))) rfl) (fun _ _ _ _ _ => asTE (te := tOp (rIxT K) (tVar 2) (tC (.int 0))) (pe_ix ix_tup (pv 2) pe_int (fun _ _ => rfl)) rfl))))), ?_⟩
  refine ⟨v, rfl, .ref a, rfl, a, C, dx, _, _, rfl, e, Z.cls, Z.nk, scF_k, v, k, m.ks, memD m.ks d, rfl, SqT.of ek, one_of_dv hv m.ks, memD m.ks d, rfl, ?_⟩
  cases hm : memD m.ks d with
  | false => exact iteT ⟨v, rfl, fun d' H3 s4 _ e3 => qE hm d' H3 s4 e3⟩
  | true =>
  replace q := q hm
  obtain ⟨z, rfl, hz⟩ : ∃ z, d = .str z ∧ z ∈ m.ks := memD_str hm
  cases hv
  refine iteF ?_
  have r6 := g.r6
  have ln : xs.length = m.rs.length := Paired.length hp
  refine ⟨.ref a, rfl, a, C, dx, _, _, rfl, e, Z.cls, Z.nc, scF_c, c, rfl, ⟨_, SqT.of ec⟩, fun D nD => lc_selT (K := K) (a := c) (xs := xs) (zs := m.rs.map fun r => (decide (r.2.1 = z), V.str r.1)) (fun _ => rfl) nD (SqT.of ec) (by omega) (by rw [List.length_map, ln]) (fun i x y H3 hx hy s3 p => ?_) (fun i x y H3 hx hy hb s3 p => ?_) fun H3 s3 eD => ?_⟩
  · intro kk
    obtain ⟨r, hr2, b, fa, rfl, hb, hf⟩ := rows_at hp hx
    rw [List.getElem?_map, hr2] at hy
    cases hy
    refine ⟨.ref b, rfl, b, _, _, .str r.2.1, rfl, rfl, SqT.of (s3 _ _ hb), rfl, .str z, rfl, rfl, _, rfl, ?_⟩
    have := kk H3 fun _ _ e => e
    rw [show decide (V.str r.2.1 = V.str z) = decide (r.2.1 = z) by rw [Bool.eq_iff_iff]; simp]
    exact this
  · intro kk
    obtain ⟨r, hr2, b, fa, rfl, hb', hf⟩ := rows_at hp hx
    rw [List.getElem?_map, hr2] at hy
    cases hy
    exact ⟨.ref b, rfl, b, _, _, .str r.1, rfl, rfl, SqT.of (s3 _ _ hb'), rfl, kk H3 fun _ _ e => e⟩
  · rw [picked_filter fun r => decide (r.2.1 = z)] at eD
    exact ⟨D, _, rfl, SqL.of eD, fun p H' np s' fz => q p H' (s3.trans s')⟩
def spPlX (C CN : Addr) : Sp := fun vs H Q E => ∃ (p a k c n : Addr) (ts : List Str) (v : V) (d : PyData), vs = [.ref a, v] ∧ Raw C H a k c n ∧ FzT H n (ts.map V.str) ∧ ts.Nodup ∧ Dv p H v d ∧ (∀ z j, d = .str z → ts[j]? = some z → Q (.int (j : Nat)) H) ∧ (memD ts d = false → ∀ d' H', Same H H' → H' d' = some (.xd [("value", v)]) → E (.ref CN) (some d') H')
theorem ok_plX {f fo : Addr} {fd fdo : FuncData} (F : Fun K "place" "Schema.place" (cS 8) f fd) (Z : SCl K C)
    (GO : FnOk P w K mg base CX0 1 fo fdo ["value", "names"] (spOne K)) (ko : PySem.W.keepIn K (.ref fo) = true) (bO : Binds K fdo ["value", "names"] []) (gO : mg "_is_one_of" = some (.ref fo))
    (O : One P w K mg base "UnknownConstructor" "value" CN) (ty : PySem.W.typeIn K (.ref CN) = some (.type "type")) : FnOk P w K mg base (CX P w) 3 f fd ["self", "name"] (spPlX C CN) := by
  refine F.okX scPl (fun vs H Q E h => ?_) (fun cv A ou s H vs Q E hr h => ?_)
  · obtain ⟨p, a, k, c, n, ts, v, d, rfl, _⟩ := h
    rfl
  obtain ⟨p, a, k, c, n, ts, v, d, rfl, ⟨dx, ts0, ⟨dp, e, edp⟩, fz0⟩, hn, nd, hv, q, qE⟩ := h
  have hr1 : Room 1 (A.deeper (envOfC "Schema.place" (defScope (cS 8)) s.heap.objs.size f cv)) := hr.mono (by decide)
  refine ⟨_, pss_cons (ps_if (pt_not (pt_val (pe_call GO hr1 (by rfl) gO ko bO .nil pass0 (pa_cons (pv 1) (pa_cons (pe_fld (pv 0) rfl) pa_nil))))) (pss_one (ps_raise rfl (takes_of rfl rfl rfl rfl) (pmk_one O ty hr (by rfl) (pv 1)))) pss_nil)
    (pss_one (ps_ret (pe_dget (hu_of hr) (pe_fld (pv 0) rfl) (pv 1) (fun _ _ => rfl)))), ?_⟩
  refine ⟨v, rfl, .ref a, rfl, a, C, dx, _, _, rfl, e, Z.cls, Z.nn, scF_n, v, n, ts, memD ts d, rfl, hn.sq, one_of_dv hv ts, memD ts d, rfl, ?_⟩
  cases hm : memD ts d with
  | false => exact iteT ⟨v, rfl, fun d' H3 s4 _ e3 => qE hm d' H3 s4 e3⟩
  | true =>
  obtain ⟨z, rfl, hz⟩ : ∃ z, d = .str z ∧ z ∈ ts := memD_str hm
  cases hv
  obtain ⟨j, hl, ej⟩ := List.getElem_of_mem hz
  have hj : ts[j]? = some z := by rw [List.getElem?_eq_getElem hl, ej]
  have ets := fz_inj fz0 hn
  subst ets
  exact iteF ⟨.ref a, rfl, a, C, dx, _, _, rfl, e, Z.cls, Z.np, scF_p, .str z, rfl, dp, _, rfl, (by have := DGet.k (k := Sum.inr z) edp; rw [plc_val nd hj] at this; exact this), q z j rfl hj⟩
def spCoX (C CN : Addr) : Sp := fun vs H Q E => ∃ (p a k c n : Addr) (ts : List Str) (xs : List V) (v : V) (d : PyData), vs = [.ref a, v] ∧ Raw C H a k c n ∧ FzT H n (ts.map V.str) ∧ ts.Nodup ∧ H c = some (.tup xs) ∧ xs.length = ts.length ∧ Dv p H v d ∧ (memD ts d = true → ∀ x ∈ xs, Q x H) ∧ (memD ts d = false → ∀ d' H', Same H H' → H' d' = some (.xd [("value", v)]) → E (.ref CN) (some d') H')
theorem ok_coX {f fp : Addr} {fd fdp : FuncData} (F : Fun K "constructor" "Schema.constructor" (cS 7) f fd) (Z : SCl K C)
    (GP : FnOk P w K mg base (CX P w) 3 fp fdp ["self", "name"] (spPlX C CN)) (mP : Meth K C "place" fp) (bP : Binds K fdp ["self", "name"] []) : FnOk P w K mg base (CX P w) 4 f fd ["self", "name"] (spCoX C CN) := by
  refine F.okX scCo (fun vs H Q E h => ?_) (fun cv A ou s H vs Q E hr h => ?_)
  · obtain ⟨p, a, k, c, n, ts, xs, v, d, rfl, _⟩ := h
    rfl
  obtain ⟨p, a, k, c, n, ts, xs, v, d, rfl, ⟨dx, ts0, ⟨dp, e, edp⟩, fz0⟩, hn, nd, hc, ln, hv, q, qE⟩ := h
  refine ⟨_, pss_one (ps_ret (pe_ix ix_tup (pe_fld (pv 0) rfl) (pe_meth (pv 0) Z.cls mP GP hr bP .nil (passes_call (takes_of rfl rfl rfl rfl) (fun _ _ _ _ h => h)) (pa_cons (pv 1) pa_nil)) (fun _ _ => rfl))), ?_⟩
  refine ⟨.ref a, rfl, a, C, dx, _, _, rfl, e, Z.cls, Z.nc, scF_c, .ref a, rfl, a, dx, _, rfl, e, rfl, v, rfl, p, a, k, c, n, ts, v, d, rfl, ⟨dx, ts0, ⟨dp, e, edp⟩, fz0⟩, hn, nd, hv, fun z j ed hj => ?_, qE⟩
  have hl : j < ts.length := (List.getElem?_eq_some_iff.mp hj).1
  have hx : xs[j]? = some xs[j] := List.getElem?_eq_getElem (by omega)
  exact ⟨c, xs, _, _, rfl, rfl, SqT.of hc, atI_nat hx, q (by rw [ed]; exact decide_eq_true (List.mem_of_getElem? hj)) _ (List.getElem_mem _)⟩
end
end Ks
set_option Elab.async false
set_option linter.all false
set_option maxRecDepth 100000
set_option maxHeartbeats 4000000
namespace Ks
open PySem PySem.Spec PyProof.Rows L2 Gd Kx
abbrev sLin : Stmt := Kx.topS 35
theorem scLin : FnScope ["_law_thing", "_law_small", "_law_sign"] ["_law_thing"] (defScope sLin) := ⟨rfl, rfl, rfl, by decide +kernel, rfl, by decide +kernel, by decide +kernel⟩
section
variable {P : Program} {w : World} {K : PySem.W.Frag} {mg : Str → Option Value} {base : Heap}
theorem ok_lin {f : Addr} {fd : FuncData} (F : Fun K "_law_is_name" "_law_is_name" sLin f fd) (T : TS0 mg) : FnOk P w K mg base CX0 1 f fd ["_law_thing"] (spIs K) := by
  refine F.ok scLin (fun vs H Q E h => ?_) (fun cv A ou s H vs Q E hr h => ?_)
  · obtain ⟨v, rfl, _⟩ := h
    rfl
  obtain ⟨v, rfl, h⟩ := h
  refine ⟨_, pss_cons (ps_if (PW.pt (pw_or (pt_not (pt_val (pe_callB call_isi (by rfl) T.isi boot_isinstance (pa_cons (pv 0) (pa_cons (pe_bltn (v := .ty "str") (by rfl) T.str boot_str rfl) pa_nil)))))
        (pw_or1 (pt_not (pt_chain op_lt op_lt pe_int (pe_callB call_len_str (by rfl) T.len PySem.boot_len (pa_cons (pv 0) pa_nil)) pe_int)))))
      (pss_one (ps_ret pe_bl)) pss_nil)
    (pss_cons (ps_set (i := 1) scLin.nd rfl (.inr rfl) pe_str)
    (pss_one (ps_ret (pe_and (pe_cmpR op_in_sign (pe_ix ix_str (pv 0) pe_int (fun _ _ => rfl)) (pv 1) rfl)
      (pe_one (pe_callB (cr_all rfl) (by rfl) T.all boot_all (pa_cons (pe_lc (own := [("_law_sign", 2)]) (g := gName 2) (tt := tYes) rfl scLin.nd (pi_str (pv 0)) (blkOk_by (own := [("_law_sign", 2)]) (N := ["_law_thing", "_law_small", "_law_sign"]) (sc := defScope sLin) (by decide +kernel))
        (fun _ _ _ _ _ => pg_name (i := 2) scLin.nd rfl (Or.inl rfl)) (fun _ _ _ _ _ => pts_nil) (fun _ _ _ _ _ => pe_or (pe_cmpR op_in_sign (pv 2) (pv 1) rfl) (pe_one (pe_cmpR op_in_sign (pv 2) pe_str rfl)))) pa_nil))))))), ?_⟩
  rcases h with ⟨z, rfl, hz, q⟩ | ⟨t, ty, ek, q⟩
  · refine ⟨.str z, rfl, .str z, .ty "str", _, _, true, rfl, .ty "str", .base (.str z), kit_ty (by decide +kernel), _, rfl, iteF ?_⟩
    have ez := len_list z
    refine ⟨.str z, rfl, z, rfl, small1000 hz |> Nat.le_of_lt, ?_⟩
    refine ⟨_, _, rfl, rfl, _, rfl, ?_⟩
    by_cases h1 : 1 ≤ z.length
    rotate_left
    · rw [decide_eq_false (show ¬ (0 : Int) < ((z.length : Nat) : Int) by omega)]
      have q2 := q H fun _ _ e => e
      rw [nm_empty (by omega)] at q2
      exact iteF ⟨_, rfl, iteT q2⟩
    rw [decide_eq_true (show (0 : Int) < ((z.length : Nat) : Int) by omega)]
    refine iteT ⟨_, _, rfl, rfl, _, rfl, ?_⟩
    by_cases h8 : z.length ≤ 8
    rotate_left
    · rw [decide_eq_false (show ¬ ((z.length : Nat) : Int) < 9 by omega)]
      have q2 := q H fun _ _ e => e
      rw [nm_long h8] at q2
      exact iteT q2
    rw [decide_eq_true (show ((z.length : Nat) : Int) < 9 by omega)]
    refine iteF ?_
    obtain ⟨c, r, ec⟩ := ne_cons h1
    have en : nmS z = (inL c && z.cps.toList.all inN) := nm_short ec h8
    refine ⟨.str z, rfl, z, 0, c, rfl, rfl, Nat.le_of_lt (small1000 hz), atI_nat (j := 0) (by rw [ec]; rfl), .str lets, rfl, c, lets, rfl, rfl, _, rfl, ite2 (fun e3 => ?_) (fun e3 => ?_)⟩
    · refine ⟨.str z, rfl, z, rfl, fun D nD => lc_strY (x := z) (fun i H2 => Same H H2 ∧ H2 D = some (.lst ((z.cps.toList.take i).map fun c => V.bl (inN c)))) (fun _ => rfl) ⟨same_new nD, upd_same⟩ ?_ ?_⟩
      · rintro i y H2 hi ⟨s2, eD⟩
        have fin : ∃ acc, H2 D = some (.lst acc) ∧ acc.length < sizeLine ∧ (Same H (upd H2 D (.lst (acc ++ [V.bl (inN y)]))) ∧ (upd H2 D (.lst (acc ++ [V.bl (inN y)]))) D = some (.lst ((z.cps.toList.take (i + 1)).map fun c => V.bl (inN c)))) := by
          refine ⟨_, eD, ?_, ?_, ?_⟩
          · rw [List.length_map, List.length_take]
            exact small1000 (by omega)
          · intro b o e
            rw [upd_ne (ne_of_none e nD)]
            exact s2 b o e
          · rw [upd_same, List.take_add_one, hi]
            simp [inN]
        rw [inN_eq] at fin
        refine ⟨_, rfl, .str lets, rfl, y, lets, rfl, rfl, _, rfl, ite2 (fun e4 => ?_) (fun e4 => ?_)⟩
        · have e5 : inL y = true := e4
          rw [e5, Bool.true_or] at fin
          exact fin
        · have e5 : inL y = false := Bool.eq_false_iff.mpr e4
          rw [e5, Bool.false_or] at fin
          exact ⟨_, rfl, y, digs, rfl, rfl, fin⟩
      · rintro H2 ⟨s2, eD⟩
        rw [List.take_length] at eD
        refine ⟨D, z.cps.toList.map inN, rfl, SqL.of (by rw [eD, List.map_map]; rfl), ?_⟩
        have q2 := q H2 s2
        rw [en] at q2
        have : (inL c && z.cps.toList.all inN) = (z.cps.toList.map inN).all id := by
          rw [show inL c = true from e3, Bool.true_and, List.all_map]
          rfl
        rw [this] at q2
        exact q2
    · have q2 := q H fun _ _ e => e
      rw [en, show inL c = false from Bool.eq_false_iff.mpr e3, Bool.false_and] at q2
      exact q2
  · exact ⟨v, rfl, v, .ty "str", _, _, false, rfl, .ty "str", ty, ek, _, rfl, iteT (iteT q)⟩
end
end Ks
set_option Elab.async false
set_option linter.all false
set_option maxRecDepth 100000
set_option maxHeartbeats 4000000
namespace Ks
open PySem PySem.Spec PyProof.Rows L2 Gd Kx
abbrev sWk : Stmt := Kx.topS 36
abbrev sRow : Stmt := Kx.topS 37
abbrev sWr : Stmt := Kx.topS 38
theorem scWk : FnScope ["_law_kinds_own", "_law_at"] ["_law_kinds_own"] (defScope sWk) := ⟨rfl, rfl, rfl, by decide +kernel, rfl, by decide +kernel, by decide +kernel⟩
theorem scRow : FnScope ["_law_kinds_own", "_law_row", "_law_taken", "_law_field"] ["_law_kinds_own", "_law_row", "_law_taken"] (defScope sRow) := ⟨rfl, rfl, rfl, by decide +kernel, rfl, by decide +kernel, by decide +kernel⟩
theorem scWr : FnScope ["_law_kinds_own", "_law_rows", "_law_taken", "_law_at"] ["_law_kinds_own", "_law_rows"] (defScope sWr) := ⟨rfl, rfl, rfl, by decide +kernel, rfl, by decide +kernel, by decide +kernel⟩
/-- the word of what is wrong -/
def dueW (wd : Str) : Option (Option Nat) → List Str
  | none => []
  | some none => [wd, Str.ofString "None"]
  | some (some i) => [wd, (PyData.int (i : Nat)).shown]
theorem sb_int13 : ∀ i : _root_.Fin 13, (PyData.int (i.1 : Nat)).showable = true ∧ (PyData.int (i.1 : Nat)).shown.length ≤ 2 := by decide +kernel
theorem kscan_lt : ∀ {ds : List PyData} {acc : List Str} {i : Nat}, kscan acc ds = some i → i < acc.length + ds.length
  | [], _, _, h => by cases h
  | .str z :: r, acc, i, h => by
    rw [kscan] at h
    split at h
    · have := kscan_lt h
      rw [List.length_append, List.length_singleton] at this
      rw [List.length_cons]
      omega
    · cases h
      rw [List.length_cons]
      omega
  | .none :: _, acc, _, h => by cases h; rw [List.length_cons]; omega
  | .bool _ :: _, acc, _, h => by cases h; rw [List.length_cons]; omega
  | .int _ :: _, acc, _, h => by cases h; rw [List.length_cons]; omega
  | .list _ :: _, acc, _, h => by cases h; rw [List.length_cons]; omega
  | .tuple _ :: _, acc, _, h => by cases h; rw [List.length_cons]; omega
  | .dict _ :: _, acc, _, h => by cases h; rw [List.length_cons]; omega
section
variable {P : Program} {w : World} {K : PySem.W.Frag} {mg : Str → Option Value} {base : Heap}
def spWk : Sp := fun vs H Q _ => ∃ (p : Addr) (v : V) (d : PyData), vs = [v] ∧ Dv p H v d ∧ ∀ b H', Same H H' → H b = none → H' b = some (.lst ((dueW (Str.ofString "InvalidKinds") (kErr d)).map V.str)) → Q (.ref b) H'
theorem ok_wk {f fi : Addr} {fd fdi : FuncData} (F : Fun K "_law_wrong_kinds" "_law_wrong_kinds" sWk f fd) (T : TS0 mg) (mrep : mg "repr" = none)
    (GI : FnOk P w K mg base CX0 1 fi fdi ["_law_thing"] (spIs K)) (ki : PySem.W.keepIn K (.ref fi) = true) (bI : Binds K fdi ["_law_thing"] []) (gI : mg "_law_is_name" = some (.ref fi)) : Pr P w K mg base CX0 2 f fd ["_law_kinds_own"] spWk := by
  refine okG F scWk (fun vs H Q E h => ?_) (fun cv A ou s H vs Q E hG hr h => ?_)
  · obtain ⟨p, v, d, rfl, _⟩ := h
    rfl
  obtain ⟨p, v, d, rfl, hv, q⟩ := h
  have hu := hr.units
  have hG2 : (A.deeper (envOfC "_law_wrong_kinds" (defScope sWk) s.heap.objs.size f cv)).guards = some [] := hG
  refine ⟨_, pss_cons (ps_if (PW.pt (pw_or (pt_not (pt_val (pe_callB call_isi (by rfl) T.isi boot_isinstance (pa_cons (pv 0) (pa_cons (pe_bltn (v := .ty "tuple") (by rfl) T.tup boot_tuple rfl) pa_nil)))))
        (pw_or1 (pt_not (pt_chain op_lt op_lt pe_int (pe_callB call_len_seq (by rfl) T.len PySem.boot_len (pa_cons (pv 0) pa_nil)) pe_int)))))
      (pss_one (ps_ret (pe_lst (pa_cons pe_str (pa_cons pe_str pa_nil))))) pss_nil)
    (pss_cons (ps_for PassesOwn.never rfl (pi_range1 rfl T.rng (pa_cons (pe_callB call_len_seq (by rfl) T.len PySem.boot_len (pa_cons (pv 0) pa_nil)) pa_nil)) (pg_name (i := 1) scWk.nd rfl (.inl rfl))
      (pss_one (ps_if (PW.pt (pw_or (pt_not (pt_val (pe_call GI hr (by rfl) gI ki bI .nil pass0 (pa_cons (pe_ix ix_tup (pv 0) (pv 1) (fun _ _ => rfl)) pa_nil)))) (pw_or1 (pt_cmpR op_in_seq (pe_ix ix_tup (pv 0) (pv 1) (fun _ _ => rfl)) (pe_slice sl_tup (pv 0) po_none (po_some (pv 1))) (by rfl)))))
        (pss_one (ps_ret (pe_lst (pa_cons pe_str (pa_cons (pe_callB (call_showV hG2 hu) (by rfl) mrep boot_repr (pa_cons (pv 1) pa_nil)) pa_nil))))) pss_nil)))
    (pss_one (ps_ret (pe_lst pa_nil)))), ?_⟩
  obtain ⟨t, tyv, _, kt⟩ := dv_ty (K := K) hv
  have qn : kErr d = some none → ∀ b, H b = none → Q (.ref b) (upd H b (.lst [.str "InvalidKinds", .str "None"])) := fun e b nb => q b _ (same_new nb) nb (by rw [e]; exact upd_same)
  refine ⟨v, rfl, v, .ty "tuple", _, _, isTup d, rfl, .ty "tuple", tyv, kit_ty kt, _, rfl, ?_⟩
  cases hv with
  | non => exact iteT (iteT ⟨(by show 2 ≤ sizeLine; decide), qn rfl⟩)
  | bl b => exact iteT (iteT ⟨(by show 2 ≤ sizeLine; decide), qn rfl⟩)
  | int i => exact iteT (iteT ⟨(by show 2 ≤ sizeLine; decide), qn rfl⟩)
  | str z _ => exact iteT (iteT ⟨(by show 2 ≤ sizeLine; decide), qn rfl⟩)
  | lst _ _ _ => exact iteT (iteT ⟨(by show 2 ≤ sizeLine; decide), qn rfl⟩)
  | @tup a xs ds hs hall =>
  have ln := hall.length
  refine iteF ⟨.ref a, rfl, a, _, rfl, .inr (SqT.of hs), _, _, rfl, rfl, _, rfl, ?_⟩
  by_cases k1 : 1 ≤ ds.length
  rotate_left
  · rw [decide_eq_false (show ¬ (0 : Int) < ((xs.length : Nat) : Int) by omega)]
    refine iteF ⟨_, rfl, iteT ⟨(by show 2 ≤ sizeLine; decide), qn ?_⟩⟩
    unfold kErr
    exact if_neg fun c => k1 c.1
  rw [decide_eq_true (show (0 : Int) < ((xs.length : Nat) : Int) by omega)]
  refine iteT ⟨_, _, rfl, rfl, _, rfl, ?_⟩
  by_cases k4 : ds.length ≤ 4
  rotate_left
  · rw [decide_eq_false (show ¬ ((xs.length : Nat) : Int) < 5 by omega)]
    refine iteT ⟨(by show 2 ≤ sizeLine; decide), qn ?_⟩
    unfold kErr
    exact if_neg fun c => k4 c.2
  rw [decide_eq_true (show ((xs.length : Nat) : Int) < 5 by omega)]
  have ek : kErr (.tuple ds) = (kscan [] ds).map some := by
    unfold kErr
    exact if_pos ⟨k1, k4⟩
  refine iteF ⟨.ref a, rfl, a, _, rfl, .inr (SqT.of hs), _, rfl, ?_, ?_, for_range (fun i σ H' => ∃ (o1 : Option V) (acc : List Str), σ = [some (.ref a), o1] ∧ Same H H' ∧ acc.length = i ∧ xs.take i = acc.map V.str ∧ kscan [] ds = kscan acc (ds.drop i)) ⟨none, [], rfl, fun _ _ e => e, rfl, rfl, rfl⟩ ?_ ?_⟩
  · omega
  · omega
  · rintro i σ H1 hi ⟨o1, acc, rfl, s1, la, tk, sc⟩
    have hi' : i < xs.length := by omega
    have hx : xs[i]? = some xs[i] := List.getElem?_eq_getElem hi'
    obtain ⟨dx, edx, hvx⟩ := hall.at hx
    generalize xs[i] = x at hx hvx
    rw [drop_at edx] at sc
    have c0 : (0 : Int) + (i : Int) = ((i : Nat) : Int) := by omega
    have i13 : i < 13 := by omega
    have sb := sb_int13 ⟨i, i13⟩
    have bad : kscan acc (dx :: ds.drop (i + 1)) = some acc.length → ∀ b H3, Same H H3 → H3 b = none → Q (.ref b) (upd H3 b (.lst [.str "InvalidKinds", .str (PyData.int (i : Nat)).shown])) := fun e b H3 s3 nb => by
      refine q b _ (s3.trans (same_new nb)) (by cases eb : H b with | none => rfl | some o => rw [s3 _ _ eb] at nb; cases nb) ?_
      rw [ek, sc, e, la]
      exact upd_same
    rw [c0]
    have told : kscan acc (dx :: ds.drop (i + 1)) = some acc.length → ∀ H3, Same H H3 → rShowV K [V.int ((i : Nat) : Int)] H3 fun x H4 => ([V.str "InvalidKinds", x]).length ≤ sizeLine ∧ ∀ p, H4 p = none → Q (.ref p) (upd H4 p (.lst [.str "InvalidKinds", x])) := fun e H3 s3 =>
      ⟨_, .int (i : Nat), rfl, .int _, sb.1, rfl, (by rw [PyData.depth]; decide), Nat.le_trans sb.2 (by decide), (by show 2 ≤ sizeLine; decide), fun b nb => bad e b H3 s3 nb⟩
    rcases dv_cases K (hvx.keep s1) with ⟨z, rfl, rfl, lz⟩ | ⟨hn, _, t, tyx, kx⟩
    rotate_left
    · exact ⟨.ref a, rfl, .int (i : Nat), rfl, a, _, _, x, rfl, rfl, SqT.of (s1 _ _ hs), atI_nat hx, x, rfl, .inr ⟨t, tyx, kx, false, rfl, iteT (iteT ⟨.int (i : Nat), rfl, told (kscan_no hn) H1 s1⟩)⟩⟩
    refine ⟨.ref a, rfl, .int (i : Nat), rfl, a, _, _, .str z, rfl, rfl, SqT.of (s1 _ _ hs), atI_nat hx, .str z, rfl, .inl ⟨z, rfl, lz, fun H2 s3 => ?_⟩⟩
    have sA := s1.trans s3
    cases nz : nmS z with
    | false => exact ⟨false, rfl, iteT (iteT ⟨.int (i : Nat), rfl, told (kscan_no nz) H2 sA⟩)⟩
    | true =>
      refine ⟨true, rfl, iteF ⟨.ref a, rfl, .int (i : Nat), rfl, a, _, _, .str z, rfl, rfl, SqT.of (sA _ _ hs), atI_nat hx, .ref a, rfl, .int (i : Nat), rfl, _, rfl, a, xs, rfl, SqT.of (sA _ _ hs), ?_, fun L nL => ?_⟩⟩
      · rintro ⟨_, e⟩
        rw [HT.sIx_nat] at e
        omega
      rw [cut_take (by omega), tk]
      refine ⟨L, _, rfl, .inr (SqT.of upd_same), rfl, all_flat _, _, rfl, ?_⟩
      rw [if_neg (by decide), inV_str]
      by_cases hm : z ∈ acc
      · rw [decide_eq_true hm]
        exact iteT ⟨.int (i : Nat), rfl, told (kscan_in hm) _ (sA.trans (same_new nL))⟩
      · rw [decide_eq_false hm]
        refine iteF ⟨_, acc ++ [z], rfl, sA.trans (same_new nL), by rw [List.length_append, la]; rfl, ?_, ?_⟩
        · rw [List.take_add_one, hx, tk, List.map_append]
          rfl
        · rw [sc, kscan_yes nz hm]
  · rintro σ H1 ⟨o1, acc, rfl, s1, la, tk, sc⟩
    have e0 : kErr (.tuple ds) = none := by
      rw [ek, sc, show (((xs.length : Nat) : Int)).toNat = ds.length by omega, List.drop_length]
      rfl
    refine ⟨(by show 0 ≤ sizeLine; exact Nat.zero_le _), fun b nb => q b _ (s1.trans (same_new nb)) (by cases eb : H b with | none => rfl | some o => rw [s1 _ _ eb] at nb; cases nb) ?_⟩
    rw [e0]
    exact upd_same
end
end Ks
set_option Elab.async false
set_option linter.all false
set_option maxRecDepth 100000
set_option maxHeartbeats 4000000
namespace Ks
open PySem PySem.Spec PyProof.Rows L2 Gd Kx
section
variable {P : Program} {w : World} {K : PySem.W.Frag} {mg : Str → Option Value} {base : Heap}
def rowT (ks taken : List Str) (d : PyData) : Bool := rowD ks d && !decide (nmOf d ∈ taken)
def spRow : Sp := fun vs H Q _ => ∃ (p a L : Addr) (x : V) (d : PyData) (ks taken : List Str), vs = [.ref a, x, .ref L] ∧ StT H a ks ∧ Dv p H x d ∧ H L = some (.lst (taken.map V.str)) ∧ ∀ H', Same H H' → Q (.bl (rowT ks taken d)) H'
theorem ok_row {f fi : Addr} {fd fdi : FuncData} (F : Fun K "_law_is_row" "_law_is_row" sRow f fd) (T : TS0 mg)
    (GI : FnOk P w K mg base CX0 1 fi fdi ["_law_thing"] (spIs K)) (ki : PySem.W.keepIn K (.ref fi) = true) (bI : Binds K fdi ["_law_thing"] []) (gI : mg "_law_is_name" = some (.ref fi)) : FnOk P w K mg base CX0 2 f fd ["_law_kinds_own", "_law_row", "_law_taken"] spRow := by
  refine F.ok scRow (fun vs H Q E h => ?_) (fun cv A ou s H vs Q E hr h => ?_)
  · obtain ⟨p, a, L, x, d, ks, taken, rfl, _⟩ := h
    rfl
  obtain ⟨p, a, L, x, d, ks, taken, rfl, hs, hv, eL, q⟩ := h
  refine ⟨_, pss_cons (ps_if (PW.pt (pw_or (pt_not (pt_val (pe_callB call_isi (by rfl) T.isi boot_isinstance (pa_cons (pv 1) (pa_cons (pe_bltn (v := .ty "tuple") (by rfl) T.tup boot_tuple rfl) pa_nil)))))
        (pw_or (pt_cmpR op_ne (pe_callB call_len_seq (by rfl) T.len PySem.boot_len (pa_cons (pv 1) pa_nil)) pe_int (nomark _))
        (pw_or (pt_not (pt_val (pe_call GI hr (by rfl) gI ki bI .nil pass0 (pa_cons (pe_ix ix_tup (pv 1) pe_int (fun _ _ => rfl)) pa_nil))))
        (pw_or1 (pt_cmpR op_in_seq (pe_ix ix_tup (pv 1) pe_int (fun _ _ => rfl)) (pv 2) (by rfl))))))) (pss_one (ps_ret pe_bl)) pss_nil)
    (pss_cons (ps_if (PW.pt (pw_or (pt_not (pt_val (pe_callB call_isi (by rfl) T.isi boot_isinstance (pa_cons (pe_ix ix_tup (pv 1) pe_int (fun _ _ => rfl)) (pa_cons (pe_bltn (v := .ty "str") (by rfl) T.str boot_str rfl) pa_nil)))))
        (pw_or (pt_cmpR op_notIn_seq (pe_ix ix_tup (pv 1) pe_int (fun _ _ => rfl)) (pv 0) (by rfl))
        (pw_or (pt_not (pt_val (pe_callB call_isi (by rfl) T.isi boot_isinstance (pa_cons (pe_ix ix_tup (pv 1) pe_int (fun _ _ => rfl)) (pa_cons (pe_bltn (v := .ty "tuple") (by rfl) T.tup boot_tuple rfl) pa_nil)))))
        (pw_or1 (pt_cmpR op_gt (pe_callB call_len_seq (by rfl) T.len PySem.boot_len (pa_cons (pe_ix ix_tup (pv 1) pe_int (fun _ _ => rfl)) pa_nil)) pe_int (nomark _))))))) (pss_one (ps_ret pe_bl)) pss_nil)
    (pss_one (ps_ret (pe_callB (cr_all rfl) (by rfl) T.all boot_all (pa_cons (pe_lc (own := [("_law_field", 3)]) (g := gName 3) (tt := tYes) rfl scRow.nd (pi_tup (pe_ix ix_tup (pv 1) pe_int (fun _ _ => rfl))) (blkOk_by (own := [("_law_field", 3)]) (N := ["_law_kinds_own", "_law_row", "_law_taken", "_law_field"]) (sc := defScope sRow) (by decide +kernel))
      (fun _ _ _ _ _ => pg_name (i := 3) scRow.nd rfl (Or.inl rfl)) (fun _ _ _ _ _ => pts_nil)
      (fun _ _ _ _ _ => asTE (te := tAndV (tCB (rIsi K) (tCons (tVar 3) (tCons (tC (.ty "str")) tNil))) (tOp (rIn K false) (tVar 3) (tVar 0))) (pe_and (pe_callB call_isi (by rfl) T.isi boot_isinstance (pa_cons (pv 3) (pa_cons (pe_bltn (v := .ty "str") (by rfl) T.str boot_str rfl) pa_nil))) (pe_one (pe_cmpR op_in_seq (pv 3) (pv 0) (by rfl)))) rfl)) pa_nil))))), ?_⟩
  obtain ⟨t, tyv, _, kt⟩ := dv_ty (K := K) hv
  have no : ∀ H', Same H H' → rowD ks d = false → Q (.bl false) H' := fun H' s e => by
    have := q H' s
    rwa [rowT, e, Bool.false_and] at this
  have s0 : Same H H := fun _ _ e => e
  refine ⟨x, rfl, x, .ty "tuple", _, _, isTup d, rfl, .ty "tuple", tyv, kit_ty kt, _, rfl, ?_⟩
  cases hv with
  | non => exact iteT (iteT (no H s0 rfl))
  | bl b => exact iteT (iteT (no H s0 rfl))
  | int i => exact iteT (iteT (no H s0 rfl))
  | str z _ => exact iteT (iteT (no H s0 rfl))
  | lst _ _ _ => exact iteT (iteT (no H s0 rfl))
  | @tup b xs ds hb hall =>
  have ln := hall.length
  refine iteF ⟨.ref b, rfl, b, _, rfl, .inr (SqT.of hb), rfl, _, rfl, ?_⟩
  by_cases l3 : ds.length = 3
  rotate_left
  · rw [show decide (V.int ((xs.length : Nat) : Int) = V.int 3) = false from decide_eq_false fun e => by injection e with e; omega]
    exact iteT (iteT (no H s0 (rowD_len l3)))
  rw [show decide (V.int ((xs.length : Nat) : Int) = V.int 3) = true from decide_eq_true (by rw [show ((xs.length : Nat) : Int) = 3 by omega])]
  obtain ⟨dn, dk, df, rfl⟩ : ∃ x y z, ds = [x, y, z] := by
    match ds, l3 with
    | [x, y, z], _ => exact ⟨x, y, z, rfl⟩
  cases hall with
  | @cons xn _ _ _ hn hall =>
  cases hall with
  | @cons xk _ _ _ hk hall =>
  cases hall with
  | @cons xf _ _ _ hf hall =>
  cases hall
  have er : rowD ks (.tuple [dn, dk, df]) = (nameD dn && (memD ks dk && fldD ks df)) := rfl
  rcases dv_cases K hn with ⟨z, rfl, rfl, lz⟩ | ⟨nn, _, t, tyx, kx⟩
  rotate_left
  · exact iteF ⟨.ref b, rfl, b, _, _, xn, rfl, rfl, SqT.of hb, rfl, xn, rfl, .inr ⟨t, tyx, kx, false, rfl, iteT (iteT (no H s0 (by rw [er, nn]; rfl)))⟩⟩
  refine iteF ⟨.ref b, rfl, b, _, _, .str z, rfl, rfl, SqT.of hb, rfl, .str z, rfl, .inl ⟨z, rfl, lz, fun H2 s2 => ?_⟩⟩
  have hb2 := s2 _ _ hb
  have eL2 := s2 _ _ eL
  have hs2 : StT H2 a ks := s2 _ _ hs
  cases nz : nmS z with
  | false => exact ⟨false, rfl, iteT (iteT (no H2 s2 (by rw [er, show nameD (PyData.str z) = nmS z from rfl, nz]; rfl)))⟩
  | true =>
  have er2 : rowD ks (.tuple [.str z, dk, df]) = (memD ks dk && fldD ks df) := by rw [er, show nameD (PyData.str z) = nmS z from rfl, nz, Bool.true_and]
  refine ⟨true, rfl, iteF ⟨.ref b, rfl, b, _, _, .str z, rfl, rfl, SqT.of hb2, rfl, .ref L, rfl, L, _, rfl, .inl (SqL.of eL2), rfl, all_flat _, _, rfl, ?_⟩⟩
  rw [if_neg (by decide), inV_str]
  by_cases hm : z ∈ taken
  · rw [decide_eq_true hm]
    have := q H2 s2
    rw [rowT, show nmOf (PyData.tuple [.str z, dk, df]) = z from rfl, decide_eq_true hm, Bool.not_true, Bool.and_false] at this
    exact iteT this
  rw [decide_eq_false hm]
  have q3 : ∀ H', Same H H' → Q (.bl (memD ks dk && fldD ks df)) H' := fun H' s => by
    have := q H' s
    rwa [rowT, show nmOf (PyData.tuple [.str z, dk, df]) = z from rfl, decide_eq_false hm, Bool.not_false, Bool.and_true, er2] at this
  refine iteF ?_
  have hk2 := hk.keep s2
  have hf2 := hf.keep s2
  obtain ⟨t, tyk, kk, _⟩ := dv_ty (K := K) hk2
  refine ⟨.ref b, rfl, b, _, _, xk, rfl, rfl, SqT.of hb2, rfl, xk, .ty "str", _, _, isStr dk, rfl, .ty "str", tyk, kit_ty kk, _, rfl, ?_⟩
  rcases dv_cases K hk2 with ⟨y, rfl, rfl, ly⟩ | ⟨_, nm, _⟩
  rotate_left
  · have e : isStr dk = false := by
      cases dk with
      | str y =>
        have h1 := nm [y]
        rw [memD, decide_eq_true (List.mem_singleton.mpr rfl)] at h1
        cases h1
      | _ => rfl
    rw [e]
    have := q3 H2 s2
    rw [nm ks, Bool.false_and] at this
    exact iteT (iteT this)
  refine iteF ⟨.ref b, rfl, b, _, _, .str y, rfl, rfl, SqT.of hb2, rfl, .ref a, rfl, a, _, rfl, .inr (SqT.of hs2), rfl, all_flat _, _, rfl, ?_⟩
  rw [if_pos rfl, inV_str]
  rw [show memD ks (PyData.str y) = decide (y ∈ ks) from rfl] at q3
  by_cases hy : y ∈ ks
  rotate_left
  · rw [decide_eq_false hy] at q3 ⊢
    exact iteT (iteT (q3 H2 s2))
  rw [decide_eq_true hy] at q3 ⊢
  rw [Bool.true_and] at q3
  obtain ⟨t, tyf, _, kf⟩ := dv_ty (K := K) hf2
  refine iteF ⟨.ref b, rfl, b, _, _, xf, rfl, rfl, SqT.of hb2, rfl, xf, .ty "tuple", _, _, isTup df, rfl, .ty "tuple", tyf, kit_ty kf, _, rfl, ?_⟩
  cases hf2 with
  | non => exact iteT (iteT (q3 H2 s2))
  | bl b => exact iteT (iteT (q3 H2 s2))
  | int i => exact iteT (iteT (q3 H2 s2))
  | str z _ => exact iteT (iteT (q3 H2 s2))
  | lst _ _ _ => exact iteT (iteT (q3 H2 s2))
  | @tup fa fs gs hfa hfs =>
  have lf := hfs.length
  refine iteF ⟨.ref b, rfl, b, _, _, .ref fa, rfl, rfl, SqT.of hb2, rfl, fa, _, rfl, .inr (SqT.of hfa), _, _, rfl, rfl, _, rfl, ?_⟩
  have ef : fldD ks (.tuple gs) = (decide (gs.length ≤ 3) && gs.all (memD ks)) := rfl
  rw [ef] at q3
  by_cases g3 : gs.length ≤ 3
  rotate_left
  · rw [decide_eq_false g3, Bool.false_and] at q3
    rw [decide_eq_true (show ((fs.length : Nat) : Int) > 3 by omega)]
    exact iteT (q3 H2 s2)
  rw [decide_eq_true g3, Bool.true_and] at q3
  rw [decide_eq_false (show ¬ ((fs.length : Nat) : Int) > 3 by omega)]
  refine iteF ?_
  refine ⟨.ref b, rfl, b, _, _, .ref fa, rfl, rfl, SqT.of hb2, rfl, fa, rfl, ⟨_, SqT.of hfa⟩, fun D nD => lc_funT (K := K) (a := fa) (xs := fs) (ys := (gs.map (memD ks)).map V.bl) (fun _ => rfl) nD (SqT.of hfa) (by omega) (by rw [List.length_map, List.length_map, lf]) (fun i x y H3 hx hy s3 qq => ?_) fun H3 s3 eD => ?_⟩
  · intro k
    obtain ⟨d, ed, hd⟩ := hfs.at hx
    rw [List.getElem?_map, List.getElem?_map, ed] at hy
    cases hy
    have hd3 := hd.keep s3
    obtain ⟨t, tyd, kd, _⟩ := dv_ty (K := K) hd3
    refine ⟨x, rfl, x, .ty "str", _, _, isStr d, rfl, .ty "str", tyd, kit_ty kd, _, rfl, ?_⟩
    have fin := k H3 fun _ _ e => e
    cases hd3 with
    | str u _ =>
      refine iteT ⟨.str u, rfl, .ref a, rfl, a, _, rfl, .inr (SqT.of (s3 _ _ hs2)), rfl, all_flat _, ?_⟩
      rw [if_neg (by decide), inV_str]
      exact fin
    | non => exact iteF fin
    | bl b => exact iteF fin
    | int i => exact iteF fin
    | lst _ _ _ => exact iteF fin
    | tup _ _ => exact iteF fin
  · refine ⟨D, gs.map (memD ks), rfl, SqL.of eD, ?_⟩
    have e : (gs.map (memD ks)).all id = gs.all (memD ks) := by rw [List.all_map]; rfl
    rw [e]
    exact q3 H3 (s2.trans s3)
end
end Ks
set_option Elab.async false
set_option linter.all false
set_option maxRecDepth 100000
set_option maxHeartbeats 4000000
namespace Ks
open PySem PySem.Spec PyProof.Rows L2 Gd Kx
theorem rscan_yes {ks acc : List Str} {d : PyData} {r : List PyData} (h : rowT ks acc d = true) : rscan ks acc (d :: r) = rscan ks (acc ++ [nmOf d]) r := by
  rw [rowT, Bool.and_eq_true_iff] at h
  rw [rscan]
  exact if_pos ⟨h.1, by simpa using h.2⟩
theorem rscan_no {ks acc : List Str} {d : PyData} {r : List PyData} (h : rowT ks acc d = false) : rscan ks acc (d :: r) = some acc.length := by
  rw [rscan]
  exact if_neg fun c => by rw [rowT, c.1, decide_eq_false c.2] at h; cases h
section
variable {P : Program} {w : World} {K : PySem.W.Frag} {mg : Str → Option Value} {base : Heap}
def spWr : Sp := fun vs H Q _ => ∃ (p a : Addr) (v : V) (d : PyData) (ks : List Str), vs = [.ref a, v] ∧ StT H a ks ∧ Dv p H v d ∧ ∀ b H', Same H H' → H b = none → H' b = some (.lst ((dueW (Str.ofString "InvalidConstructors") (rErr ks d)).map V.str)) → Q (.ref b) H'
theorem ok_wr {f fi : Addr} {fd fdi : FuncData} (F : Fun K "_law_wrong_rows" "_law_wrong_rows" sWr f fd) (T : TS0 mg) (mrep : mg "repr" = none)
    (GI : FnOk P w K mg base CX0 2 fi fdi ["_law_kinds_own", "_law_row", "_law_taken"] spRow) (ki : PySem.W.keepIn K (.ref fi) = true) (bI : Binds K fdi ["_law_kinds_own", "_law_row", "_law_taken"] []) (gI : mg "_law_is_row" = some (.ref fi)) : Pr P w K mg base CX0 3 f fd ["_law_kinds_own", "_law_rows"] spWr := by
  refine okG F scWr (fun vs H Q E h => ?_) (fun cv A ou s H vs Q E hG hr h => ?_)
  · obtain ⟨p, a, v, d, ks, rfl, _⟩ := h
    rfl
  obtain ⟨p, ak, v, d, ks, rfl, hk, hv, q⟩ := h
  have hu := hr.units
  have hG2 : (A.deeper (envOfC "_law_wrong_rows" (defScope sWr) s.heap.objs.size f cv)).guards = some [] := hG
  refine ⟨_, pss_cons (ps_if (PW.pt (pw_or (pt_not (pt_val (pe_callB call_isi (by rfl) T.isi boot_isinstance (pa_cons (pv 1) (pa_cons (pe_bltn (v := .ty "tuple") (by rfl) T.tup boot_tuple rfl) pa_nil)))))
        (pw_or1 (pt_not (pt_chain op_lt op_lt pe_int (pe_callB call_len_seq (by rfl) T.len PySem.boot_len (pa_cons (pv 1) pa_nil)) pe_int)))))
      (pss_one (ps_ret (pe_lst (pa_cons pe_str (pa_cons pe_str pa_nil))))) pss_nil)
    (pss_cons (ps_set (i := 2) scWr.nd rfl (.inl rfl) (pe_lst pa_nil))
    (pss_cons (ps_for PassesOwn.never rfl (pi_range1 rfl T.rng (pa_cons (pe_callB call_len_seq (by rfl) T.len PySem.boot_len (pa_cons (pv 1) pa_nil)) pa_nil)) (pg_name (i := 3) scWr.nd rfl (.inl rfl))
      (pss_cons (ps_if (pt_not (pt_val (pe_call GI hr (by rfl) gI ki bI .nil pass0 (pa_cons (pv 0) (pa_cons (pe_ix ix_tup (pv 1) (pv 3) (fun _ _ => rfl)) (pa_cons (pv 2) pa_nil))))))
        (pss_one (ps_ret (pe_lst (pa_cons pe_str (pa_cons (pe_callB (call_showV hG2 hu) (by rfl) mrep boot_repr (pa_cons (pv 3) pa_nil)) pa_nil))))) pss_nil)
      (pss_one (ps_expr (pe_bm PySem.F.plainAttrs_list PySem.F.slot_list_append PySem.F.type_list_append mt_append (pv 2) (pa_cons (pe_ix ix_tup (pe_ix ix_tup (pv 1) (pv 3) (fun _ _ => rfl)) pe_int (fun _ _ => rfl)) pa_nil))))))
    (pss_one (ps_ret (pe_lst pa_nil))))), ?_⟩
  obtain ⟨t, tyv, _, kt⟩ := dv_ty (K := K) hv
  have qn : rErr ks d = some none → ∀ b, H b = none → Q (.ref b) (upd H b (.lst [.str "InvalidConstructors", .str "None"])) := fun e b nb => q b _ (same_new nb) nb (by rw [e]; exact upd_same)
  refine ⟨v, rfl, v, .ty "tuple", _, _, isTup d, rfl, .ty "tuple", tyv, kit_ty kt, _, rfl, ?_⟩
  cases hv with
  | non => exact iteT (iteT ⟨(by show 2 ≤ sizeLine; decide), qn rfl⟩)
  | bl b => exact iteT (iteT ⟨(by show 2 ≤ sizeLine; decide), qn rfl⟩)
  | int i => exact iteT (iteT ⟨(by show 2 ≤ sizeLine; decide), qn rfl⟩)
  | str z _ => exact iteT (iteT ⟨(by show 2 ≤ sizeLine; decide), qn rfl⟩)
  | lst _ _ _ => exact iteT (iteT ⟨(by show 2 ≤ sizeLine; decide), qn rfl⟩)
  | @tup a xs ds hs hall =>
  have ln := hall.length
  refine iteF ⟨.ref a, rfl, a, _, rfl, .inr (SqT.of hs), _, _, rfl, rfl, _, rfl, ?_⟩
  by_cases k1 : 1 ≤ ds.length
  rotate_left
  · rw [decide_eq_false (show ¬ (0 : Int) < ((xs.length : Nat) : Int) by omega)]
    refine iteF ⟨_, rfl, iteT ⟨(by show 2 ≤ sizeLine; decide), qn ?_⟩⟩
    unfold rErr
    exact if_neg fun c => k1 c.1
  rw [decide_eq_true (show (0 : Int) < ((xs.length : Nat) : Int) by omega)]
  refine iteT ⟨_, _, rfl, rfl, _, rfl, ?_⟩
  by_cases k4 : ds.length ≤ 6
  rotate_left
  · rw [decide_eq_false (show ¬ ((xs.length : Nat) : Int) < 7 by omega)]
    refine iteT ⟨(by show 2 ≤ sizeLine; decide), qn ?_⟩
    unfold rErr
    exact if_neg fun c => k4 c.2
  rw [decide_eq_true (show ((xs.length : Nat) : Int) < 7 by omega)]
  have ek : rErr ks (.tuple ds) = (rscan ks [] ds).map some := by
    unfold rErr
    exact if_pos ⟨k1, k4⟩
  refine iteF ⟨(by show 0 ≤ sizeLine; exact Nat.zero_le _), fun L nL => ?_⟩
  refine ⟨.ref a, rfl, a, _, rfl, .inr (SqT.of (same_new nL _ _ hs)), _, rfl, ?_, ?_, for_range (fun i σ H' => ∃ (o3 : Option V) (acc : List Str), σ = [some (.ref ak), some (.ref a), some (.ref L), o3] ∧ Same H H' ∧ H' L = some (.lst (acc.map V.str)) ∧ acc.length = i ∧ rscan ks [] ds = rscan ks acc (ds.drop i)) ⟨none, [], rfl, same_new nL, upd_same, rfl, rfl⟩ ?_ ?_⟩
  · omega
  · omega
  · rintro i σ H1 hi ⟨o3, acc, rfl, s1, eL, la, sc⟩
    have hi' : i < xs.length := by omega
    have hx : xs[i]? = some xs[i] := List.getElem?_eq_getElem hi'
    obtain ⟨dx, edx, hvx⟩ := hall.at hx
    generalize xs[i] = x at hx hvx
    rw [drop_at edx] at sc
    have c0 : (0 : Int) + (i : Int) = ((i : Nat) : Int) := by omega
    have i13 : i < 13 := by omega
    have sb := sb_int13 ⟨i, i13⟩
    rw [c0]
    refine ⟨.ref ak, rfl, .ref a, rfl, .int (i : Nat), rfl, a, _, _, x, rfl, rfl, SqT.of (s1 _ _ hs), atI_nat hx, .ref L, rfl, p, ak, L, x, dx, ks, acc, rfl, s1 _ _ hk, hvx.keep s1, eL, fun H2 s2 => ⟨rowT ks acc dx, rfl, ?_⟩⟩
    have sA := s1.trans s2
    have eL2 := s2 _ _ eL
    cases hrow : rowT ks acc dx with
    | false =>
      refine iteT ⟨.int (i : Nat), rfl, .int (i : Nat), .int (i : Nat), rfl, .int _, sb.1, rfl, (by rw [PyData.depth]; decide), Nat.le_trans sb.2 (by decide), (by show 2 ≤ sizeLine; decide), fun b nb => ?_⟩
      refine q b _ (sA.trans (same_new nb)) (by cases eb : H b with | none => rfl | some o => rw [sA _ _ eb] at nb; cases nb) ?_
      rw [ek, sc, rscan_no hrow, la]
      exact upd_same
    | true =>
      have hr1 : rowD ks dx = true := by
        rw [rowT, Bool.and_eq_true_iff] at hrow
        exact hrow.1
      obtain ⟨r, rfl, gr, en⟩ := rowD_ok hr1
      obtain ⟨b, fa, rfl, hb, hf⟩ := row_dv (hvx.keep sA)
      refine iteF ⟨.ref L, rfl, .inl ⟨rfl, _, SqL.of eL2⟩, .ref a, rfl, .int (i : Nat), rfl, a, _, _, .ref b, rfl, rfl, SqT.of (sA _ _ hs), atI_nat hx, b, _, _, .str r.1, rfl, rfl, SqT.of hb, rfl, L, _, _, rfl, rfl, eL2, ?_, _, acc ++ [r.1], rfl, same_upd sA nL, ?_, by rw [List.length_append, la]; rfl, ?_⟩
      · rw [List.length_map]
        exact small1000 (by omega)
      · rw [upd_same, List.map_append]
        rfl
      · rw [sc, rscan_yes hrow, en]
  · rintro σ H1 ⟨o3, acc, rfl, s1, _, la, sc⟩
    have e0 : rErr ks (.tuple ds) = none := by
      rw [ek, sc, show (((xs.length : Nat) : Int)).toNat = ds.length by omega, List.drop_length]
      rfl
    refine ⟨(by show 0 ≤ sizeLine; exact Nat.zero_le _), fun b nb => q b _ (s1.trans (same_new nb)) (by cases eb : H b with | none => rfl | some o => rw [s1 _ _ eb] at nb; cases nb) ?_⟩
    rw [e0]
    exact upd_same
end
end Ks
set_option Elab.async false
set_option linter.all false
set_option maxRecDepth 100000
set_option maxHeartbeats 4000000
namespace Ks
open PySem PySem.Spec PyProof.Rows L2 Gd Kx
abbrev sWds : Stmt := Kx.topS 31
abbrev sMdl : Stmt := Kx.topS 32
theorem scWds : FnScope ["_law_deal_here", "_law_many", "_law_found", "_law_k"] ["_law_deal_here", "_law_many"] (defScope sWds) := ⟨rfl, rfl, rfl, by decide +kernel, rfl, by decide +kernel, by decide +kernel⟩
section
variable {P : Program} {w : World} {K : PySem.W.Frag} {mg : Str → Option Value} {base : Heap}
def spWds : Sp := fun vs H Q _ => ∃ (p : Addr) (n : Nat), vs = [.ref p, .int (n : Nat)] ∧ DealAt H p ∧ n ≤ 40 ∧
  ∀ (q : Addr) (ts : List Str) (H' : Hp), DealAt H' p → Sb p H H' → H q = none → q ≠ p → H' q = some (.lst (ts.map V.str)) → (∀ z ∈ ts, nmS z = true) → ts.Nodup → ts.length = n → Q (.ref q) H'
theorem ok_wds {f fw : Addr} {fd fdw : FuncData} (F : Fun K "_law_words" "_law_words" sWds f fd) (mr : mg "range" = none)
    (GW : FnOk P w K mg base CX0 2 fw fdw ["_law_deal_here", "_law_taken"] spWord) (kw : PySem.W.keepIn K (.ref fw) = true) (bW : Binds K fdw ["_law_deal_here", "_law_taken"] []) (gW : mg "_law_word" = some (.ref fw)) : FnOk P w K mg base CX0 3 f fd ["_law_deal_here", "_law_many"] spWds := by
  refine F.ok scWds (fun vs H Q E h => ?_) (fun cv A ou s H vs Q E hr h => ?_)
  · obtain ⟨p, n, rfl, _⟩ := h
    rfl
  obtain ⟨p, n, rfl, hD, hn, k⟩ := h
  refine ⟨_, pss_cons (ps_set (i := 2) scWds.nd rfl (.inl rfl) (pe_lst pa_nil))
    (pss_cons (ps_for PassesOwn.never rfl (pi_range1 rfl mr (pa_cons (pv 1) pa_nil)) (pg_name (i := 3) scWds.nd rfl (.inl rfl))
      (pss_one (ps_expr (pe_bm PySem.F.plainAttrs_list PySem.F.slot_list_append PySem.F.type_list_append mt_append (pv 2) (pa_cons (pe_call GW hr (by rfl) gW kw bW .nil pass0 (pa_cons (pv 0) (pa_cons (pv 2) pa_nil))) pa_nil)))))
    (pss_one (ps_ret (pv 2)))), ?_⟩
  refine ⟨(by show 0 ≤ sizeLine; exact Nat.zero_le _), fun L nL => ?_⟩
  have Lp : L ≠ p := by
    obtain ⟨_, _, _, e, _⟩ := hD
    exact fun e2 => by rw [e2, e] at nL; cases nL
  refine ⟨_, rfl, _, rfl, ?_, ?_, for_range (n := n) (fun i σ H' => ∃ (o3 : Option V) (ts : List Str), σ = [some (.ref p), some (.int (n : Nat)), some (.ref L), o3] ∧ DealAt H' p ∧ Sb p H H' ∧ H' L = some (.lst (ts.map V.str)) ∧ (∀ z ∈ ts, nmS z = true) ∧ ts.Nodup ∧ ts.length = i)
    ⟨none, [], rfl, hD.keep (same_new nL), Sb.new nL, upd_same, fun z hz => (by cases hz), .nil, rfl⟩ ?_ ?_⟩
  · omega
  · omega
  · rintro i σ H1 hi ⟨o3, ts, rfl, D1, b1, eL, hz, nd, hl⟩
    refine ⟨.ref L, rfl, .inl ⟨rfl, _, SqL.of eL⟩, .ref p, rfl, .ref L, rfl, p, L, ts, rfl, D1, eL, Lp, by omega, fun z H2 nz ni D2 b2 => ?_⟩
    have eL2 := b2 L _ Lp eL
    refine ⟨L, _, _, rfl, rfl, eL2, ?_, some (.int (0 + (i : Int))), ts ++ [z], rfl, ?_, ?_, ?_, ?_, ?_, ?_⟩
    · rw [List.length_map]
      exact small1000 (by omega)
    · obtain ⟨x, y, c, e, l⟩ := D2
      exact ⟨x, y, c, by rw [upd_ne (fun e2 => Lp e2.symm)]; exact e, l⟩
    · intro b o nb e
      rw [upd_ne (ne_of_none e nL)]
      exact b2 b o nb (b1 b o nb e)
    · rw [upd_same, List.map_append]
      rfl
    · intro x hx
      rcases List.mem_append.mp hx with m | m
      · exact hz x m
      · rw [List.mem_singleton.mp m]
        exact nz
    · rw [List.nodup_append]
      exact ⟨nd, List.nodup_cons.mpr ⟨by simp, .nil⟩, fun x hx y hy e => ni (by rw [List.mem_singleton.mp hy] at e; rw [← e]; exact hx)⟩
    · rw [List.length_append, hl]
      rfl
  · rintro σ H1 ⟨o3, ts, rfl, D1, b1, eL, hz, nd, hl⟩
    exact ⟨.ref L, rfl, k L ts H1 D1 b1 nL Lp eL hz nd hl⟩
end
end Ks
set_option Elab.async false
set_option linter.all false
set_option maxRecDepth 100000
set_option maxHeartbeats 4000000
namespace Ks
open PySem PySem.Spec PyProof.Rows L2 Gd Kx
theorem scMdl : FnScope ["_law_deal_here", "_law_many", "_law_words_here", "_law_kinds_own", "_law_k", "_law_rows", "_law_size", "_law_fields", "_law_at", "_law_turn"] ["_law_deal_here"] (defScope sMdl) := ⟨rfl, rfl, rfl, by decide +kernel, rfl, by decide +kernel, by decide +kernel⟩
/-- what a changed deal leaves -/
theorem deal_ne {H : Hp} {p b : Addr} {xs : List V} (D : DealAt H p) (e : H b = some (.tup xs)) : b ≠ p := by
  obtain ⟨_, _, _, ep, _⟩ := D
  exact fun z => by rw [z, ep] at e; cases e
theorem RowV.sb {H H' : Hp} {p : Addr} {x : V} {r : Rw} (h : RowV H x r) (D : DealAt H p) (s : Sb p H H') : RowV H' x r := by
  obtain ⟨b, f, e, h1, h2⟩ := h
  have h2' : H f = some (.tup (r.2.2.map V.str)) := h2
  exact ⟨b, f, e, s _ _ (deal_ne D h1) h1, s _ _ (deal_ne D h2') h2'⟩
theorem RowV.but {H H' : Hp} {R : Addr} {x : V} {r : Rw} {ys : List V} (h : RowV H x r) (e : H R = some (.lst ys)) (s : Sb R H H') : RowV H' x r := by
  obtain ⟨b, f, ex, h1, h2⟩ := h
  have h2' : H f = some (.tup (r.2.2.map V.str)) := h2
  exact ⟨b, f, ex, s _ _ (fun z => by rw [z, e] at h1; cases h1) h1, s _ _ (fun z => by rw [z, e] at h2'; cases h2') h2'⟩
theorem cut_drop {xs : List V} {i : Nat} (h : i ≤ xs.length) : cutV xs (some (i : Int)) none = xs.drop i := by
  unfold cutV
  rw [HT.sIx_none, HT.sIx_nat, Nat.min_eq_left h, List.take_of_length_le (by rw [List.length_drop]; omega)]
theorem turned {α : Type} (l : List α) (d : Nat) : (l.drop d ++ l.take d).Perm l := by
  have h := List.perm_append_comm (l₁ := l.drop d) (l₂ := l.take d)
  rw [List.take_append_drop] at h
  exact h
theorem paired_app {H : Hp} : ∀ {xs ys : List V} {rs ss : List Rw}, Paired (RowV H) xs rs → Paired (RowV H) ys ss → Paired (RowV H) (xs ++ ys) (rs ++ ss)
  | _, _, _, _, .nil, h => h
  | _, _, _, _, .cons a t, h => .cons a (paired_app t h)
theorem paired_drop {H : Hp} : ∀ (n : Nat) {xs : List V} {rs : List Rw}, Paired (RowV H) xs rs → Paired (RowV H) (xs.drop n) (rs.drop n)
  | 0, _, _, h => h
  | n + 1, _, _, .nil => .nil
  | n + 1, _, _, .cons a t => paired_drop n t
theorem paired_take {H : Hp} : ∀ (n : Nat) {xs : List V} {rs : List Rw}, Paired (RowV H) xs rs → Paired (RowV H) (xs.take n) (rs.take n)
  | 0, _, _, h => .nil
  | n + 1, _, _, .nil => .nil
  | n + 1, _, _, .cons a t => .cons a (paired_take n t)
/-- a model at a -/
def MdAt (H : Hp) (a : Addr) (m : Md) : Prop := ∃ k r : Addr, H a = some (.tup [.ref k, .ref r]) ∧ StT H k m.ks ∧ RowsT H r m.rs
theorem MdAt.keep {H H' : Hp} {a : Addr} {m : Md} (h : MdAt H a m) (s : Same H H') : MdAt H' a m := by
  obtain ⟨k, r, e, h1, h2⟩ := h
  exact ⟨k, r, s _ _ e, s _ _ h1, h2.keep s⟩
/-- the rows so far, named from the fourth word on -/
structure RInv (ks ts : List Str) (rs : List Rw) : Prop where
  ok : ∀ r ∈ rs, RwOk ks r
  nm : rs.map (·.1) = (ts.drop 3).take rs.length
theorem paired_snoc {H : Hp} : ∀ {xs : List V} {rs : List Rw} {x : V} {r : Rw}, Paired (RowV H) xs rs → RowV H x r → Paired (RowV H) (xs ++ [x]) (rs ++ [r])
  | _, _, _, _, .nil, h => .cons h .nil
  | _, _, _, _, .cons a t, h => .cons a (paired_snoc t h)
theorem RInv.snoc {ks ts : List Str} {rs : List Rw} {r : Rw} (h : RInv ks ts rs) (g : RwOk ks r) (e : (ts.drop 3)[rs.length]? = some r.1) : RInv ks ts (rs ++ [r]) := by
  refine ⟨fun x hx => ?_, ?_⟩
  · rcases List.mem_append.mp hx with m | m
    · exact h.ok x m
    · rw [List.mem_singleton.mp m]
      exact g
  · rw [List.map_append, h.nm, List.length_append, List.length_singleton, List.take_add_one, e]
    rfl
section
variable {P : Program} {w : World} {K : PySem.W.Frag} {mg : Str → Option Value} {base : Heap}
def spMdl : Sp := fun vs H Q _ => ∃ p : Addr, vs = [.ref p] ∧ DealAt H p ∧ ∀ (a : Addr) (m : Md) (H' : Hp), DealAt H' p → Sb p H H' → Good m → MdAt H' a m → Q (.ref a) H'
theorem ok_mdl {f fp fw : Addr} {fd fdp fdw : FuncData} (F : Fun K "_law_model" "_law_model" sMdl f fd) (mr : mg "range" = none) (mt : mg "tuple" = none) (ml : mg "len" = none)
    (GP : FnOk P w K mg base CX0 1 fp fdp ["_law_deal_here", "_law_many"] spPick) (kp : PySem.W.keepIn K (.ref fp) = true) (bP : Binds K fdp ["_law_deal_here", "_law_many"] []) (gP : mg "_law_pick" = some (.ref fp))
    (GW : FnOk P w K mg base CX0 3 fw fdw ["_law_deal_here", "_law_many"] spWds) (kw : PySem.W.keepIn K (.ref fw) = true) (bW : Binds K fdw ["_law_deal_here", "_law_many"] []) (gW : mg "_law_words" = some (.ref fw)) :
    FnOk P w K mg base CX0 4 f fd ["_law_deal_here"] spMdl := by
  refine F.ok scMdl (fun vs H Q E h => ?_) (fun cv A ou s H vs Q E hr h => ?_)
  · obtain ⟨p, rfl, _⟩ := h
    rfl
  obtain ⟨p, rfl, hD, k⟩ := h
  have hr1 : Room 1 (A.deeper (envOfC "_law_model" (defScope sMdl) s.heap.objs.size f cv)) := hr.mono (by decide)
  refine ⟨_, pss_cons (ps_asg (pe_tup (pa_cons (pe_op op_add pe_int (pe_call GP hr1 (by rfl) gP kp bP .nil pass0 (pa_cons (pv 0) (pa_cons pe_int pa_nil))))
      (pa_cons (pe_call GW hr (by rfl) gW kw bW .nil pass0 (pa_cons (pv 0) (pa_cons pe_int pa_nil))) pa_nil))) (pg_tup (by rfl) (pgs_cons (pg_name (i := 1) scMdl.nd rfl (.inr rfl)) (pgs_cons (pg_name (i := 2) scMdl.nd rfl (.inr rfl)) pgs_nil))))
    (pss_cons (ps_set (i := 3) scMdl.nd rfl (.inr rfl) (pe_tupleOf (by rfl) mt (pe_slice sl_list (pv 2) po_none (po_some (pv 1)))))
    (pss_cons (ps_setLc (i := 5) (own := [("_law_k", 4)]) (g := gName 4) (tt := tYes) (by rfl) scMdl.nd rfl rfl (sw_true rfl rfl rfl (by decide +kernel)) (pi_range1 rfl mr (pa_cons (pv 1) pa_nil))
        (blkOk_by (own := [("_law_k", 4)]) (N := ["_law_deal_here", "_law_many", "_law_words_here", "_law_kinds_own", "_law_k", "_law_rows", "_law_size", "_law_fields", "_law_at", "_law_turn"]) (sc := defScope sMdl) (by decide +kernel))
        (fun _ _ _ _ _ => pg_name (i := 4) scMdl.nd rfl (Or.inl rfl)) (fun _ _ _ _ _ => pts_nil)
        (fun _ _ _ _ _ => asTE (te := tTup (tCons (tOp (rIxL K) (tVar 2) (tOp (rI0 fun i j => .int (i + j)) (tC (.int 3)) (tVar 4))) (tCons (tOp (rIxT K) (tVar 3) (tVar 4)) (tCons (tTup tNil) tNil)))) (pe_tup (pa_cons (pe_ix ix_list (pv 2) (pe_op op_add pe_int (pv 4)) (fun _ _ => rfl)) (pa_cons (pe_ix ix_tup (pv 3) (pv 4) (fun _ _ => rfl)) (pa_cons (pe_tup pa_nil) pa_nil)))) rfl))
    (pss_cons (ps_for PassesOwn.never rfl (pi_range1 rfl mr (pa_cons (pe_op op_add pe_int (pe_call GP hr1 (by rfl) gP kp bP .nil pass0 (pa_cons (pv 0) (pa_cons pe_int pa_nil)))) pa_nil)) (pg_name (i := 4) scMdl.nd rfl (.inl rfl))
      (pss_cons (ps_set (i := 6) scMdl.nd rfl (.inl rfl) (pe_ix ix_list (pe_lst (pa_cons pe_int (pa_cons pe_int (pa_cons pe_int (pa_cons pe_int pa_nil))))) (pe_call GP hr1 (by rfl) gP kp bP .nil pass0 (pa_cons (pv 0) (pa_cons pe_int pa_nil))) (fun _ _ => rfl)))
      (pss_cons (ps_set (i := 7) scMdl.nd rfl (.inl rfl) (pe_tupleOf (by rfl) mt (pe_lc (own := [("_law_turn", 9)]) (g := gName 9) (tt := tYes) rfl scMdl.nd (pi_range1 rfl mr (pa_cons (pv 6) pa_nil)) (blkOk_by (own := [("_law_turn", 9)]) (N := ["_law_deal_here", "_law_many", "_law_words_here", "_law_kinds_own", "_law_k", "_law_rows", "_law_size", "_law_fields", "_law_at", "_law_turn"]) (sc := defScope sMdl) (by decide +kernel))
          (fun _ _ _ _ _ => pg_name (i := 9) scMdl.nd rfl (Or.inl rfl)) (fun _ _ _ _ _ => pts_nil) (fun _ _ _ _ _ => asTE (te := tOp (rIxT K) (tVar 3) (tCall spPick [] E0 (tCons (tVar 0) (tCons (tVar 1) tNil)))) (pe_ix ix_tup (pv 3) (pe_call GP hr1 (by rfl) gP kp bP .nil pass0 (pa_cons (pv 0) (pa_cons (pv 1) pa_nil))) (fun _ _ => rfl)) rfl))))
      (pss_one (ps_expr (pe_bm PySem.F.plainAttrs_list PySem.F.slot_list_append PySem.F.type_list_append mt_append (pv 5) (pa_cons (pe_tup (pa_cons (pe_ix ix_list (pv 2) (pe_op op_add (pe_op op_add pe_int (pv 1)) (pv 4)) (fun _ _ => rfl)) (pa_cons (pe_ix ix_tup (pv 3) (pe_call GP hr1 (by rfl) gP kp bP .nil pass0 (pa_cons (pv 0) (pa_cons (pv 1) pa_nil))) (fun _ _ => rfl)) (pa_cons (pv 7) pa_nil)))) pa_nil)))))))
    (pss_cons (ps_set (i := 8) scMdl.nd rfl (.inl rfl) (pe_call GP hr1 (by rfl) gP kp bP .nil pass0 (pa_cons (pv 0) (pa_cons (pe_callB call_len_seq (by rfl) ml PySem.boot_len (pa_cons (pv 5) pa_nil)) pa_nil))))
    (pss_one (ps_ret (pe_tup (pa_cons (pv 3) (pa_cons (pe_tupleOf (by rfl) mt (pe_op op_cat (pe_slice sl_list (pv 5) (po_some (pv 8)) po_none) (pe_slice sl_list (pv 5) po_none (po_some (pv 8))))) pa_nil))))))))), ?_⟩
  refine seq_join (fun σ G => ∃ (n : Nat) (q : Addr) (ts : List Str), 1 ≤ n ∧ n ≤ 3 ∧ σ = [some (.ref p), some (.int (n : Nat)), some (.ref q), none, none, none, none, none, none, none] ∧ DealAt G p ∧ Sb p H G ∧ q ≠ p ∧ G q = some (.lst (ts.map V.str)) ∧ (∀ z ∈ ts, nmS z = true) ∧ ts.Nodup ∧ ts.length = 9) ?_ fun rest => ?_
  rotate_left
  · refine ⟨.ref p, rfl, p, 3, rfl, hD, by decide, by decide, fun d1 H1 l1 u1 D1 b1 => ⟨_, _, rfl, rfl, .ref p, rfl, p, 9, rfl, D1, by decide, fun q ts H2 D2 b2 nq qp eq hz nd hl => ⟨(by show 2 ≤ sizeLine; decide), fun T nT => ?_⟩⟩⟩
    refine ⟨T, _, rfl, SqT.of upd_same, rfl, _, _, rfl, _, _, rfl, rfl, ?_⟩
    have sT : Same H2 (upd H2 T (.tup [.int (1 + d1), .ref q])) := same_new nT
    refine rest _ _ ⟨(1 + d1).toNat, q, ts, by omega, by omega, ?_, D2.keep sT, b1.trans (b2.trans (.of sT)), qp, sT _ _ eq, hz, nd, hl⟩
    rw [Int.toNat_of_nonneg (by omega)]
    rfl
  rintro σ G ⟨n, q, ts, n1, n3, rfl, DG, bG, qp, eq, hz, nd, hl⟩
  -- the kinds
  refine seq_join (fun σ G' => ∃ kA : Addr, σ = [some (.ref p), some (.int (n : Nat)), some (.ref q), some (.ref kA), none, none, none, none, none, none] ∧ Same G G' ∧ StT G' kA (ts.take n)) ?_ fun rest => ?_
  rotate_left
  · refine ⟨.ref q, rfl, .int (n : Nat), rfl, _, rfl, q, _, rfl, SqL.of eq, fun c nc => ?_⟩
    rw [cut_take (by rw [List.length_map]; omega), ← List.map_take]
    refine .inl ⟨c, _, rfl, SqL.of upd_same, fun kA nk => rest _ _ ⟨kA, rfl, (same_new nc).trans (same_new nk), upd_same⟩⟩
  rintro σ G1 ⟨kA, rfl, s1, ek⟩
  have D1 := DG.keep s1
  have eq1 := s1 _ _ eq
  have b1 := bG.trans (.of s1)
  have hk : ∀ j, j < n → ∃ z, (ts.take n)[j]? = some z ∧ ts[j]? = some z := fun j hj => by
    have : j < ts.length := by omega
    exact ⟨ts[j], by rw [List.getElem?_take, if_pos hj, List.getElem?_eq_getElem this], List.getElem?_eq_getElem this⟩
  clear s1 eq DG bG
  -- a row without fields for each kind
  refine seq_join (fun σ G' => ∃ (R : Addr) (xs : List V) (rs : List Rw), σ = [some (.ref p), some (.int (n : Nat)), some (.ref q), some (.ref kA), none, some (.ref R), none, none, none, none] ∧ Same G1 G' ∧ G1 R = none ∧ G' R = some (.lst xs) ∧ Paired (RowV G') xs rs ∧ RInv (ts.take n) ts rs ∧ rs.length = n ∧ ∀ j, j < n → ∃ r, rs[j]? = some r ∧ ts[j]? = some r.2.1 ∧ r.2.2 = []) ?_ fun rest => ?_
  rotate_left
  · refine ⟨.int (n : Nat), rfl, _, rfl, ?_, ?_, fun R nR => lc_rangeY (n := n) (fun i H' => Same G1 H' ∧ ∃ (xs : List V) (rs : List Rw), H' R = some (.lst xs) ∧ Paired (RowV H') xs rs ∧ RInv (ts.take n) ts rs ∧ rs.length = i ∧ ∀ j, j < i → ∃ r, rs[j]? = some r ∧ ts[j]? = some r.2.1 ∧ r.2.2 = [])
      (fun _ => rfl) ⟨same_new nR, [], [], upd_same, .nil, ⟨fun r hr => (by cases hr), rfl⟩, rfl, fun j hj => (by omega)⟩ ?_ ?_⟩
    · omega
    · omega
    · rintro i H' hi ⟨s2, xs, rs, eR, hp, ri, li, nu⟩
      have e3 : ∃ w3, ts[3 + i]? = some w3 := ⟨_, List.getElem?_eq_getElem (by omega)⟩
      obtain ⟨w3, e3⟩ := e3
      obtain ⟨zi, ez, ez2⟩ := hk i hi
      have c0 : (0 : Int) + (i : Int) = ((i : Nat) : Int) := by omega
      have c3 : (3 : Int) + ((0 : Int) + (i : Int)) = ((3 + i : Nat) : Int) := by omega
      refine ⟨.ref q, rfl, .int (0 + (i : Int)), rfl, _, _, rfl, rfl, q, _, _, .str w3, rfl, rfl, SqL.of (s2 _ _ eq1), ?_, .ref kA, rfl, .int (0 + (i : Int)), rfl, kA, _, _, .str zi, rfl, rfl, SqT.of (s2 _ _ ek), ?_, ⟨(by show 0 ≤ sizeLine; exact Nat.zero_le _), fun U nU => ⟨(by show 3 ≤ sizeLine; decide), fun B nB => ?_⟩⟩⟩
      · rw [c3]
        exact atI_nat (by rw [List.getElem?_map, e3]; rfl)
      · rw [c0]
        exact atI_nat (by rw [List.getElem?_map, ez]; rfl)
      have sU : Same H' (upd H' U (.tup [])) := same_new nU
      have sB : Same (upd H' U (.tup [])) (upd (upd H' U (.tup [])) B (.tup [.str w3, .str zi, .ref U])) := same_new nB
      have s4 := sU.trans sB
      have eR4 := s4 _ _ eR
      have RU : U ≠ R := fun e => by rw [e, eR] at nU; cases nU
      have RB : B ≠ R := fun e => by rw [e, sU _ _ eR] at nB; cases nB
      have lx : xs.length = rs.length := Paired.length hp
      refine ⟨xs, eR4, small1000 (by omega), same_upd (s2.trans s4) nR, xs ++ [.ref B], rs ++ [(w3, zi, [])], upd_same, paired_snoc (Paired.mapP hp fun x r z => (RowV.keep z s4).but eR4 .set) ⟨B, U, rfl, ?_, ?_⟩, ri.snoc ⟨hz _ (List.mem_of_getElem? e3), List.mem_of_getElem? ez, Nat.zero_le _, fun x hx => (by cases hx)⟩ ?_, ?_, fun j hj => ?_⟩
      · rw [upd_ne RB, upd_same]
      · show upd _ R _ U = _
        rw [upd_ne RU]
        exact sB _ _ upd_same
      · rw [List.getElem?_drop, li]
        exact e3
      · rw [List.length_append, li]
        rfl
      · by_cases hji : j < i
        · obtain ⟨r, er, e1, e2⟩ := nu j hji
          exact ⟨r, by rw [List.getElem?_append_left (by omega)]; exact er, e1, e2⟩
        · have ej : j = rs.length := by omega
          subst ej
          exact ⟨(w3, zi, []), by rw [List.getElem?_append_right (Nat.le_refl _), Nat.sub_self]; rfl, by rw [li]; exact ez2, rfl⟩
    · rintro H' ⟨s2, xs, rs, eR, hp, ri, li, nu⟩
      exact rest _ _ ⟨R, xs, rs, rfl, s2, nR, eR, hp, ri, li, nu⟩
  rintro σ G2 ⟨R, xs, rs, rfl, s2, nR, eR, hp, ri, li, nu⟩
  have Rp : R ≠ p := by
    obtain ⟨_, _, _, e, _⟩ := D1
    exact fun z => by rw [z, e] at nR; cases nR
  have nR0 : H R = none := b1.free Rp nR
  have qR : q ≠ R := fun z => by rw [z, nR] at eq1; cases eq1
  have D2 := D1.keep s2
  have b2 := b1.trans (.of s2)
  have eq2 := s2 _ _ eq1
  have ek2 : StT G2 kA (ts.take n) := s2 _ _ ek
  clear s2 nR eq1 ek D1 b1 hk
  have kp0 : ∀ {H' : Hp}, DealAt H' p → StT H' kA (ts.take n) → kA ≠ p := fun D e => deal_ne D e
  -- further rows
  refine seq_join (fun σ G' => ∃ (o4 o6 o7 : Option V) (xs : List V) (rs : List Rw), σ = [some (.ref p), some (.int (n : Nat)), some (.ref q), some (.ref kA), o4, some (.ref R), o6, o7, none, none] ∧ DealAt G' p ∧ Sb p H G' ∧ StT G' kA (ts.take n) ∧ G' R = some (.lst xs) ∧ Paired (RowV G') xs rs ∧ RInv (ts.take n) ts rs ∧ rs.length ≤ 6 ∧ n ≤ rs.length ∧ ∀ j, j < n → ∃ r, rs[j]? = some r ∧ ts[j]? = some r.2.1 ∧ r.2.2 = []) ?_ fun rest => ?_
  rotate_left
  · refine ⟨.ref p, rfl, p, 3, rfl, D2, by decide, by decide, fun d2 H3 l2 u2 D3 b3 => ⟨_, _, rfl, rfl, _, rfl, ?_, ?_, for_range (n := (1 + d2).toNat) (fun i σ H' => ∃ (o4 o6 o7 : Option V) (xs : List V) (rs : List Rw), σ = [some (.ref p), some (.int (n : Nat)), some (.ref q), some (.ref kA), o4, some (.ref R), o6, o7, none, none] ∧ DealAt H' p ∧ Sb p H H' ∧ H' q = some (.lst (ts.map V.str)) ∧ StT H' kA (ts.take n) ∧ H' R = some (.lst xs) ∧ Paired (RowV H') xs rs ∧ RInv (ts.take n) ts rs ∧ rs.length = n + i ∧ ∀ j, j < n → ∃ r, rs[j]? = some r ∧ ts[j]? = some r.2.1 ∧ r.2.2 = [])
      ⟨none, none, none, xs, rs, rfl, D3, b2.trans b3, b3 _ _ qp eq2, b3 _ _ (kp0 D2 ek2) ek2, b3 _ _ Rp eR, Paired.mapP hp fun x r z => RowV.sb z D2 b3, ri, li, nu⟩ ?_ ?_⟩⟩
    · omega
    · omega
    · clear eR hp ri li nu eq2 ek2
      rintro i σ H4 hi ⟨o4, o6, o7, xs, rs, rfl, D4, b4, eq4, ek4, eR, hp, ri, li, nu⟩
      refine ⟨(by show 4 ≤ sizeLine; decide), fun L nL => ⟨.ref p, rfl, p, 4, rfl, D4.keep (same_new nL), by decide, by decide, fun d5 H5 l5 u5 D5 b5 => ?_⟩⟩
      have s5 : Same H4 (upd H4 L (.lst [V.int 1, .int 2, .int 2, .int 3])) := same_new nL
      have Lp : L ≠ p := by
        obtain ⟨_, _, _, e, _⟩ := D4
        exact fun z => by rw [z, e] at nL; cases nL
      obtain ⟨sN, esN, hs3⟩ : ∃ sN : Nat, ([V.int 1, .int 2, .int 2, .int 3])[d5.toNat]? = some (V.int sN) ∧ sN ≤ 3 := by
        have : d5 = 0 ∨ d5 = 1 ∨ d5 = 2 ∨ d5 = 3 := by omega
        rcases this with rfl | rfl | rfl | rfl
        · exact ⟨1, rfl, by omega⟩
        · exact ⟨2, rfl, by omega⟩
        · exact ⟨2, rfl, by omega⟩
        · exact ⟨3, rfl, by omega⟩
      refine ⟨L, _, d5, .int sN, rfl, rfl, SqL.of (b5 L _ Lp upd_same), at_of (j := d5.toNat) (by omega) esN, ?_⟩
      have b45 : Sb p H4 H5 := (Sb.of s5).trans b5
      have kp : kA ≠ p := kp0 D4 ek4
      have eq5 := b45 _ _ qp eq4
      have ek5 : StT H5 kA (ts.take n) := b45 _ _ kp ek4
      have eR5 := b45 _ _ Rp eR
      have hp5 := Paired.mapP hp fun x r z => RowV.sb z D4 b45
      have b5' := b4.trans b45
      clear b45 b5 s5 nL eR ek4 eq4 hp D4 b4 esN
      -- the fields
      refine ⟨.int sN, rfl, _, rfl, ?_, ?_, fun D nD => lc_rangeY (n := sN) (fun j H' => DealAt H' p ∧ Sb p H5 H' ∧ ∃ fs : List Str, H' D = some (.lst (fs.map V.str)) ∧ fs.length = j ∧ ∀ x ∈ fs, x ∈ ts.take n) (fun _ => rfl)
        ⟨D5.keep (same_new nD), Sb.new nD, [], upd_same, rfl, fun x hx => (by cases hx)⟩ ?_ ?_⟩
      · omega
      · omega
      · rintro j H6 hj ⟨D6, b6, fs, eD, lf, hf⟩
        have Dp : D ≠ p := by
          obtain ⟨_, _, _, e, _⟩ := D6
          exact fun z => by rw [z, e] at eD; obtain ⟨_, _, _, e5, _⟩ := D5; rw [z, e5] at nD; cases nD
        refine ⟨.ref kA, rfl, .ref p, rfl, .int (n : Nat), rfl, p, n, rfl, D6, by omega, by omega, fun d7 H7 l7 u7 D7 b7 => ?_⟩
        have hd : d7.toNat < (ts.take n).length := by rw [List.length_take]; omega
        refine ⟨kA, _, d7, .str (ts.take n)[d7.toNat], rfl, rfl, SqT.of (b7 _ _ kp (b6 _ _ kp ek5)), at_of (j := d7.toNat) (by omega) (by rw [List.getElem?_map, List.getElem?_eq_getElem hd]; rfl), _, b7 _ _ Dp eD, ?_, ?_, ?_, fs ++ [(ts.take n)[d7.toNat]], ?_, ?_, ?_⟩
        · rw [List.length_map]
          exact small1000 (by omega)
        · obtain ⟨x, y, u, e, l⟩ := D7
          exact ⟨x, y, u, by rw [upd_ne Dp.symm]; exact e, l⟩
        · intro b o nb e
          rw [upd_ne (ne_of_none e nD)]
          exact b7 b o nb (b6 b o nb e)
        · rw [upd_same, List.map_append]
          rfl
        · rw [List.length_append, lf]
          rfl
        · intro x hx
          rcases List.mem_append.mp hx with m | m
          · exact hf x m
          · rw [List.mem_singleton.mp m]
            exact List.getElem_mem hd
      · rintro H6 ⟨D6, b6, fs, eD, lf, hf⟩
        refine .inl ⟨D, _, rfl, SqL.of eD, fun fA nf => ?_⟩
        have s7 : Same H6 (upd H6 fA (.tup (fs.map V.str))) := same_new nf
        have efA : upd H6 fA (.tup (fs.map V.str)) fA = some (.tup (fs.map V.str)) := upd_same
        have D7 := D6.keep s7
        have b57 : Sb p H5 (upd H6 fA (.tup (fs.map V.str))) := b6.trans (.of s7)
        revert efA D7 b57
        generalize upd H6 fA (.tup (fs.map V.str)) = H7
        intro efA D7 b57
        have eR7 := b57 _ _ Rp eR5
        obtain ⟨wn, ewn⟩ : ∃ wn, ts[3 + n + i]? = some wn := ⟨_, List.getElem?_eq_getElem (by omega)⟩
        refine ⟨.ref R, rfl, .inl ⟨rfl, _, SqL.of eR7⟩, .ref q, rfl, .int (n : Nat), rfl, _, _, rfl, rfl, .int (0 + (i : Int)), rfl, _, _, rfl, rfl, q, _, _, .str wn, rfl, rfl, SqL.of (b57 _ _ qp eq5), ?_, .ref kA, rfl, .ref p, rfl, .int (n : Nat), rfl, p, n, rfl, D7, by omega, by omega, fun d8 H8 l8 u8 D8 b8 => ?_⟩
        · rw [show (3 : Int) + (n : Nat) + (0 + (i : Int)) = ((3 + n + i : Nat) : Int) by omega]
          exact atI_nat (by rw [List.getElem?_map, ewn]; rfl)
        have hd : d8.toNat < (ts.take n).length := by rw [List.length_take]; omega
        have b58 := b57.trans b8
        have fp' : fA ≠ p := deal_ne D7 efA
        have efA8 := b8 _ _ fp' efA
        have eR8 := b58 _ _ Rp eR5
        refine ⟨kA, _, d8, .str (ts.take n)[d8.toNat], rfl, rfl, SqT.of (b58 _ _ kp ek5), at_of (j := d8.toNat) (by omega) (by rw [List.getElem?_map, List.getElem?_eq_getElem hd]; rfl), .ref fA, rfl, ⟨(by show 3 ≤ sizeLine; decide), fun B nB => ?_⟩⟩
        have sB : Same H8 (upd H8 B (.tup [.str wn, .str (ts.take n)[d8.toNat], .ref fA])) := same_new nB
        have RB : B ≠ R := fun z => by rw [z, eR8] at nB; cases nB
        have RfA : fA ≠ R := fun z => by rw [z, eR8] at efA8; cases efA8
        have eR9 := sB _ _ eR8
        have lx : xs.length = rs.length := Paired.length hp5
        refine ⟨R, _, _, rfl, rfl, eR9, small1000 (by omega), some (.int (0 + (i : Int))), _, _, xs ++ [.ref B], rs ++ [(wn, (ts.take n)[d8.toNat], fs)], rfl, ?_, ?_, ?_, ?_, upd_same, paired_snoc (Paired.mapP hp5 fun x r z => ((RowV.sb z D5 b58).keep sB).but eR9 .set) ⟨B, fA, rfl, ?_, ?_⟩, ri.snoc ⟨hz _ (List.mem_of_getElem? ewn), List.getElem_mem hd, (by show fs.length ≤ 3; omega), hf⟩ ?_, ?_, fun j hj => ?_⟩
        · obtain ⟨x, y, u, e, l⟩ := D8.keep sB
          exact ⟨x, y, u, by rw [upd_ne Rp.symm]; exact e, l⟩
        · intro b o nb e
          rw [upd_ne (ne_of_none e nR0)]
          exact sB _ _ (b58 b o nb (b5' b o nb e))
        · rw [upd_ne qR]
          exact sB _ _ (b58 _ _ qp eq5)
        · show upd _ R _ kA = _
          rw [upd_ne (fun z => by have e : H5 kA = _ := ek5; rw [z, eR5] at e; cases e)]
          exact sB _ _ (b58 _ _ kp ek5)
        · rw [upd_ne RB, upd_same]
        · show upd _ R _ fA = _
          rw [upd_ne RfA]
          exact sB _ _ efA8
        · rw [List.getElem?_drop, li, ← ewn]
          congr 1
          omega
        · rw [List.length_append, li]
          simp
          omega
        · obtain ⟨r, er, e1, e2⟩ := nu j hj
          exact ⟨r, by rw [List.getElem?_append_left (by omega)]; exact er, e1, e2⟩
    · rintro σ H4 ⟨o4, o6, o7, xs, rs, rfl, D4, b4, eq4, ek4, eR, hp, ri, li, nu⟩
      exact rest _ _ ⟨o4, o6, o7, xs, rs, rfl, D4, b4, ek4, eR, hp, ri, by omega, by omega, nu⟩
  clear eR hp ri li nu eq2 ek2 D2 b2
  rintro σ G3 ⟨o4, o6, o7, xs, rs, rfl, D3, b3, ek3, eR, hp, ri, l6, ln, nu⟩
  have lx : xs.length = rs.length := Paired.length hp
  refine ⟨.ref p, rfl, .ref R, rfl, R, xs, rfl, .inl (SqL.of eR), p, _, rfl, D3, (by omega), (by omega), fun d5 H5 l5 u5 D5 b5 => ?_⟩
  obtain ⟨d, rfl⟩ := Int.eq_ofNat_of_zero_le l5
  have hd : d < xs.length := by omega
  have eR5 := b5 _ _ Rp eR
  have ek5 : StT H5 kA (ts.take n) := b5 _ _ (kp0 D3 ek3) ek3
  have hp5 := Paired.mapP hp fun x r z => RowV.sb z D3 b5
  refine ⟨.ref kA, rfl, .ref R, rfl, .int (d : Nat), rfl, _, rfl, R, _, rfl, SqL.of eR5, fun c1 n1 => ?_⟩
  have s1 : Same H5 (upd H5 c1 (.lst (cutV xs (some (d : Int)) none))) := same_new n1
  refine ⟨.ref R, rfl, .int (d : Nat), rfl, _, rfl, R, _, rfl, SqL.of (s1 _ _ eR5), fun c2 n2 => ?_⟩
  have s2 : Same (upd H5 c1 (.lst (cutV xs (some (d : Int)) none))) (upd (upd H5 c1 (.lst (cutV xs (some (d : Int)) none))) c2 (.lst (cutV xs none (some (d : Int))))) := same_new n2
  refine ⟨c1, c2, _, _, rfl, rfl, s2 _ _ upd_same, upd_same, ?_, fun c3 n3 => ?_⟩
  · have a1 := cutV_length xs (some (d : Int)) none
    have a2 := cutV_length xs none (some (d : Int))
    exact Nat.le_of_lt (small1000 (by omega))
  refine .inl ⟨c3, _, rfl, SqL.of upd_same, fun rA nrA => ⟨(by show 2 ≤ sizeLine; decide), fun M nM => ?_⟩⟩
  have s3 : Same H5 (upd (upd (upd H5 c1 (.lst (cutV xs (some (d : Int)) none))) c2 (.lst (cutV xs none (some (d : Int))))) c3 (.lst (cutV xs (some (d : Int)) none ++ cutV xs none (some (d : Int))))) := s1.trans (s2.trans (same_new n3))
  have s4 := s3.trans (same_new (o := .tup (cutV xs (some (d : Int)) none ++ cutV xs none (some (d : Int)))) nrA)
  have s5 := s4.trans (same_new (o := .tup [.ref kA, .ref rA]) nM)
  have perm := turned rs d
  have mem : ∀ r, r ∈ rs.drop d ++ rs.take d ↔ r ∈ rs := fun r => perm.mem_iff
  refine k M ⟨ts.take n, rs.drop d ++ rs.take d⟩ _ (D5.keep s5) (b3.trans (b5.trans (.of s5))) ⟨?_, ?_, ?_, ?_, ?_, ?_, ?_, ?_, ?_, ?_, ?_, ?_⟩ ⟨kA, rA, upd_same, s5 _ _ ek5, cutV xs (some (d : Int)) none ++ cutV xs none (some (d : Int)), same_new nM _ _ upd_same, ?_⟩
  · show 1 ≤ (ts.take n).length
    rw [List.length_take]; omega
  · show (ts.take n).length ≤ 4
    rw [List.length_take]; omega
  · exact fun z h => hz z (List.mem_of_mem_take h)
  · exact nd.sublist (List.take_sublist ..)
  · rw [perm.length_eq]; omega
  · rw [perm.length_eq]; omega
  · exact fun r h => (ri.ok r ((mem r).mp h)).n
  · have e : ((rs.drop d ++ rs.take d).map (·.1)).Perm (rs.map (·.1)) := perm.map _
    refine e.nodup_iff.mpr ?_
    rw [ri.nm]
    exact (nd.sublist (List.drop_sublist ..)).sublist (List.take_sublist ..)
  · exact fun r h => (ri.ok r ((mem r).mp h)).k
  · exact fun r h => (ri.ok r ((mem r).mp h)).l
  · exact fun r h => (ri.ok r ((mem r).mp h)).f
  · intro z h
    obtain ⟨j, hj, ej⟩ := List.getElem_of_mem h
    rw [List.length_take] at hj
    obtain ⟨r, er, e1, e2⟩ := nu j (by omega)
    refine ⟨r, (mem r).mpr (List.mem_of_getElem? er), ?_, e2⟩
    rw [List.getElem_take] at ej
    rw [List.getElem?_eq_getElem (by omega), ej] at e1
    exact (Option.some.inj e1).symm
  · have pr : Paired (RowV H5) (cutV xs (some (d : Int)) none ++ cutV xs none (some (d : Int))) (rs.drop d ++ rs.take d) := by
      rw [cut_drop (by omega), cut_take (by omega)]
      exact paired_app (paired_drop d hp5) (paired_take d hp5)
    exact Paired.mapP pr fun x r z => RowV.keep z s5
end
end Ks
set_option Elab.async false
set_option linter.all false
set_option maxRecDepth 100000
set_option maxHeartbeats 4000000
namespace Ks
open PySem PySem.Spec PyProof.Rows L2 Gd Kx
abbrev sBr : Stmt := Kx.topS 39
theorem scBr : FnScope ["_law_deal_here", "_law_row", "_law_odd", "_law_way"] ["_law_deal_here", "_law_row"] (defScope sBr) := ⟨rfl, rfl, rfl, by decide +kernel, rfl, by decide +kernel, by decide +kernel⟩
theorem deal_lst {H : Hp} {p : Addr} (D : DealAt H p) : ∃ zs, H p = some (.lst zs) := by
  obtain ⟨_, _, _, e, _⟩ := D
  exact ⟨_, e⟩
theorem Dv.sb {p : Addr} {H H' : Hp} {v : V} {d : PyData} (h : Dv p H v d) (D : DealAt H p) (s : Sb p H H') : Dv p H' v d := dv_sbv (deal_lst D) (.sb s) d v h
theorem DvAll.sb {p : Addr} {H H' : Hp} {v : List V} {d : List PyData} (h : DvAll p H v d) (D : DealAt H p) (s : Sb p H H') : DvAll p H' v d := dv_sbvAll (deal_lst D) (.sb s) d v h
/-- a row whose strings are not long -/
structure RwS (r : Rw) : Prop where
  l1 : r.1.length ≤ 1000
  l2 : r.2.1.length ≤ 1000
  l3 : ∀ z ∈ r.2.2, z.length ≤ 1000
  lf : r.2.2.length ≤ 3
section
variable {P : Program} {w : World} {K : PySem.W.Frag} {mg : Str → Option Value} {base : Heap}
def spBr : Sp := fun vs H Q _ => ∃ (p : Addr) (x : V) (r : Rw), vs = [.ref p, x] ∧ DealAt H p ∧ RowV H x r ∧ RwS r ∧ ∀ v d H', DealAt H' p → Sb p H H' → Dv p H' v d → Q v H'
theorem ok_br {f fp : Addr} {fd fdp : FuncData} (F : Fun K "_law_bent_row" "_law_bent_row" sBr f fd) (ml : mg "list" = none)
    (GP : FnOk P w K mg base CX0 1 fp fdp ["_law_deal_here", "_law_many"] spPick) (kp : PySem.W.keepIn K (.ref fp) = true) (bP : Binds K fdp ["_law_deal_here", "_law_many"] []) (gP : mg "_law_pick" = some (.ref fp)) :
    FnOk P w K mg base CX0 2 f fd ["_law_deal_here", "_law_row"] spBr := by
  refine F.ok scBr (fun vs H Q E h => ?_) (fun cv A ou s H vs Q E hr h => ?_)
  · obtain ⟨p, x, r, rfl, _⟩ := h
    rfl
  obtain ⟨p, x, r, rfl, hD, hx, hl, k⟩ := h
  refine ⟨_, pss_cons (ps_set (i := 2) scBr.nd rfl (.inl rfl) (pe_ix ix_list (pe_lst (pa_cons pe_non (pa_cons pe_int (pa_cons pe_str (pa_cons pe_str (pa_cons pe_str (pa_cons (pe_tup pa_nil) (pa_cons (pe_lst pa_nil) (pa_cons (pe_tup (pa_cons pe_str pa_nil)) (pa_cons pe_bl (pa_cons (pe_ix ix_tup (pv 1) pe_int (fun _ _ => rfl)) pa_nil))))))))))) (pe_call GP hr (by rfl) gP kp bP .nil pass0 (pa_cons (pv 0) (pa_cons pe_int pa_nil))) (fun _ _ => rfl)))
    (pss_cons (ps_set (i := 3) scBr.nd rfl (.inl rfl) (pe_call GP hr (by rfl) gP kp bP .nil pass0 (pa_cons (pv 0) (pa_cons pe_int pa_nil))))
    (pss_cons (ps_if (pt_cmpR op_eq (pv 3) pe_int (nomark _)) (pss_one (ps_ret (pe_tup (pa_cons (pv 2) (pa_cons (pe_ix ix_tup (pv 1) pe_int (fun _ _ => rfl)) (pa_cons (pe_ix ix_tup (pv 1) pe_int (fun _ _ => rfl)) pa_nil)))))) pss_nil)
    (pss_cons (ps_if (pt_cmpR op_eq (pv 3) pe_int (nomark _)) (pss_one (ps_ret (pe_tup (pa_cons (pe_ix ix_tup (pv 1) pe_int (fun _ _ => rfl)) (pa_cons (pv 2) (pa_cons (pe_ix ix_tup (pv 1) pe_int (fun _ _ => rfl)) pa_nil)))))) pss_nil)
    (pss_cons (ps_if (pt_cmpR op_eq (pv 3) pe_int (nomark _)) (pss_one (ps_ret (pe_tup (pa_cons (pe_ix ix_tup (pv 1) pe_int (fun _ _ => rfl)) (pa_cons (pe_ix ix_tup (pv 1) pe_int (fun _ _ => rfl)) (pa_cons (pe_op op_catA (pe_ix ix_tup (pv 1) pe_int (fun _ _ => rfl)) (pe_tup (pa_cons (pv 2) pa_nil))) pa_nil)))))) pss_nil)
    (pss_cons (ps_if (pt_cmpR op_eq (pv 3) pe_int (nomark _)) (pss_one (ps_ret (pe_tup (pa_cons (pe_ix ix_tup (pv 1) pe_int (fun _ _ => rfl)) (pa_cons (pe_ix ix_tup (pv 1) pe_int (fun _ _ => rfl)) (pa_cons (pe_op op_catA (pe_ix ix_tup (pv 1) pe_int (fun _ _ => rfl)) (pe_tup (pa_cons (pe_ix ix_tup (pv 1) pe_int (fun _ _ => rfl)) (pa_cons (pe_ix ix_tup (pv 1) pe_int (fun _ _ => rfl)) pa_nil)))) pa_nil)))))) pss_nil)
    (pss_cons (ps_if (pt_cmpR op_eq (pv 3) pe_int (nomark _)) (pss_one (ps_ret (pe_ix ix_list (pe_lst (pa_cons (pe_slice sl_tup (pv 1) po_none (po_some pe_int)) (pa_cons (pe_op op_catA (pv 1) (pe_tup (pa_cons (pe_ix ix_tup (pv 1) pe_int (fun _ _ => rfl)) pa_nil))) (pa_cons (pe_callTy call_list_of (by rfl) ml boot_list (pa_cons (pv 1) pa_nil)) (pa_cons (pv 2) pa_nil))))) (pe_call GP hr (by rfl) gP kp bP .nil pass0 (pa_cons (pv 0) (pa_cons pe_int pa_nil))) (fun _ _ => rfl)))) pss_nil)
    (pss_one (ps_ret (pe_ifExp (pt_cmpR op_eq (pv 3) pe_int (nomark _)) (pe_tup (pa_cons (pe_ix ix_tup (pv 1) pe_int (fun _ _ => rfl)) (pa_cons (pe_ix ix_tup (pv 1) pe_int (fun _ _ => rfl)) (pa_cons (pe_callTy call_list_of (by rfl) ml boot_list (pa_cons (pe_ix ix_tup (pv 1) pe_int (fun _ _ => rfl)) pa_nil)) pa_nil)))) (pv 1)))))))))), ?_⟩
  obtain ⟨b, f, rfl, hb0, hf0⟩ := id hx
  refine seq_join (fun σ G => ∃ (v : V) (d : PyData), σ = [some (.ref p), some (.ref b), some v, none] ∧ DealAt G p ∧ Sb p H G ∧ Dv p G v d) ?_ fun rest => ?_
  rotate_left
  · refine ⟨(by show 0 ≤ sizeLine; exact Nat.zero_le _), fun t nt => ⟨(by show 0 ≤ sizeLine; exact Nat.zero_le _), fun L nL => ⟨(by show 1 ≤ sizeLine; decide), fun u nu => ?_⟩⟩⟩
    have st := same_new (o := .tup []) nt
    have sL := same_new (o := .lst []) nL
    have su := same_new (o := .tup [.str "a"]) nu
    have s1 := st.trans (sL.trans su)
    refine ⟨.ref b, rfl, b, _, _, .str r.1, rfl, rfl, SqT.of (s1 _ _ hb0), rfl, (by show 10 ≤ sizeLine; decide), fun O nO => ⟨.ref p, rfl, p, 10, rfl, (hD.keep s1).keep (same_new nO), by decide, by decide, fun i H5 l5 u5 D5 b5 => ?_⟩⟩
    have sO := same_new (o := .lst [.non, .int 0, .str "", .str "A", .str "toolongname", .ref t, .ref L, .ref u, .bl true, .str r.1]) nO
    have Lp : L ≠ p := by
      obtain ⟨_, _, _, e, _⟩ := hD.keep st
      exact fun z => by rw [z, e] at nL; cases nL
    have Op : O ≠ p := by
      obtain ⟨_, _, _, e, _⟩ := hD.keep s1
      exact fun z => by rw [z, e] at nO; cases nO
    have all0 : DvAll p (upd (upd (upd (upd H t (.tup [])) L (.lst [])) u (.tup [.str "a"])) O (.lst [.non, .int 0, .str "", .str "A", .str "toolongname", .ref t, .ref L, .ref u, .bl true, .str r.1])) [.non, .int 0, .str "", .str "A", .str "toolongname", .ref t, .ref L, .ref u, .bl true, .str r.1] [.none, .int 0, .str "", .str "A", .str "toolongname", .tuple [], .list [], .tuple [.str "a"], .bool true, .str r.1] :=
      .cons .non (.cons (.int 0) (.cons (.str _ (by decide +kernel)) (.cons (.str _ (by decide +kernel)) (.cons (.str _ (by decide +kernel)) (.cons (.tup (sO _ _ (su _ _ (sL _ _ upd_same))) .nil) (.cons (.lst Lp (sO _ _ (su _ _ upd_same)) .nil) (.cons (.tup (sO _ _ upd_same) (.cons (.str _ (by decide +kernel)) .nil)) (.cons (.bl true) (.cons (.str _ hl.l1) .nil)))))))))
    have all5 := all0.sb ((hD.keep s1).keep sO) b5
    obtain ⟨v, hv⟩ : ∃ v, ([V.non, .int 0, .str "", .str "A", .str "toolongname", .ref t, .ref L, .ref u, .bl true, .str r.1] : List V)[i.toNat]? = some v := ⟨_, List.getElem?_eq_getElem (by show i.toNat < 10; omega)⟩
    obtain ⟨d, _, hd⟩ := all5.at hv
    exact ⟨O, _, i, v, rfl, rfl, SqL.of (b5 O _ Op upd_same), at_of (j := i.toNat) (by omega) hv, rest _ _ ⟨v, d, rfl, D5, (Sb.of (s1.trans sO)).trans b5, hd⟩⟩
  rintro σ G ⟨v, d, rfl, D1, b1, hv⟩
  refine seq_join (fun σ G' => ∃ (wy : Int), σ = [some (.ref p), some (.ref b), some v, some (.int wy)] ∧ DealAt G' p ∧ Sb p H G' ∧ Dv p G' v d) ?_ fun rest => ?_
  rotate_left
  · exact ⟨.ref p, rfl, p, 7, rfl, D1, by decide, by decide, fun i H5 l5 u5 D5 b5 => rest _ _ ⟨i, rfl, D5, b1.trans b5, hv.sb D1 b5⟩⟩
  clear D1 b1 hv
  rintro σ G1 ⟨wy, rfl, D1, b1, hv⟩
  have hb : G1 b = some (.tup [.str r.1, .str r.2.1, .ref f]) := b1 _ _ (deal_ne hD hb0) hb0
  have hf : StT G1 f r.2.2 := b1 _ _ (deal_ne hD hf0) hf0
  have fin : ∀ v d H', Same G1 H' → Dv p H' v d → Q v H' := fun v d H' s h => k v d H' (D1.keep s) (b1.trans (.of s)) h
  have i0 : atI [V.str r.1, .str r.2.1, .ref f] 0 = some (.str r.1) := rfl
  have i1 : atI [V.str r.1, .str r.2.1, .ref f] 1 = some (.str r.2.1) := rfl
  have i2 : atI [V.str r.1, .str r.2.1, .ref f] 2 = some (.ref f) := rfl
  have df : ∀ {H'}, Same G1 H' → Dv p H' (.ref f) (dSs r.2.2) := fun s => (dv_st hf hl.l3).keep s
  have dn : ∀ {H'}, Dv p H' (.str r.1) (.str r.1) := fun {H'} => .str _ hl.l1
  have dk : ∀ {H'}, Dv p H' (.str r.2.1) (.str r.2.1) := fun {H'} => .str _ hl.l2
  have dr : ∀ {H'}, Same G1 H' → Dv p H' (.ref b) (dRw r) := fun s => Dv.keep (.tup hb (.cons dn (.cons dk (.cons (df fun _ _ e => e) .nil)))) s
  have lf := hl.lf
  -- 0
  refine ⟨_, rfl, rfl, _, rfl, ite2 (fun _ => ?_) (fun _ => ?_)⟩
  · refine ⟨v, rfl, .ref b, rfl, b, _, _, .str r.2.1, rfl, rfl, SqT.of hb, i1, .ref b, rfl, b, _, _, .ref f, rfl, rfl, SqT.of hb, i2, (by show 3 ≤ sizeLine; decide), fun T nT => ?_⟩
    have s := same_new (H := G1) (o := .tup [v, .str r.2.1, .ref f]) nT
    exact fin _ _ _ s (.tup upd_same (.cons (hv.keep s) (.cons dk (.cons (df s) .nil))))
  refine ⟨_, rfl, rfl, _, rfl, ite2 (fun _ => ?_) (fun _ => ?_)⟩
  · refine ⟨.ref b, rfl, b, _, _, .str r.1, rfl, rfl, SqT.of hb, i0, v, rfl, .ref b, rfl, b, _, _, .ref f, rfl, rfl, SqT.of hb, i2, (by show 3 ≤ sizeLine; decide), fun T nT => ?_⟩
    have s := same_new (H := G1) (o := .tup [.str r.1, v, .ref f]) nT
    exact fin _ _ _ s (.tup upd_same (.cons dn (.cons (hv.keep s) (.cons (df s) .nil))))
  have cat : ∀ (H1 H2 : Hp) (W T : Addr) (ys : List V) (es : List PyData), Same G1 H1 → DvAll p H1 ys es → ys.length ≤ 2 → 1 ≤ ys.length → H1 W = some (.tup ys) → ∀ (Qc : VK), (∀ c dc H3, Same H1 H3 → Dv p H3 c dc → Qc c H3) → rCatA K (.ref f) (.ref W) H1 Qc := by
    intro H1 H2 W T ys es s1 hys l2 l1 eW Qc hq
    refine ⟨f, W, r.2.2.map V.str, ys, rfl, rfl, SqT.of (s1 _ _ hf), SqT.of eW, ?_, fun e => ?_, fun _ e => ?_, fun _ _ p' np => ?_⟩
    · rw [List.length_map]
      exact Nat.le_of_lt (small1000 (by omega))
    · exact hq _ _ H1 (fun _ _ e => e) (.tup eW hys)
    · rw [e] at l1
      cases l1
    · have s := same_new (H := H1) (o := .tup (r.2.2.map V.str ++ ys)) np
      exact hq _ _ _ s (.tup upd_same (((dv_strs hl.l3).app hys).keep s))
  -- 2
  refine ⟨_, rfl, rfl, _, rfl, ite2 (fun _ => ?_) (fun _ => ?_)⟩
  · refine ⟨.ref b, rfl, b, _, _, .str r.1, rfl, rfl, SqT.of hb, i0, .ref b, rfl, b, _, _, .str r.2.1, rfl, rfl, SqT.of hb, i1, .ref b, rfl, b, _, _, .ref f, rfl, rfl, SqT.of hb, i2, v, rfl, (by show 1 ≤ sizeLine; decide), fun W nW => ?_⟩
    have sW := same_new (H := G1) (o := .tup [v]) nW
    refine cat _ G1 W W [v] [d] sW (.cons (hv.keep sW) .nil) (by simp) (by simp) upd_same _ fun c dc H3 s3 hc => ⟨(by show 3 ≤ sizeLine; decide), fun T nT => ?_⟩
    have s := same_new (H := H3) (o := .tup [.str r.1, .str r.2.1, c]) nT
    exact fin _ _ _ (sW.trans (s3.trans s)) (.tup upd_same (.cons dn (.cons dk (.cons (hc.keep s) .nil))))
  -- 3
  refine ⟨_, rfl, rfl, _, rfl, ite2 (fun _ => ?_) (fun _ => ?_)⟩
  · refine ⟨.ref b, rfl, b, _, _, .str r.1, rfl, rfl, SqT.of hb, i0, .ref b, rfl, b, _, _, .str r.2.1, rfl, rfl, SqT.of hb, i1, .ref b, rfl, b, _, _, .ref f, rfl, rfl, SqT.of hb, i2, .ref b, rfl, b, _, _, .str r.2.1, rfl, rfl, SqT.of hb, i1, .ref b, rfl, b, _, _, .str r.2.1, rfl, rfl, SqT.of hb, i1, (by show 2 ≤ sizeLine; decide), fun W nW => ?_⟩
    have sW := same_new (H := G1) (o := .tup [.str r.2.1, .str r.2.1]) nW
    refine cat _ G1 W W [.str r.2.1, .str r.2.1] [.str r.2.1, .str r.2.1] sW (.cons dk (.cons dk .nil)) (by simp) (by simp) upd_same _ fun c dc H3 s3 hc => ⟨(by show 3 ≤ sizeLine; decide), fun T nT => ?_⟩
    have s := same_new (H := H3) (o := .tup [.str r.1, .str r.2.1, c]) nT
    exact fin _ _ _ (sW.trans (s3.trans s)) (.tup upd_same (.cons dn (.cons dk (.cons (hc.keep s) .nil))))
  -- 4
  refine ⟨_, rfl, rfl, _, rfl, ite2 (fun _ => ?_) (fun _ => ?_)⟩
  · refine ⟨.ref b, rfl, _, rfl, b, _, rfl, SqT.of hb, ?_, fun S nS => ?_⟩
    · rintro ⟨_, e⟩
      exact absurd e (by show ¬ (2 = 3); decide)
    have ec : cutV [V.str r.1, .str r.2.1, .ref f] none (some 2) = [V.str r.1, .str r.2.1] := rfl
    rw [ec]
    have sS := same_new (H := G1) (o := .tup [.str r.1, .str r.2.1]) nS
    refine ⟨.ref b, rfl, .ref b, rfl, b, _, _, .ref f, rfl, rfl, SqT.of (sS _ _ hb), i2, (by show 1 ≤ sizeLine; decide), fun W nW => ?_⟩
    have sW := same_new (o := .tup [.ref f]) nW
    have gW := sS.trans sW
    refine ⟨b, W, _, [.ref f], rfl, rfl, SqT.of (gW _ _ hb), SqT.of upd_same, (by show 3 + 1 ≤ sizeLine; decide), fun e => (by cases e), fun _ e => (by cases e), fun _ _ T nT => ?_⟩
    have sT := same_new (o := .tup ([.str r.1, .str r.2.1, .ref f] ++ [.ref f])) nT
    have gT := gW.trans sT
    refine ⟨.ref b, rfl, b, _, rfl, .inr (SqT.of (gT _ _ hb)), fun M nM => ?_⟩
    have Mp : M ≠ p := by
      obtain ⟨_, _, _, e, _⟩ := D1.keep gT
      exact fun z => by rw [z, e] at nM; cases nM
    have sM := same_new (o := .lst [.str r.1, .str r.2.1, .ref f]) nM
    have gM := gT.trans sM
    refine ⟨v, rfl, (by show 4 ≤ sizeLine; decide), fun O nO => ?_⟩
    have Op : O ≠ p := by
      obtain ⟨_, _, _, e, _⟩ := D1.keep gM
      exact fun z => by rw [z, e] at nO; cases nO
    have sO := same_new (o := .lst [.ref S, .ref T, .ref M, v]) nO
    have gO := gM.trans sO
    refine ⟨.ref p, rfl, p, 4, rfl, D1.keep gO, by decide, by decide, fun i H5 l5 u5 D5 b5 => ?_⟩
    have all0 : DvAll p _ [.ref S, .ref T, .ref M, v] [.tuple [.str r.1, .str r.2.1], .tuple ([.str r.1, .str r.2.1, dSs r.2.2] ++ [dSs r.2.2]), .list [.str r.1, .str r.2.1, dSs r.2.2], d] :=
      .cons (.tup (sO _ _ (sM _ _ (sT _ _ (sW _ _ upd_same)))) (.cons dn (.cons dk .nil))) (.cons (.tup (sO _ _ (sM _ _ upd_same)) (.cons dn (.cons dk (.cons (df gO) (.cons (df gO) .nil))))) (.cons (.lst Mp (sO _ _ upd_same) (.cons dn (.cons dk (.cons (df gO) .nil)))) (.cons (hv.keep gO) .nil)))
    have all5 := all0.sb (D1.keep gO) b5
    obtain ⟨v', hv'⟩ : ∃ v', ([V.ref S, .ref T, .ref M, v] : List V)[i.toNat]? = some v' := ⟨_, List.getElem?_eq_getElem (by show i.toNat < 4; omega)⟩
    obtain ⟨d', _, hd'⟩ := all5.at hv'
    exact ⟨O, _, i, v', rfl, rfl, SqL.of (b5 O _ Op upd_same), at_of (j := i.toNat) (by omega) hv', k v' d' H5 D5 (b1.trans ((Sb.of gO).trans b5)) hd'⟩
  -- 5
  refine ⟨_, rfl, rfl, _, rfl, ite2 (fun _ => ?_) (fun _ => ?_)⟩
  · refine ⟨.ref b, rfl, b, _, _, .str r.1, rfl, rfl, SqT.of hb, i0, .ref b, rfl, b, _, _, .str r.2.1, rfl, rfl, SqT.of hb, i1, .ref b, rfl, b, _, _, .ref f, rfl, rfl, SqT.of hb, i2, f, _, rfl, .inr (SqT.of hf), fun M nM => ⟨(by show 3 ≤ sizeLine; decide), fun T nT => ?_⟩⟩
    have Mp : M ≠ p := by
      obtain ⟨_, _, _, e, _⟩ := D1
      exact fun z => by rw [z, e] at nM; cases nM
    have sM := same_new (H := G1) (o := .lst (r.2.2.map V.str)) nM
    have s := same_new (o := .tup [.str r.1, .str r.2.1, .ref M]) nT
    exact fin _ _ _ (sM.trans s) (.tup upd_same (.cons dn (.cons dk (.cons (.lst Mp (s _ _ upd_same) (dv_strs hl.l3)) .nil))))
  · exact ⟨.ref b, rfl, fin _ _ G1 (fun _ _ e => e) (dr fun _ _ e => e)⟩
end
end Ks
set_option Elab.async false
set_option linter.all false
set_option maxRecDepth 100000
set_option maxHeartbeats 4000000
namespace Ks
open PySem PySem.Spec PyProof.Rows L2 Gd Kx
abbrev sBn : Stmt := Kx.topS 40
abbrev nBn : List Str := ["_law_deal_here", "_law_model_here", "_law_kinds_own", "_law_rows", "_law_way", "_law_at", "_law_odd"]
theorem scBn : FnScope nBn ["_law_deal_here", "_law_model_here"] (defScope sBn) := ⟨rfl, rfl, rfl, by decide +kernel, rfl, by decide +kernel, by decide +kernel⟩
theorem nm_1000 {z : Str} (h : nmS z = true) : z.length ≤ 1000 := Nat.le_trans (nm_len h).2 (by decide)
theorem Good.rws {m : Md} (g : Good m) {r : Rw} (h : r ∈ m.rs) : RwS r :=
  ⟨nm_1000 (g.rn r h), nm_1000 (g.kn _ (g.rk r h)), fun z hz => nm_1000 (g.kn z (g.fk r h z hz)), g.f3 r h⟩
theorem dv_rowsA {p : Addr} {H : Hp} : ∀ {rs : List Rw} {xs : List V}, Paired (RowV H) xs rs → (∀ r ∈ rs, RwS r) → DvAll p H xs (rs.map dRw)
  | [], _, .nil, _ => .nil
  | r :: rs, _, .cons h t, a => .cons (dv_row h (a r (List.mem_cons_self ..)).l1 (a r (List.mem_cons_self ..)).l2 (a r (List.mem_cons_self ..)).l3) (dv_rowsA t fun x hx => a x (List.mem_cons_of_mem _ hx))
theorem dv_rows {p c : Addr} {H : Hp} {rs : List Rw} (h : RowsT H c rs) (a : ∀ r ∈ rs, RwS r) : Dv p H (.ref c) (dRs rs) := by
  obtain ⟨xs, e, hp⟩ := h
  exact .tup e (dv_rowsA hp a)
section
variable {P : Program} {w : World} {K : PySem.W.Frag} {mg : Str → Option Value} {base : Heap}
/-- a part of a tuple -/
theorem sl_rd {p a : Addr} {H : Hp} {xs : List V} {ds : List PyData} {lo hi : Option Int} {Q : VK} (e : H a = some (.tup xs)) (h : DvAll p H xs ds) (hq : ∀ (c : Addr) (ys : List V) (es : List PyData) (H' : Hp), Same H H' → H' c = some (.tup ys) → DvAll p H' ys es → ys.length ≤ xs.length → Q (.ref c) H') : rSlA K (.ref a) lo hi H Q := by
  refine ⟨a, xs, rfl, SqT.of e, fun _ => hq a xs ds H (fun _ _ e => e) e h (Nat.le_refl _), fun _ p' np => ?_⟩
  have s := same_new (H := H) (o := .tup (cutV xs lo hi)) np
  exact hq p' _ _ _ s upd_same (((h.drop _).take _).keep s) (cutV_length xs lo hi)
/-- a tuple and another one -/
theorem cat_rd {p a c : Addr} {H : Hp} {xs ys : List V} {ds es : List PyData} {Q : VK} (e : H a = some (.tup xs)) (h : DvAll p H xs ds) (e2 : H c = some (.tup ys)) (h2 : DvAll p H ys es) (hl : xs.length + ys.length ≤ 1000) (hq : ∀ (u : Addr) (zs : List V) (gs : List PyData) (H' : Hp), Same H H' → H' u = some (.tup zs) → DvAll p H' zs gs → zs.length ≤ xs.length + ys.length → Q (.ref u) H') : rCatA K (.ref a) (.ref c) H Q := by
  refine ⟨a, c, xs, ys, rfl, rfl, SqT.of e, SqT.of e2, Nat.le_of_lt (small1000 hl), fun _ => hq c ys es H (fun _ _ e => e) e2 h2 (Nat.le_add_left ..), fun _ _ => hq a xs ds H (fun _ _ e => e) e h (Nat.le_add_right ..), fun _ _ p' np => ?_⟩
  have s := same_new (H := H) (o := .tup (xs ++ ys)) np
  exact hq p' _ _ _ s upd_same ((h.app h2).keep s) (by rw [List.length_append]; exact Nat.le_refl _)
def spBn : Sp := fun vs H Q _ => ∃ (p b : Addr) (m : Md), vs = [.ref p, .ref b] ∧ DealAt H p ∧ MdAt H b m ∧ Good m ∧ ∀ (T : Addr) (vk vr : V) (dk dr : PyData) (H' : Hp), DealAt H' p → Sb p H H' → H' T = some (.tup [vk, vr]) → Dv p H' vk dk → Dv p H' vr dr → Q (.ref T) H'
theorem ok_bn {f fp fb : Addr} {fd fdp fdb : FuncData} (F : Fun K "_law_bent" "_law_bent" sBn f fd) (ml : mg "list" = none) (mn : mg "len" = none)
    (GP : FnOk P w K mg base CX0 1 fp fdp ["_law_deal_here", "_law_many"] spPick) (kp : PySem.W.keepIn K (.ref fp) = true) (bP : Binds K fdp ["_law_deal_here", "_law_many"] []) (gP : mg "_law_pick" = some (.ref fp))
    (GB : FnOk P w K mg base CX0 2 fb fdb ["_law_deal_here", "_law_row"] spBr) (kb : PySem.W.keepIn K (.ref fb) = true) (bB : Binds K fdb ["_law_deal_here", "_law_row"] []) (gB : mg "_law_bent_row" = some (.ref fb)) :
    FnOk P w K mg base CX0 3 f fd ["_law_deal_here", "_law_model_here"] spBn := by
  refine F.ok scBn (fun vs H Q E h => ?_) (fun cv A ou s H vs Q E hr h => ?_)
  · obtain ⟨p, b, m, rfl, _⟩ := h
    rfl
  obtain ⟨p, b, m, rfl, hD, hM, g, k⟩ := h
  have hr1 : Room 1 (A.deeper (envOfC "_law_bent" (defScope sBn) s.heap.objs.size f cv)) := hr.mono (by decide)
  refine ⟨_, pss_cons (ps_asg (pv 1) (pg_tup (by rfl) (pgs_cons (pg_name (i := 2) scBn.nd rfl (.inl rfl)) (pgs_cons (pg_name (i := 3) scBn.nd rfl (.inl rfl)) pgs_nil))))
    (pss_cons (ps_par (i := 4) (j := 5) (by rfl) scBn.nd rfl rfl (by decide) rfl rfl (pa_cons (pe_call GP hr1 (by rfl) gP kp bP .nil pass0 (pa_cons (pv 0) (pa_cons pe_int pa_nil))) (pa_cons (pe_call GP hr1 (by rfl) gP kp bP .nil pass0 (pa_cons (pv 0) (pa_cons (pe_callB call_len_seq (by rfl) mn PySem.boot_len (pa_cons (pv 3) pa_nil)) pa_nil))) pa_nil)) (by rfl))
    (pss_cons (ps_if (pt_cmpR op_eq (pv 4) pe_int (nomark _))
      (pss_cons (ps_set (i := 6) scBn.nd rfl (.inl rfl) (pe_lst (pa_cons (pe_ix ix_tup (pv 2) pe_int (fun _ _ => rfl)) (pa_cons (pe_callTy call_list_of (by rfl) ml boot_list (pa_cons (pv 2) pa_nil)) (pa_cons (pe_tup pa_nil) (pa_cons (pe_op op_catA (pv 2) (pe_slice sl_tupA (pv 2) po_none (po_some pe_int))) (pa_cons (pe_op op_catA (pv 2) (pe_tup (pa_cons pe_non pa_nil))) (pa_cons (pe_tup (pa_cons pe_str pa_nil)) pa_nil))))))))
      (pss_one (ps_set (i := 2) scBn.nd rfl (.inl rfl) (pe_ix ix_list (pe_op op_cat (pv 6) (pe_lst (pa_cons (pe_tup (pa_cons pe_str (pa_cons pe_str (pa_cons pe_str (pa_cons pe_str (pa_cons pe_str pa_nil)))))) pa_nil))) (pe_call GP hr1 (by rfl) gP kp bP .nil pass0 (pa_cons (pv 0) (pa_cons pe_int pa_nil))) (fun _ _ => rfl))))) pss_nil)
    (pss_cons (ps_if (pt_cmpR op_eq (pv 4) pe_int (nomark _))
      (pss_one (ps_set (i := 3) scBn.nd rfl (.inl rfl) (pe_ix ix_list (pe_lst (pa_cons (pe_ix ix_tup (pv 3) pe_int (fun _ _ => rfl)) (pa_cons (pe_callTy call_list_of (by rfl) ml boot_list (pa_cons (pv 3) pa_nil)) (pa_cons (pe_tup pa_nil) (pa_cons (pe_op op_catA (pv 3) (pe_slice sl_tupA (pv 3) po_none (po_some pe_int))) (pa_cons pe_non (pa_cons pe_int (pa_cons (pe_op op_catA (pv 3) (pv 3)) pa_nil)))))))) (pe_call GP hr1 (by rfl) gP kp bP .nil pass0 (pa_cons (pv 0) (pa_cons pe_int pa_nil))) (fun _ _ => rfl)))) pss_nil)
    (pss_cons (ps_if (pt_cmpR op_gt (pv 4) pe_int (nomark _))
      (pss_one (ps_set (i := 3) scBn.nd rfl (.inl rfl) (pe_op op_catA (pe_op op_catA (pe_slice sl_tupA (pv 3) po_none (po_some (pv 5))) (pe_tup (pa_cons (pe_call GB hr (by rfl) gB kb bB .nil pass0 (pa_cons (pv 0) (pa_cons (pe_ix ix_tup (pv 3) (pv 5) (fun _ _ => rfl)) pa_nil))) pa_nil))) (pe_slice sl_tupA (pv 3) (po_some (pe_op op_add (pv 5) pe_int)) po_none)))) pss_nil)
    (pss_one (ps_ret (pe_tup (pa_cons (pv 2) (pa_cons (pv 3) pa_nil))))))))), ?_⟩
  obtain ⟨kA, rA, eb, hk0, hR0⟩ := id hM
  refine seq_join (fun σ G => σ = [some (.ref p), some (.ref b), some (.ref kA), some (.ref rA), none, none, none] ∧ H = G) ?_ fun rest => ?_
  rotate_left
  · exact ⟨.ref b, rfl, b, _, rfl, SqT.of eb, rfl, _, _, rfl, _, _, rfl, rfl, rest _ _ ⟨rfl, rfl⟩⟩
  rintro σ _ ⟨rfl, rfl⟩
  have dK0 : Dv p H (.ref kA) (dSs m.ks) := dv_st hk0 fun z hz => nm_1000 (g.kn z hz)
  have dR0 : Dv p H (.ref rA) (dRs m.rs) := dv_rows hR0 fun r hr => g.rws hr
  obtain ⟨rx, erx, hpx⟩ := id hR0
  have lr : rx.length = m.rs.length := Paired.length hpx
  have r1 := g.r1
  have r6 := g.r6
  have k1 := g.k1
  have k4 := g.k4
  refine seq_join (fun σ G => ∃ (wy : Int) (j : Nat), j < m.rs.length ∧ σ = [some (.ref p), some (.ref b), some (.ref kA), some (.ref rA), some (.int wy), some (.int (j : Nat)), none] ∧ DealAt G p ∧ Sb p H G) ?_ fun rest => ?_
  rotate_left
  · refine ⟨.ref p, rfl, p, 8, rfl, hD, by decide, by decide, fun i H5 l5 u5 D5 b5 => ⟨.ref p, rfl, .ref rA, rfl, rA, rx, rfl, .inr (SqT.of (b5 _ _ (deal_ne hD erx) erx)), p, _, rfl, D5, by omega, by omega, fun j H6 l6 u6 D6 b6 => ⟨_, _, rfl, ?_⟩⟩⟩
    obtain ⟨j', rfl⟩ := Int.eq_ofNat_of_zero_le l6
    exact rest _ _ ⟨i, j', by omega, rfl, D6, b5.trans b6⟩
  rintro σ G1 ⟨wy, j, hj, rfl, D1, b1⟩
  have hk1 : StT G1 kA m.ks := b1 _ _ (deal_ne hD (show H kA = some (.tup _) from hk0)) hk0
  have er1 : G1 rA = some (.tup rx) := b1 _ _ (deal_ne hD erx) erx
  have dK1 := dK0.sb hD b1
  have dR1 := dR0.sb hD b1
  have aK : ∀ {H'}, Same G1 H' → DvAll p H' (m.ks.map V.str) (m.ks.map PyData.str) := fun s => (dv_strs (fun z hz => nm_1000 (g.kn z hz)) : DvAll p G1 _ _).keep s
  have aR : DvAll p G1 rx (m.rs.map dRw) := by
    cases dR1 with
    | tup h1 h2 => rw [er1] at h1; cases h1; exact h2
  -- kinds
  refine seq_join (fun σ G => ∃ (vk : V) (dk : PyData) (o6 : Option V), σ = [some (.ref p), some (.ref b), some vk, some (.ref rA), some (.int wy), some (.int (j : Nat)), o6] ∧ DealAt G p ∧ Sb p G1 G ∧ Dv p G vk dk) ?_ fun rest => ?_
  rotate_left
  · refine ⟨_, rfl, rfl, _, rfl, ite2 (fun _ => ?_) (fun _ => ?_)⟩
    rotate_left
    · exact rest _ _ ⟨_, _, none, rfl, D1, .refl, dK1⟩
    obtain ⟨z0, ez0⟩ : ∃ z0, m.ks[0]? = some z0 := ⟨_, List.getElem?_eq_getElem (by omega)⟩
    have lz0 := nm_1000 (g.kn z0 (List.mem_of_getElem? ez0))
    have hk1' : G1 kA = some (.tup (m.ks.map V.str)) := hk1
    have lk : (m.ks.map V.str).length ≤ 4 := by rw [List.length_map]; exact k4
    refine ⟨.ref kA, rfl, kA, _, _, .str z0, rfl, rfl, SqT.of hk1, atI_nat (j := 0) (by rw [List.getElem?_map, ez0]; rfl), .ref kA, rfl, kA, _, rfl, .inr (SqT.of hk1), fun M nM => ?_⟩
    have Mp : M ≠ p := by
      obtain ⟨_, _, _, e, _⟩ := D1
      exact fun z => by rw [z, e] at nM; cases nM
    have sM := same_new (H := G1) (o := .lst (m.ks.map V.str)) nM
    refine ⟨(by show 0 ≤ sizeLine; exact Nat.zero_le _), fun U nU => ?_⟩
    have sU := same_new (o := .tup []) nU
    have gU := sM.trans sU
    refine ⟨.ref kA, rfl, .ref kA, rfl, _, rfl, sl_rd (gU _ _ hk1') (aK gU) fun c ys es H2 s2 ec hc lc => cat_rd ((gU.trans s2) _ _ hk1') (aK (gU.trans s2)) ec hc (by omega) fun c1 zs1 gs1 H3 s3 ec1 hc1 lc1 => ?_⟩
    have g3 := gU.trans (s2.trans s3)
    refine ⟨.ref kA, rfl, (by show 1 ≤ sizeLine; decide), fun N nN => ?_⟩
    have sN := same_new (o := .tup [.non]) nN
    have g4 := g3.trans sN
    refine cat_rd (g4 _ _ hk1') (aK g4) upd_same (.cons .non .nil) (by rw [List.length_singleton]; omega) fun c2 zs2 gs2 H5 s5 ec2 hc2 lc2 => ?_
    refine ⟨(by show 1 ≤ sizeLine; decide), fun A1 nA => ?_⟩
    have sA := same_new (H := H5) (o := .tup [.str "A"]) nA
    have g5 := g4.trans (s5.trans sA)
    refine ⟨(by show 6 ≤ sizeLine; decide), fun O nO => ?_⟩
    have sO := same_new (o := .lst [.str z0, .ref M, .ref U, .ref c1, .ref c2, .ref A1]) nO
    have g6 := g5.trans sO
    refine ⟨.ref O, rfl, (by show 5 ≤ sizeLine; decide), fun B nB => ?_⟩
    have sB := same_new (o := .tup [.str "a", .str "b", .str "c", .str "d", .str "e"]) nB
    refine ⟨(by show 1 ≤ sizeLine; decide), fun W nW => ?_⟩
    have sW := same_new (o := .lst [.ref B]) nW
    refine ⟨O, W, _, _, rfl, rfl, sW _ _ (sB _ _ upd_same), upd_same, (by show 6 + 1 ≤ sizeLine; decide), fun J nJ => ?_⟩
    have sJ := same_new (o := .lst ([.str z0, .ref M, .ref U, .ref c1, .ref c2, .ref A1] ++ [.ref B])) nJ
    have gJ := g6.trans (sB.trans (sW.trans sJ))
    have Jp : J ≠ p := by
      obtain ⟨_, _, _, e, _⟩ := D1.keep (g6.trans (sB.trans sW))
      exact fun z => by rw [z, e] at nJ; cases nJ
    refine ⟨.ref p, rfl, p, 7, rfl, D1.keep gJ, by decide, by decide, fun i H7 l7 u7 D7 b7 => ?_⟩
    have tO := sO.trans (sB.trans (sW.trans sJ))
    have all0 : DvAll p _ [.str z0, .ref M, .ref U, .ref c1, .ref c2, .ref A1, .ref B] [.str z0, .list (m.ks.map PyData.str), .tuple [], .tuple gs1, .tuple gs2, .tuple [.str "A"], .tuple [.str "a", .str "b", .str "c", .str "d", .str "e"]] :=
      .cons (.str _ lz0) (.cons (.lst Mp (((sU.trans (s2.trans (s3.trans (sN.trans (s5.trans sA))))).trans tO) _ _ upd_same) (aK gJ)) (.cons (.tup (((s2.trans (s3.trans (sN.trans (s5.trans sA)))).trans tO) _ _ upd_same) .nil)
        (.cons (.tup (((sN.trans (s5.trans sA)).trans tO) _ _ ec1) (hc1.keep ((sN.trans (s5.trans sA)).trans tO))) (.cons (.tup ((sA.trans tO) _ _ ec2) (hc2.keep (sA.trans tO))) (.cons (.tup (tO _ _ upd_same) (.cons (.str _ (by decide +kernel)) .nil))
        (.cons (.tup ((sW.trans sJ) _ _ upd_same) (.cons (.str _ (by decide +kernel)) (.cons (.str _ (by decide +kernel)) (.cons (.str _ (by decide +kernel)) (.cons (.str _ (by decide +kernel)) (.cons (.str _ (by decide +kernel)) .nil)))))) .nil))))))
    have all7 := all0.sb (D1.keep gJ) b7
    obtain ⟨v', hv'⟩ : ∃ v', ([V.str z0, .ref M, .ref U, .ref c1, .ref c2, .ref A1, .ref B] : List V)[i.toNat]? = some v' := ⟨_, List.getElem?_eq_getElem (by show i.toNat < 7; omega)⟩
    obtain ⟨d', _, hd'⟩ := all7.at hv'
    exact ⟨J, _, i, v', rfl, rfl, SqL.of (b7 J _ Jp upd_same), at_of (j := i.toNat) (by omega) hv', rest _ _ ⟨v', d', _, rfl, D7, (Sb.of gJ).trans b7, hd'⟩⟩
  rintro σ G2 ⟨vk, dk, o6, rfl, D2, b2, hvk⟩
  have er2 : G2 rA = some (.tup rx) := b2 _ _ (deal_ne D1 er1) er1
  have aR2 := aR.sb D1 b2
  -- rows
  refine seq_join (fun σ G => ∃ (vr : V) (dr : PyData), (wy > 3 → vr = .ref rA) ∧ σ = [some (.ref p), some (.ref b), some vk, some vr, some (.int wy), some (.int (j : Nat)), o6] ∧ DealAt G p ∧ Sb p G2 G ∧ Dv p G vr dr) ?_ fun rest => ?_
  rotate_left
  · refine ⟨_, rfl, rfl, _, rfl, ite2 (fun ew => ?_) (fun _ => ?_)⟩
    rotate_left
    · exact rest _ _ ⟨_, _, fun _ => rfl, rfl, D2, .refl, .tup er2 aR2⟩
    have w1 : wy = 1 := by
      have := of_decide_eq_true ew
      injection this
    obtain ⟨x0, ex0⟩ : ∃ x0, rx[0]? = some x0 := ⟨_, List.getElem?_eq_getElem (by omega)⟩
    obtain ⟨d0, _, hd0⟩ := aR2.at ex0
    refine ⟨.ref rA, rfl, rA, _, _, x0, rfl, rfl, SqT.of er2, atI_nat (j := 0) ex0, .ref rA, rfl, rA, _, rfl, .inr (SqT.of er2), fun M nM => ?_⟩
    have Mp : M ≠ p := by
      obtain ⟨_, _, _, e, _⟩ := D2
      exact fun z => by rw [z, e] at nM; cases nM
    have sM := same_new (H := G2) (o := .lst rx) nM
    refine ⟨(by show 0 ≤ sizeLine; exact Nat.zero_le _), fun U nU => ?_⟩
    have sU := same_new (o := .tup []) nU
    have gU := sM.trans sU
    refine ⟨.ref rA, rfl, .ref rA, rfl, _, rfl, sl_rd (gU _ _ er2) (aR2.keep gU) fun c ys es H2 s2 ec hc lc => cat_rd ((gU.trans s2) _ _ er2) (aR2.keep (gU.trans s2)) ec hc (by omega) fun c1 zs1 gs1 H3 s3 ec1 hc1 lc1 => ?_⟩
    have g3 := gU.trans (s2.trans s3)
    refine ⟨.ref rA, rfl, .ref rA, rfl, cat_rd (g3 _ _ er2) (aR2.keep g3) (g3 _ _ er2) (aR2.keep g3) (by omega) fun c2 zs2 gs2 H5 s5 ec2 hc2 lc2 => ?_⟩
    have g5 := g3.trans s5
    refine ⟨(by show 7 ≤ sizeLine; decide), fun O nO => ?_⟩
    have sO := same_new (o := .lst [x0, .ref M, .ref U, .ref c1, .non, .int 0, .ref c2]) nO
    have g6 := g5.trans sO
    have Op : O ≠ p := by
      obtain ⟨_, _, _, e, _⟩ := D2.keep g5
      exact fun z => by rw [z, e] at nO; cases nO
    refine ⟨.ref p, rfl, p, 7, rfl, D2.keep g6, by decide, by decide, fun i H7 l7 u7 D7 b7 => ?_⟩
    have all0 : DvAll p _ [x0, .ref M, .ref U, .ref c1, .non, .int 0, .ref c2] [d0, .list (m.rs.map dRw), .tuple [], .tuple gs1, .none, .int 0, .tuple gs2] :=
      .cons (hd0.keep g6) (.cons (.lst Mp ((sU.trans (s2.trans (s3.trans (s5.trans sO)))) _ _ upd_same) (aR2.keep g6)) (.cons (.tup ((s2.trans (s3.trans (s5.trans sO))) _ _ upd_same) .nil)
        (.cons (.tup ((s5.trans sO) _ _ ec1) (hc1.keep (s5.trans sO))) (.cons .non (.cons (.int 0) (.cons (.tup (sO _ _ ec2) (hc2.keep sO)) .nil))))))
    have all7 := all0.sb (D2.keep g6) b7
    obtain ⟨v', hv'⟩ : ∃ v', ([x0, .ref M, .ref U, .ref c1, .non, .int 0, .ref c2] : List V)[i.toNat]? = some v' := ⟨_, List.getElem?_eq_getElem (by show i.toNat < 7; omega)⟩
    obtain ⟨d', _, hd'⟩ := all7.at hv'
    exact ⟨O, _, i, v', rfl, rfl, SqL.of (b7 O _ Op upd_same), at_of (j := i.toNat) (by omega) hv', rest _ _ ⟨v', d', fun h => (by omega), rfl, D7, (Sb.of g6).trans b7, hd'⟩⟩
  rintro σ G3 ⟨vr, dr, hw, rfl, D3, b3, hvr⟩
  have hvk3 := hvk.sb D2 b3
  have er3 : G3 rA = some (.tup rx) := b3 _ _ (deal_ne D2 er2) er2
  have aR3 := aR2.sb D2 b3
  have hpx3 : Paired (RowV G3) rx m.rs := Paired.mapP (Paired.mapP (Paired.mapP hpx fun x r z => RowV.sb z hD b1) fun x r z => RowV.sb z D1 b2) fun x r z => RowV.sb z D2 b3
  -- a row bent
  refine seq_join (fun σ G => ∃ (vr : V) (dr : PyData), σ = [some (.ref p), some (.ref b), some vk, some vr, some (.int wy), some (.int (j : Nat)), o6] ∧ DealAt G p ∧ Sb p G3 G ∧ Dv p G vr dr) ?_ fun rest => ?_
  rotate_left
  · refine ⟨_, rfl, _, _, rfl, rfl, _, rfl, ite2 (fun ew => ?_) (fun _ => ?_)⟩
    rotate_left
    · exact rest _ _ ⟨vr, dr, rfl, D3, .refl, hvr⟩
    have w3 : vr = .ref rA := hw (of_decide_eq_true ew)
    subst w3
    obtain ⟨xj, exj⟩ : ∃ xj, rx[j]? = some xj := ⟨_, List.getElem?_eq_getElem (by omega)⟩
    obtain ⟨rj, erj, hrj⟩ : ∃ r, m.rs[j]? = some r ∧ RowV G3 xj r := by
      obtain ⟨r, h1, bb, ff, h2, h3, h4⟩ := rows_at hpx3 exj
      exact ⟨r, h1, bb, ff, h2, h3, h4⟩
    have hl := g.rws (List.mem_of_getElem? erj)
    refine ⟨.ref rA, rfl, .int (j : Nat), rfl, _, rfl, sl_rd er3 aR3 fun c ys es H2 s2 ec hc lc => ?_⟩
    refine ⟨.ref p, rfl, .ref rA, rfl, .int (j : Nat), rfl, rA, _, _, xj, rfl, rfl, SqT.of (s2 _ _ er3), atI_nat exj, p, xj, rj, rfl, D3.keep s2, hrj.keep s2, hl, fun v' d' H5 D5 b5 hv' => ?_⟩
    refine ⟨(by show 1 ≤ sizeLine; decide), fun W nW => ?_⟩
    have sW := same_new (H := H5) (o := .tup [v']) nW
    have ec5 : H5 c = some (.tup ys) := b5 _ _ (deal_ne (D3.keep s2) ec) ec
    have hc5 := hc.sb (D3.keep s2) b5
    refine cat_rd (sW _ _ ec5) (hc5.keep sW) upd_same (.cons (hv'.keep sW) .nil) (by rw [List.length_singleton]; omega) fun c1 zs1 gs1 H6 s6 ec1 hc1 lc1 => ?_
    have g6 := sW.trans s6
    have er5 : H5 rA = some (.tup rx) := b5 _ _ (deal_ne (D3.keep s2) (s2 _ _ er3)) (s2 _ _ er3)
    have aR5 := (aR3.keep s2).sb (D3.keep s2) b5
    rw [List.length_singleton] at lc1
    refine ⟨.ref rA, rfl, .int (j : Nat), rfl, _, _, rfl, rfl, _, rfl, ?_⟩
    dsimp only [L2.tNoPart]
    refine sl_rd (g6 _ _ er5) (aR5.keep g6) fun c2 ys2 es2 H7 s7 ec2 hc2 lc2 => cat_rd (s7 _ _ ec1) (hc1.keep s7) ec2 hc2 (by omega) fun c3 zs3 gs3 H8 s8 ec3 hc3 _ => ?_
    have g8 := g6.trans (s7.trans s8)
    exact rest _ _ ⟨.ref c3, _, rfl, D5.keep g8, (Sb.of s2).trans (b5.trans (.of g8)), .tup ec3 hc3⟩
  rintro σ G4 ⟨vr', dr', rfl, D4, b4, hvr'⟩
  have hvk4 := hvk3.sb D3 b4
  refine ⟨vk, rfl, vr', rfl, (by show 2 ≤ sizeLine; decide), fun T nT => ?_⟩
  have sT := same_new (H := G4) (o := .tup [vk, vr']) nT
  exact k T vk vr' dk dr' _ (D4.keep sT) (b1.trans (b2.trans (b3.trans (b4.trans (.of sT))))) upd_same (hvk4.keep sT) (hvr'.keep sT)
end
end Ks
set_option Elab.async false
set_option linter.all false
set_option maxRecDepth 100000
set_option maxHeartbeats 4000000
/-! a law's end with tables of code objects, over promises that hold while no repr is under way -/
namespace Gd
open PySem PySem.Spec PyProof.Rows L2 LamX
theorem law_goT {P : Program} {w : World} {K : PySem.W.Frag} {mg mb : Str → Option Value} {k : Nat} {fa a : Addr} {cs : List (Addr × Addr)} {fd : FuncData} {x : Str} {sp : Sp} {s1 : Shared} {vs : List Value} {ns : List Int}
    (KX : K.In s1.heap) (hm : s1.heap.Ns mainGlobals mg) (hb : s1.heap.Ns builtinsNs mb) (hbb : ∀ x : Str, x ≠ "__name__" → mb x = bootBuiltins x) (hlim : s1.heap.NoLimit) (hg : s1.gens = #[])
    (ct : ∀ p ∈ cs, s1.heap.get? p.2 = some { cls := .none, data := .fields #[] }) (cK : ∀ p ∈ cs, K.lookup p.2 = none) (cd : ∀ p ∈ cs, PySem.W.CodeHd s1.heap p.1 p.2)
    (bi : ∃ bm ob, mg "__builtins__" = some (.ref bm) ∧ bm ≠ builtinsNs ∧ s1.heap.get? bm = some ob ∧ ob.cls = .type "module" ∧ ob.dict = some builtinsNs ∧ ob.data = .plain)
    (ha : s1.heap.get? a = some { cls := .type "list", data := .seq vs.toArray }) (hi : IntsAre vs ns) (hl : ns.length ≤ sizeLine) (hR : Room k callerA)
    (F : ∀ base : Heap, K.In base → base.Ns mainGlobals mg → (∀ p ∈ cs, TabB base mg p.1 p.2) → Pr P w K mg base CX0 k fa fd [x] sp) (hbind : ∀ (s : Shared) (u : Value), BindsTo s fd ⟨[u], []⟩ [(x, u)])
    (hsp : ∀ H : Hp, (∀ p ∈ cs, H p.2 = some (.tbl #[])) → SqL K H a (ns.map V.int) → sp [.ref a] H (fun v _ => v = .bl true) fun _ _ _ => False) :
    codeAny (model P w) callerA (.call (.ref fa) ⟨[.ref a], []⟩) (fun r s' => r = .ok (.ret (.bool true)) ∧ OldK s1.heap s'.heap ∧ s'.os = s1.os ∧ AllBare s'.gens) s1 := by
  have rv := vals_ints hi
  have main : ∀ H : Hp, (∀ b, H b = none ∨ (b = a ∧ ∃ ob xs, H b = some (.frz ob (.lst xs))) ∨ ((∃ p ∈ cs, b = p.2) ∧ H b = some (.tbl #[]))) → (∀ p ∈ cs, H p.2 = some (.tbl #[])) → SqL K H a (ns.map V.int) → HOk P w H s1.heap → (H a ≠ none → K.lookup a = none) →
      codeAny (model P w) callerA (.call (.ref fa) ⟨[.ref a], []⟩) (fun r s' => r = .ok (.ret (.bool true)) ∧ OldK s1.heap s'.heap ∧ s'.os = s1.os ∧ AllBare s'.gens) s1 := by
    intro H hO hT hS hok ok
    have none_of : ∀ {b : Addr} {o : Obj}, s1.heap.get? b = some o → o.data ≠ .seq vs.toArray 0 → o.data ≠ .fields #[] → H b = none := by
      intro b o e n1 n2
      rcases hO b with z | ⟨rfl, _⟩ | ⟨⟨p, hp, rfl⟩, _⟩
      · exact z
      · rw [ha] at e
        cases e
        exact absurd rfl n1
      · rw [ct p hp] at e
        cases e
        exact absurd rfl n2
    have stay : ∀ {b : Addr} {o : Obj}, s1.heap.get? b = some o → H b = none → (hidT s1.heap H).get? b = some o := fun e n => hidT_get e n
    have ns_of : ∀ {b : Addr} {m : Str → Option Value}, s1.heap.Ns b m → (hidT s1.heap H).Ns b m := by
      rintro b m ⟨o, es, ep, e, d, r⟩
      exact ⟨o, es, ep, stay e (none_of e (by rw [d]; intro z; cases z) (by rw [d]; intro z; cases z)), d, r⟩
    have inK : K.In (hidT s1.heap H) := by
      intro b o e
      refine stay (KX b o e) ?_
      rcases hO b with z | ⟨rfl, z⟩ | ⟨⟨p, hp, rfl⟩, _⟩
      · exact z
      · obtain ⟨ob, xs, z⟩ := z
        rw [ok (by rw [z]; simp)] at e
        cases e
      · rw [cK p hp] at e
        cases e
    have tb : ∀ p ∈ cs, TabB (hidT s1.heap H) mg p.1 p.2 := by
      intro p hp
      obtain ⟨o, xs, file, tf, flags, tg, inF, text, tt, e1, e2, e3, e4, r⟩ := cd p hp
      have n2 : xs ≠ #[] := fun z => by rw [z] at e4; cases e4
      have gne : mainGlobals ≠ p.2 := fun z => by
        obtain ⟨o', es, ep, e, d, _⟩ := hm
        rw [z, ct p hp] at e
        cases e
        cases d
      refine ⟨⟨o, xs, file, tf, flags, tg, inF, text, tt, stay e1 (none_of e1 (by rw [e3]; intro z; cases z) (by rw [e3]; intro z; injection z with z; exact n2 z)), e2, e3, e4, r⟩, ?_, gne⟩
      obtain ⟨bm, ob, b1, b2, b3, b4, b5, b6⟩ := bi
      refine ⟨bm, ob, b1, b2, ?_, ?_, stay b3 (none_of b3 (by rw [b6]; intro z; cases z) (by rw [b6]; intro z; cases z)), b4, b5, b6⟩
      · rintro rfl
        obtain ⟨o', es, ep, e, d, _⟩ := hm
        rw [b3] at e
        cases e
        rw [b6] at d
        cases d
      · rintro rfl
        rw [ct p hp] at b3
        cases b3
        cases b6
    obtain ⟨mc, l1, l2⟩ := hlim
    have hM : Mod K mg (hidT s1.heap H) := ⟨inK, ns_of hm, ⟨mb, ns_of hb, hbb⟩, ⟨mc, ns_of l1, l2⟩⟩
    have e0 : Env0 P w K mg (hidT s1.heap H) callerA [] s1 H :=
      ⟨rfl, hM, fun b o e => of_hidT e, Nat.le_of_eq (hidT_size _ _), trivial, fun b z => by simp [frs] at z, hok, .of_eq hg⟩
    refine codeAny_mono ((F _ inK (ns_of hm) tb).go callerA [] s1 H ⟨[.ref a], []⟩ [.ref a] [.ref a] _ _ rfl hR e0 (hbind s1 (.ref a)) (.cons rfl .nil) (hsp H hT hS)) fun r s2 h => ?_
    match r, h with
    | .error e, h => exact False.elim h
    | .ok .next, h => exact False.elim h
    | .ok .brk, h => exact False.elim h
    | .ok .cont, h => exact False.elim h
    | .ok (.ret u), ⟨v, H', os, bare, un, hok', r', q⟩ =>
      have q' : v = .bl true := q
      subst q'
      have r2 : u = Value.bool true := r'
      subst r2
      refine ⟨rfl, ⟨fun b o e => ?_, fun b o e => ?_⟩, os, bare⟩
      · rcases hO b with z | ⟨rfl, ob, xs, z⟩ | ⟨⟨p, hp, rfl⟩, z⟩
        · exact .inl (un.keep b o e z (by simp [frs]) (by simp))
        · have z2 := un.frzs b ob _ z
          have g1 := (hok b _ z).1
          have g2 := (hok' b _ z2).1
          rw [e] at g1
          cases g1
          exact .inl g2
        · obtain ⟨more, z2⟩ := un.tbls _ _ z
          obtain ⟨oc, xs, _, _, _, _, _, _, _, e1, e2, e3, e4, _⟩ := cd p hp
          rw [ct p hp] at e
          cases e
          refine .inr (.inl ⟨⟨p.1, oc, xs, e1, e2, e3, e4⟩, rfl, #[], more, rfl, ?_⟩)
          have := hok' p.2 _ z2
          exact this
      · exact un.there b o e (by simp)
  have cta : ∀ p ∈ cs, p.2 ≠ a := fun p hp z => by
    have := ct p hp
    rw [z, ha] at this
    cases this
  cases hk : K.lookup a with
  | some o =>
    have e := KX a o hk
    rw [ha] at e
    cases e
    refine main (fun b => if b ∈ cs.map (·.2) then some (.tbl #[]) else none) (fun b => ?_) (fun p hp => if_pos (List.mem_map.mpr ⟨p, hp, rfl⟩)) (.inr ⟨_, vs.toArray, _, hk, rfl, rfl, rfl, by rw [List.size_toArray, hi.length]; exact hl, by simpa using rv⟩) (fun b u z => ?_) (fun z => absurd (if_neg fun h => by obtain ⟨p, hp, e⟩ := List.mem_map.mp h; exact cta p hp e) z)
    · by_cases hb : b ∈ cs.map (·.2)
      · obtain ⟨p, hp, e⟩ := List.mem_map.mp hb
        exact .inr (.inr ⟨⟨p, hp, e.symm⟩, if_pos hb⟩)
      · exact .inl (if_neg hb)
    · by_cases hb : b ∈ cs.map (·.2)
      · cases (if_pos hb).symm.trans z
        obtain ⟨p, hp, rfl⟩ := List.mem_map.mp hb
        exact ct p hp
      · cases (if_neg hb).symm.trans z
  | none =>
    have nta : ∀ {b}, b = a → ¬ b ∈ cs.map (·.2) := fun e h => by
      obtain ⟨p, hp, z⟩ := List.mem_map.mp h
      exact cta p hp (z.trans e)
    have at_ : (fun b => if b = a then some (HO.frz { cls := .type "list", data := .seq vs.toArray } (.lst (ns.map V.int))) else if b ∈ cs.map (·.2) then some (.tbl #[]) else none) a = some (HO.frz { cls := .type "list", data := .seq vs.toArray } (.lst (ns.map V.int))) := if_pos rfl
    refine main (fun b => if b = a then some (HO.frz { cls := .type "list", data := .seq vs.toArray } (.lst (ns.map V.int))) else if b ∈ cs.map (·.2) then some (.tbl #[]) else none) (fun b => ?_) (fun p hp => ?_) (.inl (.inr ⟨_, at_⟩)) (fun b u z => ?_) fun _ => hk
    · by_cases hb : b = a
      · exact .inr (.inl ⟨hb, _, _, if_pos hb⟩)
      · by_cases hc : b ∈ cs.map (·.2)
        · obtain ⟨p, hp, e⟩ := List.mem_map.mp hc
          exact .inr (.inr ⟨⟨p, hp, e.symm⟩, (if_neg hb).trans (if_pos hc)⟩)
        · exact .inl ((if_neg hb).trans (if_neg hc))
    · exact (if_neg (cta p hp)).trans (if_pos (List.mem_map.mpr ⟨p, hp, rfl⟩))
    · by_cases hb : b = a
      · subst hb
        cases at_.symm.trans z
        exact ⟨ha, by rw [List.length_map]; exact hl, vs, _, rv, ha⟩
      · by_cases hc : b ∈ cs.map (·.2)
        · cases ((if_neg hb).trans (if_pos hc)).symm.trans z
          obtain ⟨p, hp, rfl⟩ := List.mem_map.mp hc
          exact ct p hp
        · cases ((if_neg hb).trans (if_neg hc)).symm.trans z
/-- what is to be known of the law's def -/
def LawT (l : PySem.W.OpenLaw) (w : World) (K : PySem.W.Frag) (k n : Nat) (x : Str) (mg : Str → Option Value) (fa : Addr) (h : Heap) : Prop :=
  ∃ (fd : FuncData) (cs : List (Addr × Addr)) (sp : Sp), (∀ p ∈ cs, h.get? p.2 = some { cls := .none, data := .fields #[] }) ∧ (∀ p ∈ cs, K.lookup p.2 = none) ∧ (∀ p ∈ cs, PySem.W.CodeHd h p.1 p.2) ∧
    (∀ (s : Shared) (u : Value), BindsTo s fd ⟨[u], []⟩ [(x, u)]) ∧
    (∀ (H : Hp) (a : Addr) (ns : List Int), ns.length ≤ n → (∀ p ∈ cs, H p.2 = some (.tbl #[])) → SqL K H a (ns.map V.int) → sp [.ref a] H (fun v _ => v = .bl true) fun _ _ _ => False) ∧
    ∀ base : Heap, K.In base → base.Ns mainGlobals mg → (∀ p ∈ cs, TabB base mg p.1 p.2) → Pr l.prog w K mg base CX0 k fa fd [x] sp
theorem walk_goT {l : PySem.W.OpenLaw} {n k : Nat} {q : Program} {loose : List Str} {XP : (Str → Option Value) → Heap → Prop} {YP : World → Heap → Prop} {d : DefRec} {x : Str}
    (hn : l.most = some n) (hn2 : n ≤ sizeLine) (hdf : d.params.defaults = []) (hR : Room k callerA)
    (F : ∀ (w : World) (mg : Str → Option Value) (fa : Addr) (h : Heap), YP w h → h.Ns mainGlobals mg → mg d.name = some (.ref fa) → ∃ K : PySem.W.Frag, K.In h ∧ LawT l w K k n x mg fa h) :
    PySem.W.WalkO q loose XP YP l.row.toRowW d [] (fun f vs => PySem.call f vs) := by
  refine Att.attach_call hn hdf fun w s0 s1 mg mb fa o pm cd doc a vs ns G Y ho hd hcd hmg hobj hints hlen hg => ?_
  obtain ⟨K, KX, fd, cs, sp, h1, h2, h3, hb, hsp, hF⟩ := F w mg fa _ Y G.T.g hmg
  have bi : ∃ bm ob, mg "__builtins__" = some (.ref bm) ∧ bm ≠ builtinsNs ∧ s1.heap.get? bm = some ob ∧ ob.cls = .type "module" ∧ ob.dict = some builtinsNs ∧ ob.data = .plain := by
    obtain ⟨_, _, _, _, _, _, _, _, _, _, z, _⟩ := G.T
    exact z
  exact law_goT KX G.T.g G.T.b G.T.builtins G.T.nolimit hg h1 h2 h3 bi hobj hints (Nat.le_trans hlen hn2) hR hF hb fun H hT hS => hsp H a ns hlen hT hS
end Gd
set_option Elab.async false
set_option linter.all false
set_option maxRecDepth 100000
set_option maxHeartbeats 4000000
namespace Ks
open PySem PySem.Spec PyProof.Rows L2 Gd Kx
abbrev sSrt : Stmt := Kx.topS 34
theorem scSrt : FnScope ["_law_e"] ["_law_e"] (defScope sSrt) := ⟨rfl, rfl, rfl, by decide +kernel, rfl, by decide +kernel, by decide +kernel⟩
def wdN : Nat → Str
  | 0 => "InvalidKinds"
  | 1 => "InvalidConstructors"
  | 2 => "EmptyKind"
  | 3 => "UnknownKind"
  | _ => "UnknownConstructor"
def fdN : Nat → Str
  | 0 => "index"
  | 1 => "index"
  | 2 => "kind"
  | _ => "value"
/-- the word of an error -/
def spSrt (K : PySem.W.Frag) (c : Nat → Addr) : SpE := fun cls d H Q => ∃ (i : Nat) (x : Addr) (v : V) (dd : PyData), i < 5 ∧ cls = .ref (c i) ∧ d = some x ∧ H x = some (.xd [(fdN i, v)]) ∧ Dp K H v dd ∧ SB 60 1000 dd ∧ ∀ p H', Same H H' → H' p = some (.lst [.str (wdN i), .str dd.shown]) → Q (.ref p) H'
structure FC (K : PySem.W.Frag) (mg : Str → Option Value) (c : Nat → Addr) : Prop where
  gl : ∀ i, i < 5 → mg (wdN i) = some (.ref (c i))
  xc : ∀ i, i < 5 → XC K (c i)
  no : ∀ i, i < 5 → PySem.W.findIn K (.ref (c i)) (fdN i) = some none
  kit : ∀ i j, i < 5 → j ≤ i → PySem.W.kitOne K (.ref (c i)) (.ref (c j)) = some (decide (i = j))
section
variable {P : Program} {w : World} {K : PySem.W.Frag} {mg : Str → Option Value} {base : Heap} {c : Nat → Addr}
theorem ok_srt {f : Addr} {fd : FuncData} (F : Fun K "_law_sort" "_law_sort" sSrt f fd) (mi : mg "isinstance" = none) (mr : mg "repr" = none) (Fc : FC K mg c) : FnE P w K mg base 1 f fd "_law_e" (spSrt K c) := by
  refine okE F scSrt fun cv A ou s H p cls d Q hG hR hz hf h => ?_
  have hu : (A.deeper (envOfC "_law_sort" (defScope sSrt) s.heap.objs.size f cv)).units + 64 < cLine := by
    have := hR.un
    omega
  have hG2 : (A.deeper (envOfC "_law_sort" (defScope sSrt) s.heap.objs.size f cv)).guards = some [] := hG
  refine ⟨_, pss_cons (ps_if (pt_val (pe_callB call_isP (by rfl) mi boot_isinstance (pa_cons (pv 0) (pa_cons (pe_glob (v := .ref (c 0)) (by rfl) (Fc.gl 0 (by decide)) rfl) pa_nil))))
      (pss_one (ps_ret (pe_lst (pa_cons pe_str (pa_cons (pe_callB (call_showV hG2 hu) (by rfl) mr boot_repr (pa_cons (pe_fp (f := "index") (pv 0)) pa_nil)) pa_nil))))) pss_nil)
    (pss_cons (ps_if (pt_val (pe_callB call_isP (by rfl) mi boot_isinstance (pa_cons (pv 0) (pa_cons (pe_glob (v := .ref (c 1)) (by rfl) (Fc.gl 1 (by decide)) rfl) pa_nil))))
      (pss_one (ps_ret (pe_lst (pa_cons pe_str (pa_cons (pe_callB (call_showV hG2 hu) (by rfl) mr boot_repr (pa_cons (pe_fp (f := "index") (pv 0)) pa_nil)) pa_nil))))) pss_nil)
    (pss_cons (ps_if (pt_val (pe_callB call_isP (by rfl) mi boot_isinstance (pa_cons (pv 0) (pa_cons (pe_glob (v := .ref (c 2)) (by rfl) (Fc.gl 2 (by decide)) rfl) pa_nil))))
      (pss_one (ps_ret (pe_lst (pa_cons pe_str (pa_cons (pe_callB (call_showV hG2 hu) (by rfl) mr boot_repr (pa_cons (pe_fp (f := "kind") (pv 0)) pa_nil)) pa_nil))))) pss_nil)
    (pss_cons (ps_if (pt_val (pe_callB call_isP (by rfl) mi boot_isinstance (pa_cons (pv 0) (pa_cons (pe_glob (v := .ref (c 3)) (by rfl) (Fc.gl 3 (by decide)) rfl) pa_nil))))
      (pss_one (ps_ret (pe_lst (pa_cons pe_str (pa_cons (pe_callB (call_showV hG2 hu) (by rfl) mr boot_repr (pa_cons (pe_fp (f := "value") (pv 0)) pa_nil)) pa_nil))))) pss_nil)
    (pss_cons (ps_if (pt_val (pe_callB call_isP (by rfl) mi boot_isinstance (pa_cons (pv 0) (pa_cons (pe_glob (v := .ref (c 4)) (by rfl) (Fc.gl 4 (by decide)) rfl) pa_nil))))
      (pss_one (ps_ret (pe_lst (pa_cons pe_str (pa_cons (pe_callB (call_showV hG2 hu) (by rfl) mr boot_repr (pa_cons (pe_fp (f := "value") (pv 0)) pa_nil)) pa_nil))))) pss_nil)
    (pss_one (ps_ret (pe_lst (pa_cons pe_str pa_nil)))))))), ?_⟩
  obtain ⟨i, x, v, dd, hi, rfl, rfl, ex, hv, sb, q⟩ := h
  have pn : Pnd (L2H.cxH CX0 P w K mg base ["_law_e"] "_law_sort" (defScope sSrt) f cv A ou s H E0 p) p.1 (c i) x := ⟨p.2, List.mem_singleton.mpr rfl, hz, hf⟩
  have X := Fc.xc i hi
  have no := Fc.no i hi
  have kt := fun j h => Fc.kit i j hi h
  have five : i = 0 ∨ i = 1 ∨ i = 2 ∨ i = 3 ∨ i = 4 := by omega
  rcases five with rfl | rfl | rfl | rfl | rfl
  · have ex' : H x = some (.xd [(("index" : Str), v)]) := ex
    have no' : PySem.W.findIn K (.ref (c 0)) ("index" : Str) = some none := no
    have q' : ∀ p H', Same H H' → H' p = some (.lst [.str "InvalidKinds", .str dd.shown]) → Q (.ref p) H' := q
    clear ex no q
    refine ⟨.ref p.1, rfl, p.1, _, x, _, .ref (c 0), .ref (c 0), true, rfl, pn, ex', .own _, X, kt 0 (by decide), _, rfl, iteT ?_⟩
    refine ⟨.ref p.1, rfl, p.1, _, x, _, v, rfl, pn, X, no', ex', rfl, v, dd, rfl, hv, sb.sh, sb.nd, sb.dp, Nat.le_trans sb.ln (by decide), (by show 2 ≤ sizeLine; decide), fun L nL => q' L _ (same_new nL) upd_same⟩
  · have ex' : H x = some (.xd [(("index" : Str), v)]) := ex
    have no' : PySem.W.findIn K (.ref (c 1)) ("index" : Str) = some none := no
    have q' : ∀ p H', Same H H' → H' p = some (.lst [.str "InvalidConstructors", .str dd.shown]) → Q (.ref p) H' := q
    clear ex no q
    refine ⟨.ref p.1, rfl, p.1, _, x, _, .ref (c 0), .ref (c 0), false, rfl, pn, ex', .own _, X, kt 0 (by decide), _, rfl, iteF ?_⟩
    refine ⟨.ref p.1, rfl, p.1, _, x, _, .ref (c 1), .ref (c 1), true, rfl, pn, ex', .own _, X, kt 1 (by decide), _, rfl, iteT ?_⟩
    refine ⟨.ref p.1, rfl, p.1, _, x, _, v, rfl, pn, X, no', ex', rfl, v, dd, rfl, hv, sb.sh, sb.nd, sb.dp, Nat.le_trans sb.ln (by decide), (by show 2 ≤ sizeLine; decide), fun L nL => q' L _ (same_new nL) upd_same⟩
  · have ex' : H x = some (.xd [(("kind" : Str), v)]) := ex
    have no' : PySem.W.findIn K (.ref (c 2)) ("kind" : Str) = some none := no
    have q' : ∀ p H', Same H H' → H' p = some (.lst [.str "EmptyKind", .str dd.shown]) → Q (.ref p) H' := q
    clear ex no q
    refine ⟨.ref p.1, rfl, p.1, _, x, _, .ref (c 0), .ref (c 0), false, rfl, pn, ex', .own _, X, kt 0 (by decide), _, rfl, iteF ?_⟩
    refine ⟨.ref p.1, rfl, p.1, _, x, _, .ref (c 1), .ref (c 1), false, rfl, pn, ex', .own _, X, kt 1 (by decide), _, rfl, iteF ?_⟩
    refine ⟨.ref p.1, rfl, p.1, _, x, _, .ref (c 2), .ref (c 2), true, rfl, pn, ex', .own _, X, kt 2 (by decide), _, rfl, iteT ?_⟩
    refine ⟨.ref p.1, rfl, p.1, _, x, _, v, rfl, pn, X, no', ex', rfl, v, dd, rfl, hv, sb.sh, sb.nd, sb.dp, Nat.le_trans sb.ln (by decide), (by show 2 ≤ sizeLine; decide), fun L nL => q' L _ (same_new nL) upd_same⟩
  · have ex' : H x = some (.xd [(("value" : Str), v)]) := ex
    have no' : PySem.W.findIn K (.ref (c 3)) ("value" : Str) = some none := no
    have q' : ∀ p H', Same H H' → H' p = some (.lst [.str "UnknownKind", .str dd.shown]) → Q (.ref p) H' := q
    clear ex no q
    refine ⟨.ref p.1, rfl, p.1, _, x, _, .ref (c 0), .ref (c 0), false, rfl, pn, ex', .own _, X, kt 0 (by decide), _, rfl, iteF ?_⟩
    refine ⟨.ref p.1, rfl, p.1, _, x, _, .ref (c 1), .ref (c 1), false, rfl, pn, ex', .own _, X, kt 1 (by decide), _, rfl, iteF ?_⟩
    refine ⟨.ref p.1, rfl, p.1, _, x, _, .ref (c 2), .ref (c 2), false, rfl, pn, ex', .own _, X, kt 2 (by decide), _, rfl, iteF ?_⟩
    refine ⟨.ref p.1, rfl, p.1, _, x, _, .ref (c 3), .ref (c 3), true, rfl, pn, ex', .own _, X, kt 3 (by decide), _, rfl, iteT ?_⟩
    refine ⟨.ref p.1, rfl, p.1, _, x, _, v, rfl, pn, X, no', ex', rfl, v, dd, rfl, hv, sb.sh, sb.nd, sb.dp, Nat.le_trans sb.ln (by decide), (by show 2 ≤ sizeLine; decide), fun L nL => q' L _ (same_new nL) upd_same⟩
  · have ex' : H x = some (.xd [(("value" : Str), v)]) := ex
    have no' : PySem.W.findIn K (.ref (c 4)) ("value" : Str) = some none := no
    have q' : ∀ p H', Same H H' → H' p = some (.lst [.str "UnknownConstructor", .str dd.shown]) → Q (.ref p) H' := q
    clear ex no q
    refine ⟨.ref p.1, rfl, p.1, _, x, _, .ref (c 0), .ref (c 0), false, rfl, pn, ex', .own _, X, kt 0 (by decide), _, rfl, iteF ?_⟩
    refine ⟨.ref p.1, rfl, p.1, _, x, _, .ref (c 1), .ref (c 1), false, rfl, pn, ex', .own _, X, kt 1 (by decide), _, rfl, iteF ?_⟩
    refine ⟨.ref p.1, rfl, p.1, _, x, _, .ref (c 2), .ref (c 2), false, rfl, pn, ex', .own _, X, kt 2 (by decide), _, rfl, iteF ?_⟩
    refine ⟨.ref p.1, rfl, p.1, _, x, _, .ref (c 3), .ref (c 3), false, rfl, pn, ex', .own _, X, kt 3 (by decide), _, rfl, iteF ?_⟩
    refine ⟨.ref p.1, rfl, p.1, _, x, _, .ref (c 4), .ref (c 4), true, rfl, pn, ex', .own _, X, kt 4 (by decide), _, rfl, iteT ?_⟩
    refine ⟨.ref p.1, rfl, p.1, _, x, _, v, rfl, pn, X, no', ex', rfl, v, dd, rfl, hv, sb.sh, sb.nd, sb.dp, Nat.le_trans sb.ln (by decide), (by show 2 ≤ sizeLine; decide), fun L nL => q' L _ (same_new nL) upd_same⟩
end
end Ks
set_option Elab.async false
set_option linter.all false
set_option maxRecDepth 100000
set_option maxHeartbeats 4000000
/-! the truth of an own instance by its __len__, bool(x) -/
namespace PySem.W
open PySem PySem.Calls PyProof.Rows Builtin
section
variable {prog : Program} {w : World} {A : Around} {E : Value → Shared → Prop} {s : Shared} {K : Frag} {x C L f : Addr} {h₀ : Heap} {m : Str → Option Value} {ox : Obj} {od : Option Obj}
theorem truthy_len {Q : Bool → Shared → Prop} (F : Fr h₀ L s.heap m) (X₀ : K.In h₀) (I : InstAt s.heap x ox C od) (hs : findIn K (.ref C) "__bool__" = some none) (hl : findIn K (.ref C) "__len__" = some (some (.ref f))) (hf : isFn K (.ref f) = true)
    (h : wpAny (model prog w) A.in1 (call (.ref f) [.ref x]) (fun v s' => ∃ n t, v = .int n t ∧ (0 ≤ n ∧ n < 2 ^ 63) ∧ Q (n != 0) { s' with toks := s'.toks + 1 }) E s) : wpAny (model prog w) A (truthy (.ref x)) Q E s := by
  have X := X₀.keeps F.keep
  have key : wpAny (model prog w) A (runValue (.builtin "len" ⟨[.ref x], []⟩)) (fun r s' => ∃ n t, r = .int n t ∧ Q (n != 0) s') E s := by
    refine wpAny_runValue (codeAny_builtin entry_len ?_)
    rw [Around.under_plainId plain_len _]
    unfold Builtin.«len»
    refine wpAny_bind (m := oneArg "len" _) (wpAny_pure ?_)
    refine wpAny_bind (m := callSpecial? (.ref x) (Str.ofString "__len__")) (special_fn X I hl (beq_iff_eq.mp hf) (wpAny_mono h (fun r s' hr => ?_) fun _ _ y => y))
    obtain ⟨n, t, rfl, ⟨h0, h1⟩, hq⟩ := hr
    refine wpAny_bind (wpAny_holding (wpAny_pure ?_))
    refine wpAny_bind (wpAny_letGo ?_)
    show wpAny _ _ (if n < 0 then _ else _) _ _ _
    rw [if_neg (by omega)]
    show wpAny _ _ (if n ≥ 2 ^ 63 then _ else _) _ _ _
    rw [if_neg (by omega)]
    exact wpAny_bind (wpAny_mkInt (wpAny_pure ⟨n, _, rfl, hq⟩))
  unfold truthy
  refine wpAny_bind (m := callSpecial? (.ref x) (Str.ofString "__bool__")) (wpAny_bind (wpAny_bind (I.type.here ((looks_findIn X hs).here (wpAny_pure ?_)))))
  refine wpAny_bind (wpAny_bind (I.type.here ((looks_findIn X hl).here ?_)))
  show wpAny _ _ (if (some (Value.ref f)).isNone = true then _ else _) _ _ _
  rw [if_neg (by simp)]
  refine wpAny_bind (wpAny_mono key (fun r s' z => ?_) fun _ _ e => e)
  obtain ⟨n, t, rfl, q⟩ := z
  exact wpAny_pure q
theorem bool_new {a : Addr} : MeetsIn prog w (Builtin.«bool.__new__» ⟨[.type "bool", .ref a], []⟩) (fun A R s => wpAny (model prog w) A.in1 (truthy (.ref a)) (fun b s' => R (.ok (.ret (.bool b))) s') (fun e s' => R (.error e) s') s) :=
  .of_wp fun A R s h => by
    have f1 := F.conv_sub_bool
    obtain ⟨hp, g, d, tk, os⟩ := s
    have h2 : ∀ {Q : Bool → Shared → Prop}, (∀ b s', R (.ok (.ret (.bool b))) s' → Q b s') → wpAny (model prog w) A.in1 (truthy (.ref a)) Q (fun e s' => R (.error e) s') ⟨hp, g, d, tk, os⟩ := fun q => wpAny_mono h (fun b s' z => q b s' z) fun _ _ e => e
    repeat (any_goals (first | assumption | (with_reducible refine h2 fun b s' z => ?_) | wp_step))
    all_goals exact ⟨_, rfl, z⟩

end
end PySem.W
namespace Gd
open PySem PySem.Spec PyProof.Rows L2
section
variable {X : Cx} {CX : CXT} {k : Nat} {C f : Addr} {fd : FuncData} {ps : List Str} {sp : Sp} {E : XK}
/-- bool(x), by len(x) -/
def rBoolO (C : Addr) (sp : Sp) (E : XK) : List V → Hp → VK → Prop := fun xs H Q => ∃ a dx fs, xs = [.ref a] ∧ H a = some (.ins C dx fs) ∧ sp [.ref a] H (fun v H' => ∃ n : Int, v = .int n ∧ 0 ≤ n ∧ n < 2 ^ 63 ∧ Q (.bl (n != 0)) H') E
theorem call_boolO (D : Dm X.K C "__len__" f) (nb : PySem.W.findIn X.K (.ref C) "__bool__" = some none) (F : FnOk X.prog X.w X.K X.mg X.base CX k f fd ps sp) (hr : Room (k + 3) X.A) (hb : Binds X.K fd ps []) (hx : Passes CX X.nox E) : CallR X (.type "bool") (rBoolO C sp E) := by
  intro pins s σ H xs us Q I r h
  obtain ⟨a, dx, fs, rfl, ea, q⟩ := h
  have e1 := Vals.ref1 r
  subst e1
  obtain ⟨mA, J, _⟩ := ins_get I.hok ea
  obtain ⟨od, J, _⟩ := J.look
  obtain ⟨m, hF⟩ := I.fr
  refine callType_newIn PySem.F.called_bool PySem.F.newNe_bool (PySem.F.typeCall_bool_1 _) (PySem.F.newCall_bool_1 _) (fun obj => PySem.F.args_object_init_2 obj _) PySem.F.entry_bool_new PySem.W.bool_new ?_
  refine PySem.W.truthy_len hF I.ok.mod.kin J nb D.at_ D.fn (wpAny_mono (run_at F hr.in1.in1.in1 I.env0.in1.in1.in1 hb hx I r q) (fun v s' z => ?_) fun _ _ e => e)
  obtain ⟨y, H', I', ry, n, ey, n0, n1, q2⟩ := z
  subst ey
  obtain ⟨t, rfl⟩ := ry
  exact ⟨n, t, rfl, ⟨n0, n1⟩, rfl, .bl (n != 0), H', I'.tok _, rfl, q2⟩
end
end Gd
set_option Elab.async false
set_option linter.all false
set_option maxRecDepth 100000
set_option maxHeartbeats 4000000
/-! != of two own instances whose class has an == and no != of its own -/
namespace PySem.W
open PySem PySem.Calls PyProof.Rows Builtin
section
variable {prog : Program} {w : World} {A : Around} {E : Value → Shared → Prop} {s : Shared} {K : Frag} {x y C L f : Addr} {h₀ : Heap} {m : Str → Option Value} {ox oy : Obj} {od od2 : Option Obj}
theorem ifBound_slot {M : Model} {name : Str} {id B : String} {args : List Value} {Q : Option Value → Shared → Prop} (X : K.In s.heap) (I : InstAt s.heap x ox C od) (hs : findIn K (.ref C) name = some (some (.builtin id))) (S : Slot B name id)
    (h : wpAny M A (call (.builtin id) (.ref x :: args)) (fun v => Q (some v)) E s) : wpAny M A (callSpecialIfBound? (.ref x) name args) Q E s := by
  simp only [callSpecialIfBound?, bindSpecialIfBound?]
  refine wpAny_holding (wpAny_bind (wpAny_bind (wpAny_bind (I.type.here ((looks_findIn X hs).here ?_)))))
  simp only [S.bind]
  refine wpAny_bind (wpAny_askSetting (wpAny_ite ?_))
  have fin : wpAny M A (call (.builtin id) ([.ref x] ++ args) >>= fun v => pure (some v)) Q E s := wpAny_bind (wpAny_mono h (fun v s' z => wpAny_pure z) fun _ _ z => z)
  split
  · exact wpAny_bind (wpAny_pure (wpAny_pure fin))
  · exact wpAny_tryCatch (wpAny_bind (wpAny_pure (wpAny_pure fin)))
theorem ne_body {Q : Fin → Shared → Prop} (hu : A.units < cLine) (X : K.In s.heap) (I : InstAt s.heap x ox C od) (hs : findIn K (.ref C) "__eq__" = some (some (.ref f))) (hf : isFn K (.ref f) = true)
    (h : wpAny (model prog w) A (call (.ref f) [.ref x, .ref y]) (fun v s' => ∃ b, v = .bool b ∧ Q (.done (.ret (.bool (!b)))) s') E s) : wpAny (model prog w) A (Builtin.«object.__ne__» ⟨[.ref x, .ref y], []⟩) Q E s := by
  unfold Builtin.«object.__ne__»
  refine wpAny_bind (m := slotArgs "__ne__" 1 _) (wpAny_pure ?_)
  refine wpAny_bind (wpAny_cRoomFor hu ?_)
  refine wpAny_bind (ifBound_K X I hs hf (wpAny_mono h (fun v s' z => ?_) fun _ _ e => e))
  obtain ⟨b, rfl, q⟩ := z
  refine wpAny_bind (m := truthy (.bool b)) (wpAny_pure ?_)
  exact wpAny_pure q
theorem ne_K {Q : Value → Shared → Prop} (hu : A.units + 1 < cLine) (F : Fr h₀ L s.heap m) (X₀ : K.In h₀) (I : InstAt s.heap x ox C od) (J : InstAt s.heap y oy C od2) (hn : findIn K (.ref C) "__ne__" = some (some (.builtin "object.__ne__"))) (mo : mroIn K C (.type "object") = some true)
    (hs : findIn K (.ref C) "__eq__" = some (some (.ref f))) (hf : isFn K (.ref f) = true) (hv : A.in1.units < cLine)
    (h : wpAny (model prog w) A.in1 (call (.ref f) [.ref x, .ref y]) (fun v s' => ∃ b, v = .bool b ∧ Q (.bool (!b)) s') E s) : wpAny (model prog w) A (richCompare .NotEq (.ref x) (.ref y)) Q E s := by
  have X := X₀.keeps F.keep
  have one : wpAny (model prog w) A (tryCompare (.ref x) "__ne__" (.ref y)) (fun r s' => ∃ v, r = some v ∧ Q v s') E s := by
    unfold tryCompare
    refine wpAny_bind (ifBound_slot X I hn PySem.F.cmp_object.ne (wpAny_call (codeAny_call_builtin PySem.F.cmp_object.ne.plain PySem.F.cmpEntry_ne
      (check_slot PySem.F.cmpKind_ne PySem.F.cmpSplit_ne (I.type.andThen (looks_mroIn X mo)) (PySem.F.cmpArgs_ne _ _) (ne_body hv X I hs hf (wpAny_mono h (fun v s' z => ?_) fun _ _ e => e))))))
    obtain ⟨b, rfl, q⟩ := z
    exact ⟨b, rfl, wpAny_pure ⟨_, rfl, q⟩⟩
  unfold richCompare
  simp only [oneThing_ref]
  refine wpAny_holding (wpAny_bind (wpAny_cRoomFor (Nat.lt_of_succ_lt hu) ?_))
  refine wpAny_bind (I.type.here (wpAny_bind (J.type.here ?_)))
  rw [if_neg (by simp)]
  refine wpAny_bind (wpAny_pure ?_)
  simp only [Bool.false_eq_true, if_false]
  refine wpAny_bind (wpAny_mono one (fun r s' z => ?_) fun _ _ e => e)
  obtain ⟨v, rfl, hq⟩ := z
  exact wpAny_pure hq
end
end PySem.W

namespace Gd
open PySem PySem.Spec PyProof.Rows L2
section
variable {X : Cx} {CX : CXT} {k : Nat} {C f : Addr} {fd : FuncData} {ps : List Str} {sp : Sp} {E : XK}
/-- x != y, both instances, by their == -/
def rNeO (C : Addr) (sp : Sp) (E : XK) : R2 := fun x y H Q => ∃ a dx fs b dy gs, x = .ref a ∧ y = .ref b ∧ H a = some (.ins C dx fs) ∧ H b = some (.ins C dy gs) ∧ sp [.ref a, .ref b] H (fun r H' => ∃ b : Bool, r = .bl b ∧ Q (.bl (!b)) H') E
theorem op_neO (D : Dm X.K C "__eq__" f) (nn : PySem.W.findIn X.K (.ref C) "__ne__" = some (some (.builtin "object.__ne__"))) (mo : PySem.W.mroIn X.K C (.type "object") = some true) (F : FnOk X.prog X.w X.K X.mg X.base CX k f fd ps sp) (hr : Room (k + 1) X.A) (hb : Binds X.K fd ps []) (hx : Passes CX X.nox E) : OpR X (compareOp .NotEq) (rNeO C sp E) := by
  intro pins s σ H x y v u Q I rx ry h
  obtain ⟨a, dx, fs, b, dy, gs, rfl, rfl, ea, eb, q⟩ := h
  obtain rfl : v = Value.ref a := rx
  obtain rfl : u = Value.ref b := ry
  obtain ⟨mA, J, _⟩ := ins_get I.hok ea
  obtain ⟨od, J, _⟩ := J.look
  obtain ⟨mB, J2, _⟩ := ins_get I.hok eb
  obtain ⟨od2, J2, _⟩ := J2.look
  obtain ⟨m, hF⟩ := I.fr
  show wpAny _ _ (richCompare .NotEq (.ref a) (.ref b)) _ _ _
  have hu := hr.units
  refine PySem.W.ne_K (by omega) hF I.ok.mod.kin J J2 nn mo D.at_ D.fn hr.in1.units0 (wpAny_mono (run_at F hr.in1 I.env0.in1 hb hx I (.cons (show RelV (V.ref a) (Value.ref a) from rfl) (.cons (show RelV (V.ref b) (Value.ref b) from rfl) .nil)) q) (fun r s' z => ?_) fun _ _ e => e)
  obtain ⟨y, H', I', ry, b, ey, q2⟩ := z
  subst ey
  obtain rfl : r = Value.bool b := ry
  exact ⟨b, rfl, .bl (!b), H', I', rfl, q2⟩
end
end Gd
set_option Elab.async false
set_option linter.all false
set_option maxRecDepth 100000
set_option maxHeartbeats 4000000
/-! a built-in's == with an instance of an own class declines -/
namespace PySem.W
open PySem PySem.Calls PyProof.Rows Builtin
section
variable {prog : Program} {w : World} {K : Frag} {a C : Addr} {ox : Obj} {od : Option Obj} {u : Value}
theorem tup_declines (e : subIn K (.ref C) (.type "tuple") = some false) : MeetsIn prog w (Builtin.«tuple.__eq__» ⟨[u, .ref a], []⟩) (fun _ R s => (K.In s.heap ∧ InstAt s.heap a ox C od) ∧ R (.ok (.ret .notImplemented)) s) :=
  .of_wp fun A R s h => by
    obtain ⟨⟨X, I⟩, h⟩ := h
    have hi : Looks (model prog w) s.heap (isInstance (.ref a) (.type "tuple")) false := I.type.andThen (looks_subIn X e)
    refine wpAny_bind (m := slotArgs "__eq__" 1 _) (wpAny_pure ?_)
    refine wpAny_bind (hi.here ?_)
    exact wpAny_bind (wpAny_pure (wpAny_pure ⟨_, rfl, h⟩))
theorem dict_declines (e : subIn K (.ref C) (.type "dict") = some false) : MeetsIn prog w (Builtin.«dict.__eq__» ⟨[u, .ref a], []⟩) (fun _ R s => (K.In s.heap ∧ InstAt s.heap a ox C od) ∧ R (.ok (.ret .notImplemented)) s) :=
  .of_wp fun A R s h => by
    obtain ⟨⟨X, I⟩, h⟩ := h
    have hi : Looks (model prog w) s.heap (isInstance (.ref a) (.type "dict")) false := I.type.andThen (looks_subIn X e)
    refine wpAny_bind (m := Dict.dictSlotArgs "__eq__" _) (wpAny_pure ?_)
    refine wpAny_bind (hi.here ?_)
    exact wpAny_bind (wpAny_rule (wpAny_bind (wpAny_pure (wpAny_pure ⟨_, rfl, h⟩))))
theorem str_declines {z : Str} {tk : Tok} (hd : ox.data = .plain) : MeetsIn prog w (Builtin.«str.__eq__» ⟨[.str z tk, .ref a], []⟩) (fun _ R s => s.heap.get? a = some ox ∧ R (.ok (.ret .notImplemented)) s) :=
  .of_wp fun A R s h => by
    obtain ⟨ho, h⟩ := h
    refine wpAny_bind (m := Str.strSlot "__eq__" 1 _) (wpAny_pure ?_)
    refine wpAny_bind (m := asStr? (.ref a)) (wpAny_bind (wpAny_loadPart ho ?_))
    rw [hd]
    refine wpAny_pure ?_
    exact wpAny_bind (wpAny_rule (wpAny_pure ⟨_, rfl, h⟩))
theorem int_declines {i : Int} {tk : Tok} (hd : ox.data = .plain) : MeetsIn prog w (Builtin.«int.__eq__» ⟨[.int i tk, .ref a], []⟩) (fun _ R s => s.heap.get? a = some ox ∧ R (.ok (.ret .notImplemented)) s) :=
  .of_wp fun A R s h => by
    obtain ⟨ho, h⟩ := h
    refine wpAny_bind (m := slotArgs "__eq__" 1 _) (wpAny_pure ?_)
    refine wpAny_bind (m := Int.intOfSelf (.int i tk)) (wpAny_pure ?_)
    refine wpAny_bind (m := asInt? (.ref a)) (wpAny_bind (wpAny_loadPart ho ?_))
    rw [hd]
    refine wpAny_pure ?_
    exact wpAny_bind (wpAny_rule (wpAny_pure ⟨_, rfl, h⟩))
theorem bool_declines {b : Bool} (hd : ox.data = .plain) : MeetsIn prog w (Builtin.«int.__eq__» ⟨[.bool b, .ref a], []⟩) (fun _ R s => s.heap.get? a = some ox ∧ R (.ok (.ret .notImplemented)) s) :=
  .of_wp fun A R s h => by
    obtain ⟨ho, h⟩ := h
    refine wpAny_bind (m := slotArgs "__eq__" 1 _) (wpAny_pure ?_)
    refine wpAny_bind (m := Int.intOfSelf (.bool b)) (wpAny_pure ?_)
    refine wpAny_bind (m := asInt? (.ref a)) (wpAny_bind (wpAny_loadPart ho ?_))
    rw [hd]
    refine wpAny_pure ?_
    exact wpAny_bind (wpAny_rule (wpAny_pure ⟨_, rfl, h⟩))
end
section
variable {prog : Program} {w : World} {A : Around} {E : Value → Shared → Prop} {s : Shared} {K : Frag} {a C L f : Addr} {h₀ : Heap} {m : Str → Option Value} {ox : Obj} {od : Option Obj} {u : Value} {T id : String}
/-- u == x, u of a built-in type whose == declines: x's own == is asked -/
theorem eq_turned {Q : Value → Shared → Prop} (hu : A.units < cLine) (F : Fr h₀ L s.heap m) (X₀ : K.In h₀) (I : InstAt s.heap a ox C od) (hT : s.TypeIs u T) (S : Slot T "__eq__" id) (sub : subIn K (.ref C) (.type T) = some false) (one : oneThing? .Eq u (.ref a) = none)
    (dec : ∀ Q' : Value → Shared → Prop, Q' .notImplemented s → wpAny (model prog w) A (call (.builtin id) [u, .ref a]) Q' E s) (hs : findIn K (.ref C) "__eq__" = some (some (.ref f))) (hf : isFn K (.ref f) = true)
    (h : wpAny (model prog w) A (call (.ref f) [.ref a, u]) (CmpBack Q) E s) : wpAny (model prog w) A (richCompare .Eq u (.ref a)) Q E s := by
  have X := X₀.keeps F.keep
  have own : wpAny (model prog w) A (tryCompare (.ref a) (cmpInfo .Eq).2.2 u) (fun r s' => ∃ v, r = some v ∧ Q v s') E s := by
    unfold tryCompare
    refine wpAny_bind (ifBound_K X I hs hf (wpAny_mono h (fun v s' hv => ?_) fun _ _ e => e))
    cases v <;> first | exact hv.elim | exact wpAny_pure ⟨_, rfl, hv⟩
  unfold richCompare
  simp only [one]
  refine wpAny_holding (wpAny_bind (wpAny_cRoomFor hu ?_))
  refine wpAny_bind (wpAny_typeOf hT (wpAny_bind (I.type.here ?_)))
  rw [if_pos (by simp)]
  refine wpAny_bind ((looks_subIn X sub).here ?_)
  simp only [Bool.false_eq_true, if_false]
  refine wpAny_bind (wpAny_tryCompare_declines hT S (dec _ ⟨rfl, ?_⟩))
  simp only [Bool.not_false, if_true]
  refine wpAny_bind (wpAny_mono own (fun r s' z => ?_) fun _ _ e => e)
  obtain ⟨v, rfl, hq⟩ := z
  exact wpAny_pure hq
end
end PySem.W
set_option Elab.async false
set_option linter.all false
set_option maxRecDepth 100000
set_option maxHeartbeats 4000000
namespace Gd
open PySem PySem.Spec PyProof.Rows L2
section
variable {X : Cx} {CX : CXT} {k : Nat} {C f : Addr} {fd : FuncData} {ps : List Str} {sp : Sp} {E : XK}
/-- values of built-in types whose == declines an instance -/
inductive Bt (K : PySem.W.Frag) (H : Hp) : V → Prop where
  | non : Bt K H .non
  | bl (b : Bool) : Bt K H (.bl b)
  | int (i : Int) : Bt K H (.int i)
  | str (z : Str) : Bt K H (.str z)
  | tup {a : Addr} {xs : List V} (h : SqT K H a xs) : Bt K H (.ref a)
  | dct {a : Addr} {kvs : List (Key × V)} (h : H a = some (.dK kvs)) : Bt K H (.ref a)
def rEqT (K : PySem.W.Frag) (C : Addr) (sp : Sp) (E : XK) : R2 := fun x y H Q => ∃ a dx fs, y = .ref a ∧ H a = some (.ins C dx fs) ∧ Bt K H x ∧ sp [.ref a, x] H (fun r H' => ∃ b : Bool, r = .bl b ∧ Q (.bl b) H') E
theorem op_eqT (D : Dm X.K C "__eq__" f) (hsub : ∀ T ∈ ["NoneType", "bool", "int", "str", "tuple", "dict"], PySem.W.subIn X.K (.ref C) (.type T) = some false) (F : FnOk X.prog X.w X.K X.mg X.base CX k f fd ps sp) (hr : Room k X.A) (hb : Binds X.K fd ps []) (hx : Passes CX X.nox E) : OpR X (compareOp .Eq) (rEqT X.K C sp E) := by
  intro pins s σ H x y v u Q I rx ry h
  obtain ⟨a, dx, fs, rfl, ea, bt, q⟩ := h
  obtain rfl : u = Value.ref a := ry
  obtain ⟨mA, J, _⟩ := ins_get I.hok ea
  obtain ⟨od, J, _⟩ := J.look
  obtain ⟨m, hF⟩ := I.fr
  have own : ∀ Ex : Value → Shared → Prop, wpAny (model X.prog X.w) X.A (call (.ref f) [.ref a, v]) (PySem.W.CmpBack (EP X pins σ Q)) Ex s := fun Ex => wpAny_mono (run_at F hr I.env0 hb hx I (.cons (show RelV (V.ref a) (Value.ref a) from rfl) (.cons rx .nil)) q) (fun r s' z => by
    obtain ⟨y, H', I', ry, b, ey, q2⟩ := z
    subst ey
    obtain rfl : r = Value.bool b := ry
    exact ⟨.bl b, H', I', rfl, q2⟩) fun _ _ e => e
  have hu := hr.units0
  have X0 := I.ok.mod.kin
  show wpAny _ _ (richCompare .Eq v (.ref a)) _ _ _
  cases bt with
  | non =>
    cases (show v = Value.none from rx)
    exact PySem.W.eq_turned hu hF X0 J (T := "NoneType") rfl PySem.F.slot_NoneType_eq (hsub _ (by simp)) rfl (fun Q' z => call_gives PySem.F.slot_NoneType_eq rfl PySem.F.entry_NoneType_eq (PySem.F.args_NoneType_eq_2 _ _) (PySem.SeqAt.NoneType___eq___none_ref_0 a) z) D.at_ D.fn (own _)
  | bl b =>
    cases (show v = Value.bool b from rx)
    exact PySem.W.eq_turned hu hF X0 J (T := "bool") rfl PySem.F.slot_bool_eq (hsub _ (by simp)) rfl (fun Q' z => call_meetsIn PySem.F.slot_bool_eq rfl PySem.F.entry_int_eq (PySem.F.args_int_eq_2 _ _) (PySem.W.bool_declines rfl) ⟨J.at_, z⟩) D.at_ D.fn (own _)
  | int i =>
    obtain ⟨t, e⟩ := (show ∃ t, v = Value.int i t from rx)
    cases e
    exact PySem.W.eq_turned hu hF X0 J (T := "int") (typeIs_int s i t) PySem.F.slot_int_eq (hsub _ (by simp)) rfl (fun Q' z => call_meetsIn PySem.F.slot_int_eq (typeIs_int s i t) PySem.F.entry_int_eq (PySem.F.args_int_eq_2 _ _) (PySem.W.int_declines rfl) ⟨J.at_, z⟩) D.at_ D.fn (own _)
  | str w =>
    obtain ⟨t, e⟩ := (show ∃ t, v = Value.str w t from rx)
    cases e
    exact PySem.W.eq_turned hu hF X0 J (T := "str") (typeIs_str s w t) PySem.F.slot_str_eq (hsub _ (by simp)) rfl (fun Q' z => call_meetsIn PySem.F.slot_str_eq (typeIs_str s w t) PySem.F.entry_str_eq (PySem.F.args_str_eq_2 _ _) (PySem.W.str_declines rfl) ⟨J.at_, z⟩) D.at_ D.fn (own _)
  | @tup b xs hq =>
    cases (show v = Value.ref b from rx)
    obtain ⟨its, _, ⟨o, eo, co, _⟩, _⟩ := I.tuple hq
    have hT : s.TypeIs (.ref b) "tuple" := ⟨o, eo, co⟩
    exact PySem.W.eq_turned hu hF X0 J (T := "tuple") hT PySem.F.slot_tuple_eq (hsub _ (by simp)) rfl (fun Q' z => call_meetsIn PySem.F.slot_tuple_eq hT PySem.F.entry_tuple_eq (PySem.F.args_tuple_eq_2 _ _) (PySem.W.tup_declines (hsub _ (by simp))) ⟨⟨I.kIn, J⟩, z⟩) D.at_ D.fn (own _)
  | @dct b kvs hd =>
    cases (show v = Value.ref b from rx)
    obtain ⟨_, _, vs, _, o, es, ep, eo, ex, _⟩ := (show ObjOk X.prog X.w H s.heap b (.dK kvs) from I.hok b _ hd)
    have hT : s.TypeIs (.ref b) "dict" := ⟨o, eo, ex.1⟩
    exact PySem.W.eq_turned hu hF X0 J (T := "dict") hT PySem.F.slot_dict_eq (hsub _ (by simp)) rfl (fun Q' z => call_meetsIn PySem.F.slot_dict_eq hT PySem.F.entry_dict_eq (PySem.F.args_dict_eq_2 _ _) (PySem.W.dict_declines (hsub _ (by simp))) ⟨⟨I.kIn, J⟩, z⟩) D.at_ D.fn (own _)
end
end Gd
set_option Elab.async false
set_option linter.all false
set_option maxRecDepth 100000
set_option maxHeartbeats 4000000
/-! str(x), x an instance with its own __str__ -/
namespace PySem.W
open PySem PySem.Calls PyProof.Rows Builtin
section
variable {prog : Program} {w : World} {A : Around} {E : Value → Shared → Prop} {s : Shared} {K : Frag} {x C L f : Addr} {h₀ : Heap} {m : Str → Option Value} {ox : Obj} {od : Option Obj}
theorem str_new_in {v : Value} : MeetsIn prog w (Builtin.«str.__new__» ⟨[.type "str", v], []⟩) (fun A R s => wpAny (model prog w) A.in1 (Builtin.Str.strOf v) (fun r s' => R (.ok (.ret r)) s') (fun e s' => R (.error e) s') s) :=
  .of_wp fun A R s h => by
    rw [str_new_tree v]
    refine wpAny_bind (wpAny_pure ?_)
    refine wpAny_bind (wpAny_of_eq isSubtype_str_str ?_)
    exact wpAny_bind (wpAny_mono h (fun r s' z => wpAny_pure ⟨_, rfl, z⟩) fun _ _ e => e)
theorem strOf_O {Q : Value → Shared → Prop} (hu : A.units < cLine) (X : K.In s.heap) (I : InstAt s.heap x ox C od) (hs : findIn K (.ref C) "__str__" = some (some (.ref f))) (hf : isFn K (.ref f) = true)
    (h : wpAny (model prog w) A (call (.ref f) [.ref x]) (StrBack Q) E s) : wpAny (model prog w) A (Builtin.Str.strOf (.ref x)) Q E s := by
  have sp : ∀ {Q' : Option Value → Shared → Prop}, (∀ z t s', Q (.str z t) s' → Q' (some (.str z t)) s') → wpAny (model prog w) A (callSpecial? (.ref x) "__str__") Q' E s := fun q => special_fn X I hs (beq_iff_eq.mp hf) (wpAny_mono h (fun r s' hr => by cases r <;> first | exact hr.elim | exact q _ _ _ hr) fun _ _ y => y)
  unfold Builtin.Str.strOf
  repeat (first | with_reducible refine wpAny_cRoomFor hu ?_ | (with_reducible refine sp fun z t s' q => ?_) | exact q | wp_step)
end
end PySem.W
namespace Gd
open PySem PySem.Spec PyProof.Rows L2
section
variable {X : Cx} {CX : CXT} {k : Nat} {C f : Addr} {fd : FuncData} {ps : List Str} {sp : Sp} {E : XK}
/-- str(x) -/
def rStrO (C : Addr) (sp : Sp) (E : XK) : List V → Hp → VK → Prop := fun xs H Q => ∃ a dx fs, xs = [.ref a] ∧ H a = some (.ins C dx fs) ∧ sp [.ref a] H (fun v H' => ∃ z : Str, v = .str z ∧ Q (.str z) H') E
theorem call_strO (D : Dm X.K C "__str__" f) (F : FnOk X.prog X.w X.K X.mg X.base CX k f fd ps sp) (hr : Room (k + 2) X.A) (hb : Binds X.K fd ps []) (hx : Passes CX X.nox E) : CallR X (.type "str") (rStrO C sp E) := by
  intro pins s σ H xs us Q I r h
  obtain ⟨a, dx, fs, rfl, ea, q⟩ := h
  have e1 := Vals.ref1 r
  subst e1
  obtain ⟨mA, J, _⟩ := ins_get I.hok ea
  obtain ⟨od, J, _⟩ := J.look
  refine callType_newIn PySem.F.called_str (by decide) (PySem.F.typeCall_str_1 _) (PySem.F.newCall_str_1 _) (fun obj => PySem.F.args_object_init_2 obj _) PySem.F.entry_str_new PySem.W.str_new_in ?_
  refine PySem.W.strOf_O hr.in1.in1.units0 I.kIn J D.at_ D.fn (wpAny_mono (run_at F hr.in1.in1 I.env0.in1.in1 hb hx I r q) (fun v s' z => ?_) fun _ _ e => e)
  obtain ⟨y, H', I', ry, z, ey, q2⟩ := z
  subst ey
  obtain ⟨t, rfl⟩ := ry
  exact ⟨typeIs_str _ _ _, .str z, H', I', ⟨_, rfl⟩, q2⟩
end
end Gd
set_option Elab.async false
set_option linter.all false
set_option maxRecDepth 100000
set_option maxHeartbeats 4000000
/-! t[::-1], t a tuple; o.m(k = v) -/
namespace Gd
open PySem PySem.Spec PyProof.Rows L2 HT
section
variable {prog : Program} {w : World} {A : Around} {E : Value → Shared → Prop} {s : Shared}
theorem sliceApplied_rev {sl : Addr} {vs : Value} {n : Nat} {Q : Int × Int × Nat → Shared → Prop} (hs : s.heap.IsSliceOf sl .none .none vs) (ps : IsPart vs (some (-1)))
    (h : Q ((n : Int) - 1, -1, n) s) : wpAny (model prog w) A (Builtin.Slice.sliceApplied (.ref sl) (pure (n : Int))) Q E s := by
  obtain ⟨os, hos, hcs, hds⟩ := id hs
  unfold Builtin.Slice.sliceApplied Builtin.Slice.sliceFields
  refine wpAny_bind (wpAny_bind (wpAny_field hos hds (x := .none) rfl (wpAny_bind (wpAny_field hos hds (x := .none) rfl (wpAny_bind (wpAny_field hos hds (x := vs) rfl (wpAny_pure ?_)))))))
  refine wpAny_bind (slicePart_ ps ?_)
  show wpAny _ _ (if ((-1 : Int) == 0) = true then _ else _) _ _ s
  rw [if_neg (by decide)]
  refine wpAny_bind (slicePart_ .none (wpAny_bind (slicePart_ .none (wpAny_bind (wpAny_pure ?_)))))
  have e2 : Builtin.Slice.slicePlaces ((n : Int) - 1) (-1) (-1) = n := by
    unfold Builtin.Slice.slicePlaces
    have h1 : ¬ ((-1 : Int) > 0) := by decide
    simp only [h1, if_false]
    by_cases h : (n : Int) - 1 > -1
    · simp only [h, if_true]
      rw [show (-(-1) : Int) = 1 by decide, Int.ediv_one]
      omega
    · simp only [h, if_false]
      omega
  show wpAny _ _ (pure ((n : Int) - 1, (-1 : Int), Builtin.Slice.slicePlaces ((n : Int) - 1) (-1) (-1))) _ _ s
  rw [e2]
  exact wpAny_pure h
theorem pick_rev (xs : Array Value) : ((List.range xs.size).filterMap fun (m : Nat) => xs[((xs.size : Int) - 1 + (m : Int) * (-1)).toNat]?).toArray = xs.toList.reverse.toArray := by
  have k := PySem.W.krv_pick xs
  unfold slicePick at k
  rw [PySem.W.krv_bounds] at k
  have k2 : ((sliceRange ((xs.size : Int) - 1) (-1) (-1)).filterMap (xs[·]?)).toArray = xs.toList.reverse.toArray := k
  rw [PySem.W.krv_sliceRange, List.filterMap_map] at k2
  rw [← k2]
  have e : (fun (m : Nat) => xs[((xs.size : Int) - 1 + (m : Int) * (-1)).toNat]?) = ((fun x => xs[x]?) ∘ fun k => xs.size - 1 - k) := by
    funext m
    have : ((xs.size : Int) - 1 + (m : Int) * (-1)).toNat = xs.size - 1 - m := by omega
    show xs[((xs.size : Int) - 1 + (m : Int) * (-1)).toNat]? = xs[xs.size - 1 - m]?
    rw [this]
  rw [e]
theorem getItem_tuple_rev {t sl : Addr} {items : Array Value} {vs : Value} {Q : Value → Shared → Prop} (ht : IsTup s.heap t items) (hs : s.heap.IsSliceOf sl .none .none vs) (ps : IsPart vs (some (-1)))
    (h : Q (.ref s.heap.objs.size) { s with heap := s.heap.push { cls := .type "tuple", data := .seq items.toList.reverse.toArray } })
    (hsz : items.size ≤ sizeLine) : wpAny (model prog w) A (getItem (.ref t) (.ref sl)) Q E s := by
  have htake : sizeOk (.seq items.toList.reverse.toArray) := by
    show items.toList.reverse.toArray.size ≤ sizeLine
    rw [List.size_toArray, List.length_reverse, Array.length_toList]
    exact hsz
  obtain ⟨os, hos, hcs, hds⟩ := id hs
  have hTs : s.TypeIs (.ref sl) "slice" := ⟨os, hos, hcs⟩
  unfold getItem
  try with_reducible refine wpAny_holding ?_
  first | refine wpAny_bind (wpAny_pure ?_) | skip
  refine wpAny_bind (wpAny_sequenceKey ht.typeIs (by decide) ?_)
  refine wpAny_bind (wpAny_callSpecial?_slot (name := Str.ofString "__getitem__") ht.typeIs PyProof.Rows.slot_tuple_getitem
    (wpAny_call_entry PyProof.Rows.slot_tuple_getitem ht.typeIs entry_tuple_getitem ?_ (args_tuple_getitem _ _)))
  show wpAny _ _ (Builtin.Tuple.tupleItemsOf (.ref t) >>= _) _ _ s
  refine wpAny_bind (tupleItemsOf_ ht ?_)
  refine wpAny_bind (wpAny_typeOf hTs ?_)
  rw [if_pos (by decide)]
  refine wpAny_bind (sliceApplied_rev hs ps ?_)
  have hno : ¬ ((((items.size : Int) - 1) == 0 && (-1 : Int) == 1 && items.size == items.size) = true) := by
    intro q
    rw [Bool.and_eq_true, Bool.and_eq_true] at q
    exact absurd q.1.2 (by decide)
  show wpAny _ _ (if (((items.size : Int) - 1) == 0 && (-1 : Int) == 1 && items.size == items.size) = true then _ else _) _ _ s
  rw [if_neg hno, pick_rev]
  first
    | exact wpAny_bind (m := Builtin.Tuple.tupleExact _) (wpAny_newObj_type (wpAny_pure ⟨_, rfl, wpAny_pure h⟩) htake)
    | exact wpAny_bind (m := Builtin.Tuple.tupleExact _) (wpAny_newObj_type (wpAny_bind (wpAny_pure (wpAny_pure ⟨_, rfl, wpAny_pure h⟩))) htake)
    | exact wpAny_bind (wpAny_bind (m := Builtin.Tuple.tupleExact _) (wpAny_newObj_type (wpAny_pure (wpAny_pure ⟨_, rfl, wpAny_pure h⟩)) htake))
    | exact wpAny_bind (wpAny_bind (m := Builtin.Tuple.tupleExact _) (wpAny_newObj_type (wpAny_pure ⟨_, rfl, wpAny_pure h⟩) htake))
end
def tRevT (K : PySem.W.Frag) (te : TE) : TE := fun σ H Q => te σ H fun x H1 => ∃ a xs, x = .ref a ∧ SqT K H1 a xs ∧ ∀ p, H1 p = none → Q (.ref p) (upd H1 p (.tup xs.reverse))
theorem pe_revT {X : Cx} {e : Expr} {te : TE} {k : Nat} {p1 p2 p3 pos : Pos} (he : PE X e te) : PE X (.Subscript e (.Slice none none (some (.UnaryOp .USub (.Constant (.int 1) k p1) p2)) p3) pos) (tRevT X.K te) := by
  refine ⟨fun pins s σ H Q I h => ?_⟩
  refine Subscript_ (thn (he.run pins s σ H _ I h) fun v s1 ⟨x, H1, I1, r1, q1⟩ => ?_)
  obtain ⟨a, xs, ex, hx, q⟩ := q1
  subst ex
  cases r1
  have hst : PO X (some (.UnaryOp .USub (.Constant (.int 1) k p1) p2)) (tPart (tUn (rU fun i => .int (-i)) (tC (.int 1)))) := po_some (pe_un un_neg pe_int)
  refine wpAny_Slice (thn (po_none.run pins s1 σ H1 (fun o H2 => o = none ∧ H2 = H1) I1 ⟨rfl, rfl⟩) fun vl s2 ⟨l, H2, I2, pl, el, e2⟩ => ?_)
  subst el e2
  refine thn (po_none.run pins s2 σ H2 (fun o H3 => o = none ∧ H3 = H2) I2 ⟨rfl, rfl⟩) fun vu s3 ⟨u, H3, I3, pu, eu, e3⟩ => ?_
  subst eu e3
  refine thn (hst.run pins s3 σ H3 (fun o H4 => o = some (-1) ∧ H4 = H3) I3 ⟨1, rfl, -1, rfl, rfl, rfl⟩) fun vs s4 ⟨o, H4, I4, ps, eo, e4⟩ => ?_
  subst eo e4
  cases pl
  cases pu
  have I5 : Inv X pins σ H4 { s4 with heap := s4.heap.push { cls := .type "slice", data := .fields #[.none, .none, vs] } } := I4.kept (t' := s4.toks) fun b ob q => Heap.get?_push_of_some _ q
  obtain ⟨its, r, ht, hz⟩ := I5.tuple hx
  have hlen := r.length
  show wpAny (model X.prog X.w) X.A (subscriptTail e (.Slice none none (some (.UnaryOp .USub (.Constant (.int 1) k p1) p2)) p3) (.ref a) (.ref s4.heap.objs.size)) (EP X pins σ Q) X.xe { s4 with heap := s4.heap.push { cls := .type "slice", data := .fields #[.none, .none, vs] } }
  refine tail_any (ops := [.ref a, .ref s4.heap.objs.size]) ht.typeIs (PyProof.Rows.slot_tuple_getitem.lookup) ?_ (by with_unfolding_all rfl)
  refine getItem_tuple_rev ht (Heap.IsSliceOf.new _ .none .none vs) ps ?_ (by rw [List.size_toArray]; omega)
  refine ⟨.ref _, _, I5.laid (t' := s4.toks) (o := .tup xs.reverse) (fun b ob q => Heap.get?_push_of_some _ q) (Nat.le_refl _) ?_, rfl, q _ (I5.hok.fresh (Nat.le_refl _))⟩
  exact ⟨by rw [List.length_reverse]; exact hz, _, r.reverse, IsTup.new _ _⟩
/-! ### o.m(k = v, ..): keywords alone -/
section
variable {X : Cx} {CX : CXT} {k : Nat} {C f : Addr} {fd : FuncData} {ps ks : List Str} {sp : Sp} {E : XK} {ta : TE} {tk : TA} {o : Expr} {m : Str} {apos pos : Pos} {kws : List Keyword} {g : List Value → List Value → List Value} {gV : List V → List V → List V}
def tMethK (C : Addr) (m : Str) (sp : Sp) (gV : List V → List V → List V) (E : XK) (ta : TE) (tk : TA) : TE := fun σ H Q => ta σ H fun x H1 => ∃ a dx fs, x = .ref a ∧ H1 a = some (.ins C dx fs) ∧ fs.lookup m = none ∧ tk σ H1 fun zs H2 => sp (gV [x] zs) H2 Q E
theorem pe_methK0 {pl : Sem Bool} (he : PE X o ta) (c : Cls X.K C) (hm : Meth X.K C m f) (F : FnOk X.prog X.w X.K X.mg X.base CX k f fd ps sp) (hr : Room k X.A) (hb : KBinds X.K fd ps ks g gV) (hx : Passes CX X E)
    (hkw : PK X kws tk) (hall : (backToKw pos (keywordEach kws X.env)).all (·.1.isSome) = true := by rfl) (hks : (backToKw pos (keywordEach kws X.env)).filterMap (·.1) = ks := by rfl)
    (hpl : ((backTo pos (starEach [] X.env)).any (·.1) || (backToKw pos (keywordEach kws X.env)).any (·.1.isNone)) = false := by rfl)
    (ht : eval (.Call (.Attribute o m apos) [] kws pos) X.env = (do
      let ov ← eval o X.env
      standAt apos.atName
      let (f, first) ← holding [ov] (getMethod ov m pl)
      callWith pos f first (backTo pos (starEach [] X.env)) (backToKw pos (keywordEach kws X.env))) := by rfl) :
    PE X (.Call (.Attribute o m apos) [] kws pos) (tMethK C m sp gV E ta tk) := by
  refine ⟨fun pins s σ H Q I h => ?_⟩
  refine PySem.W.methodCall_KW (pl := pl) (thn (he.run pins s σ H _ I h) fun u s1 ⟨x, H1, I1, rx, a, dx, fs, ex, ea, l, q⟩ => ?_) ht
  subst ex
  obtain rfl : u = Value.ref a := rx
  refine getmeth_ok I1 ea c hm l ?_
  refine PySem.W.callWith_KW0 (first := [.ref a]) (h₀ := X.base) I1.ok.mod.kin hm.kp hall (thn (hkw.run pos pins s1 σ H1 _ I1 q) fun us s2 ⟨zs, H2, I2, r, q2⟩ => ⟨I2.kIn, ?_⟩) hpl
  rw [hks]
  exact run_fnk (us := [.ref a]) (vs := [.ref a]) F hr hb hx I2 (.cons rfl .nil) r q2
end
end Gd
set_option Elab.async false
set_option linter.all false
set_option maxRecDepth 100000
set_option maxHeartbeats 4000000
namespace Gd
open PySem PySem.Spec PyProof.Rows L2 LamX
section
variable {P : Program} {w : World} {K : PySem.W.Frag} {mg : Str → Option Value} {base : Heap}
/-- as okG, the code object told -/
theorem okGC {x qn : Str} {st : Stmt} {f c : Addr} {fd : FuncData} {N ps : List Str} {k : Nat} {sp : Sp} (F : Fun K x qn st f fd) (hcd : fd.code = .ref c) (S : FnScope N ps (defScope st)) (hl : ∀ us H Q E, sp us H Q E → us.length = ps.length)
    (hb : ∀ (A : Around) (ou : List Env) (s : Shared) (H : Hp) (vs : List V) (Q : VK) (E : XK), A.guards = some [] → Room k (A.deeper (envOfC qn (defScope st) s.heap.objs.size f (.ref c))) → sp vs H Q E →
      ∃ t, PSs (cxOf CX0 P w K mg base N qn (defScope st) f (.ref c) A ou s H E).nox (defBody st) t ∧ t { nx := fun _ H' => Q .non H', rt := Q } (start N vs) H) : Pr P w K mg base CX0 (k + 1) f fd ps sp := by
  obtain ⟨oc, od, kV, dc, pm, an, cv, ct, osl, rfl, lk, hc⟩ := F.ex
  cases (show cv = .ref c from hcd)
  refine pr_of lk hc S hl fun A ou s H vs Q E hG hR hS => ?_
  obtain ⟨t, h, q⟩ := hb A ou s H vs Q E hG hR hS
  exact ⟨t, h.nox, q⟩
end
end Gd
namespace Ks
open PySem PySem.Spec PyProof.Rows L2 Gd Kx LamX
def dLs (ss : List Str) : PyData := .list (ss.map .str)
theorem eqv_ls (a b : List Str) : PyData.eqv (dLs a) (dLs b) = decide (a = b) := eqvAll_map eqv_str a b
/-! ### what a shown name is -/
def cpOk (c : Nat) : Bool := decide (c < 1114112)
theorem rch_ok : ∀ c ∈ signs.cps.toList, ∀ q ∈ [34, 39], (Builtin.Str.reprChar q c).all cpOk = true := by decide +kernel
theorem rfold_ok {q : Nat} (hq : q ∈ [34, 39]) : ∀ (l : List Nat) (out : Array Nat), (∀ c ∈ l, c ∈ signs.cps.toList) → out.all cpOk = true → (l.foldl (fun out c => out ++ (Builtin.Str.reprChar q c).toArray) out).all cpOk = true
  | [], _, _, h => h
  | c :: r, out, hl, h => by
    rw [List.foldl_cons]
    refine rfold_ok hq r _ (fun x hx => hl x (List.mem_cons_of_mem _ hx)) ?_
    rw [Array.all_append, h, Bool.true_and]
    have := rch_ok c (hl c (List.mem_cons_self ..)) q hq
    simpa using this
theorem rq_mem (z : Str) : reprQuote z ∈ [34, 39] := by
  unfold reprQuote
  split <;> decide
theorem rp_ok {z : Str} (h : nmS z = true) : PyData.strOk (reprText z) = true := by
  have hm : ∀ c ∈ z.cps.toList, c ∈ signs.cps.toList := by
    unfold nmS at h
    cases ec : z.cps.toList with
    | nil => intro c hc; cases hc
    | cons c r =>
      rw [ec, nmL_cons, Bool.and_eq_true_iff] at h
      intro d hd
      exact of_decide_eq_true (List.all_eq_true.mp h.2 d hd)
  have hq := rq_mem z
  have f := rfold_ok hq z.cps.toList #[reprQuote z] hm (by
    simp only [List.mem_cons, List.not_mem_nil, or_false] at hq
    rcases hq with e | e <;> rw [e] <;> decide +kernel)
  unfold PyData.strOk reprText
  rw [Array.all_push]
  rw [← Array.foldl_toList]
  have e : (fun x => decide (x < 1114112)) = cpOk := rfl
  rw [e, f, Bool.true_and]
  simp only [List.mem_cons, List.not_mem_nil, or_false] at hq
  rcases hq with e | e <;> rw [e] <;> decide
theorem sh_ok {ss : List Str} (h : ∀ s ∈ ss, PyData.strOk s = true) : SeqAt.shaped (dLs ss) = true := by
  have h1 : (dLs ss).canLay0 = true := lay_all fun d hd => by
    obtain ⟨s, hs, rfl⟩ := List.mem_map.mp hd
    exact h s hs
  have h2 : (dLs ss).depth ≤ 64 := by
    have := dep_all (n := 1) (ds := ss.map PyData.str) fun d hd => by
      obtain ⟨s, hs, rfl⟩ := List.mem_map.mp hd
      rw [PyData.depth]
      omega
    unfold dLs
    rw [PyData.depth]
    omega
  unfold SeqAt.shaped
  rw [h1, decide_eq_true h2]
  rfl
/-! ### tables of code stay -/
def SbN (p : Addr) (H H' : Hp) : Prop := ∀ b o, b ≠ p → (∀ ps : Array Value, o ≠ .tbl ps) → H b = some o → H' b = some o
theorem SbN.refl {p : Addr} {H : Hp} : SbN p H H := fun _ _ _ _ e => e
theorem SbN.trans {p : Addr} {H H1 H2 : Hp} (h : SbN p H H1) (h2 : SbN p H1 H2) : SbN p H H2 := fun b o n t e => h2 b o n t (h b o n t e)
theorem SbN.sb {p : Addr} {H H1 : Hp} (h : Sb p H H1) : SbN p H H1 := fun b o n _ e => h b o n e
theorem SbN.same {p : Addr} {H H1 : Hp} (h : Same H H1) : SbN p H H1 := fun b o _ _ e => h b o e
theorem SbN.ext {p : Addr} {H H1 : Hp} (h : ExtN H H1) : SbN p H H1 := fun b o _ t e => h b o e t
theorem tabs_sb {T : List (Addr × Str)} {p : Addr} {H H' : Hp} (t : Tabs T H) (D : DealAt H p) (s : Sb p H H') : Tabs T H' := by
  intro x hx
  obtain ⟨ps, e1, e2, e3⟩ := t x hx
  obtain ⟨_, _, _, ep, _⟩ := D
  refine ⟨ps, s _ _ (fun z => by rw [z, ep] at e1; cases e1) e1, e2, fun pos cv h => ?_⟩
  obtain ⟨c, ec, e4⟩ := e3 pos cv h
  exact ⟨c, ec, s _ _ (fun z => by rw [z, ep] at e4; cases e4) e4⟩
theorem deal_ext {p : Addr} {H H' : Hp} (D : DealAt H p) (e : ExtN H H') : DealAt H' p := by
  obtain ⟨x, y, c, ep, l⟩ := D
  exact ⟨x, y, c, e _ _ ep (fun _ z => by cases z), l⟩
theorem st_ext {a : Addr} {H H' : Hp} {ss : List Str} (h : StT H a ss) (e : ExtN H H') : StT H' a ss := e _ _ h fun _ z => by cases z
theorem row_ext {x : V} {H H' : Hp} {r : Rw} (h : RowV H x r) (e : ExtN H H') : RowV H' x r := by
  obtain ⟨b, f, ex, h1, h2⟩ := h
  exact ⟨b, f, ex, e _ _ h1 (fun _ z => by cases z), st_ext h2 e⟩
theorem rows_ext {a : Addr} {H H' : Hp} {rs : List Rw} (h : RowsT H a rs) (e : ExtN H H') : RowsT H' a rs := by
  obtain ⟨xs, e1, hp⟩ := h
  exact ⟨xs, e _ _ e1 (fun _ z => by cases z), Paired.mapP hp fun x r z => row_ext z e⟩
theorem seq_ext {K : PySem.W.Frag} {a : Addr} {H H' : Hp} {xs : List V} (h : SqL K H a xs) (e : ExtN H H') : SqL K H' a xs := by
  rcases h with (h | ⟨o, h⟩) | h
  · exact .inl (.inl (e _ _ h fun _ z => by cases z))
  · exact .inl (.inr ⟨o, e _ _ h fun _ z => by cases z⟩)
  · exact .inr h
theorem tabs_upd {T : List (Addr × Str)} {H : Hp} {D : Addr} {xs : List V} {o : HO} (t : Tabs T H) (e : H D = some (.lst xs)) : Tabs T (upd H D o) := by
  intro x hx
  obtain ⟨ps, e1, e2, e3⟩ := t x hx
  refine ⟨ps, ?_, e2, fun pos cv h => ?_⟩
  · rw [upd_ne (fun z => by rw [z, e] at e1; cases e1)]
    exact e1
  · obtain ⟨c, ec, e4⟩ := e3 pos cv h
    refine ⟨c, ec, ?_⟩
    rw [upd_ne (fun z => by rw [z, e] at e4; cases e4)]
    exact e4
theorem mk_base {C x dx : Addr} {H : Hp} (nx : H x = none) (nd : H dx = none) : Same H (upd (upd H dx (.own x)) x (.ins C dx [])) := fun b o e => by
  rw [upd_ne (ne_of_none e nx), upd_ne (ne_of_none e nd)]
  exact e
theorem mk_same {C x dx : Addr} {H H' : Hp} (nx : H x = none) (nd : H dx = none) (h : But x (upd (upd H dx (.own x)) x (.ins C dx [])) H') : Same H H' := fun b o e => h b o (ne_of_none e nx) (mk_base nx nd _ _ e)
theorem nm_ne {z : Str} (h : nmS z = true) : z ≠ Str.ofString "" := fun e => by
  have := (nm_len h).1
  rw [e] at this
  exact absurd this (by decide +kernel)
theorem emp_mem {ks : List Str} {rs : List Rw} {z : Str} (h : emp ks rs = some z) : z ∈ ks := List.mem_of_find?_eq_some h

theorem md_ext {a : Addr} {H H' : Hp} {m : Md} (h : MdAt H a m) (e : ExtN H H') : MdAt H' a m := by
  obtain ⟨k, r, e1, h1, h2⟩ := h
  exact ⟨k, r, e _ _ e1 (fun _ z => by cases z), st_ext h1 e, rows_ext h2 e⟩
theorem md_sb {H H' : Hp} {p a : Addr} {m : Md} (h : MdAt H a m) (D : DealAt H p) (s : Sb p H H') : MdAt H' a m := by
  obtain ⟨k, r, e, h1, xs, h2, h3⟩ := h
  have h1' : H k = some (.tup (m.ks.map V.str)) := h1
  exact ⟨k, r, s _ _ (deal_ne D e) e, s _ _ (deal_ne D h1') h1, xs, s _ _ (deal_ne D h2) h2, Paired.mapP h3 fun x r z => RowV.sb z D s⟩
theorem dv_ext {p : Addr} {H H' : Hp} {v : V} {d : PyData} (h : Dv p H v d) (D : DealAt H p) (e : ExtN H H') : Dv p H' v d := dv_sbv (deal_lst D) (fun b o _ t eb => e b o eb t) d v h
/-! ### data that is right has no error -/
theorem kscan_full : ∀ {zs acc : List Str}, (∀ z ∈ zs, nmS z = true) → (acc ++ zs).Nodup → kscan acc (zs.map PyData.str) = none
  | [], _, _, _ => rfl
  | z :: r, acc, h, nd => by
    have nz : z ∉ acc := fun hm => by
      rw [List.nodup_append] at nd
      exact nd.2.2 z hm z (List.mem_cons_self ..) rfl
    rw [List.map_cons, kscan_yes (h z (List.mem_cons_self ..)) nz]
    refine kscan_full (fun y hy => h y (List.mem_cons_of_mem _ hy)) ?_
    rw [List.append_assoc]
    exact nd
theorem kErr_full {ks : List Str} (g : KsOk ks) : kErr (dSs ks) = none := by
  have e : kErr (dSs ks) = (kscan [] (ks.map PyData.str)).map some := by
    unfold dSs kErr
    exact if_pos (by rw [List.length_map]; exact ⟨g.k1, g.k4⟩)
  rw [e, kscan_full g.kn (by rw [List.nil_append]; exact g.kd)]
  rfl
theorem mem_all {ks : List Str} : ∀ {fs : List Str}, (∀ z ∈ fs, z ∈ ks) → (fs.map PyData.str).all (memD ks) = true
  | [], _ => rfl
  | z :: r, h => by
    rw [List.map_cons, List.all_cons, mem_all fun y hy => h y (List.mem_cons_of_mem _ hy), show memD ks (PyData.str z) = decide (z ∈ ks) from rfl, decide_eq_true (h z (List.mem_cons_self ..))]
    rfl
theorem rowD_full {ks : List Str} {r : Rw} (g : RwOk ks r) : rowD ks (dRw r) = true := by
  have e : rowD ks (dRw r) = (nameD (.str r.1) && (memD ks (.str r.2.1) && (decide ((r.2.2.map PyData.str).length ≤ 3) && (r.2.2.map PyData.str).all (memD ks)))) := rfl
  rw [e, mem_all g.f, show nameD (PyData.str r.1) = nmS r.1 from rfl, g.n, show memD ks (PyData.str r.2.1) = decide (r.2.1 ∈ ks) from rfl, decide_eq_true g.k, decide_eq_true (by rw [List.length_map]; exact g.l)]
  rfl
theorem rscan_full {ks : List Str} : ∀ {rs : List Rw} {acc : List Str}, (∀ r ∈ rs, RwOk ks r) → (acc ++ rs.map (·.1)).Nodup → rscan ks acc (rs.map dRw) = none
  | [], _, _, _ => rfl
  | r :: rs, acc, h, nd => by
    have nz : r.1 ∉ acc := fun hm => by
      rw [List.nodup_append] at nd
      exact nd.2.2 r.1 hm r.1 (List.mem_cons_self ..) rfl
    rw [List.map_cons, rscan, if_pos ⟨rowD_full (h r (List.mem_cons_self ..)), nz⟩]
    refine rscan_full (fun y hy => h y (List.mem_cons_of_mem _ hy)) ?_
    rw [List.append_assoc]
    exact nd
theorem rErr_full {ks : List Str} {rs : List Rw} (g : Pre ks rs none) : rErr ks (dRs rs) = none := by
  have l : rs ++ (none : Option Rw).toList = rs := List.append_nil _
  have r1 := g.r1
  have r6 := g.r6
  have rd := g.rd
  rw [l] at r1 r6 rd
  have e : rErr ks (dRs rs) = (rscan ks [] (rs.map dRw)).map some := by
    unfold dRs rErr
    exact if_pos (by rw [List.length_map]; exact ⟨r1, r6⟩)
  rw [e, rscan_full g.ok (by rw [List.nil_append]; exact rd)]
  rfl
theorem dSs_inj {a b : List Str} (h : dSs a = dSs b) : a = b := by
  have e := eqv_ss a b
  rw [h, eqv_ss, decide_eq_true rfl] at e
  exact of_decide_eq_true e.symm
theorem dRs_inj {a b : List Rw} (h : dRs a = dRs b) : a = b := by
  have e := eqv_rs a b
  rw [h, eqv_rs, decide_eq_true rfl] at e
  exact of_decide_eq_true e.symm
/-! ### what is due, and what is told -/
def wIK : Str := Str.ofString "InvalidKinds"
def wIC : Str := Str.ofString "InvalidConstructors"
def w0 (ks : List Str) (rs : List Rw) : Str := match emp ks rs with
  | none => Str.ofString "given"
  | some _ => Str.ofString "EmptyKind"
inductive Due (dk dr : PyData) : List Str → Str → Prop
  | K (e : Option Nat) : kErr dk = some e → Due dk dr (dueW wIK (some e)) (Str.ofString "given")
  | R (ks : List Str) (e : Option Nat) : dk = dSs ks → KsOk ks → rErr ks dr = some e → Due dk dr (dueW wIC (some e)) (Str.ofString "given")
  | O (ks : List Str) (rs : List Rw) : dk = dSs ks → KsOk ks → dr = dRs rs → Pre ks rs none → Due dk dr [] (w0 ks rs)
theorem due_ex (dk dr : PyData) : ∃ ws w, Due dk dr ws w := by
  cases ek : kErr dk with
  | some e => exact ⟨_, _, .K e ek⟩
  | none =>
    obtain ⟨ks, h1, g⟩ := kErr_ok ek
    cases er : rErr ks dr with
    | some e => exact ⟨_, _, .R ks e h1 g er⟩
    | none =>
      obtain ⟨rs, h2, g2⟩ := rErr_ok er
      exact ⟨_, _, .O ks rs h1 g h2 g2⟩
def TO (G : Hp) (L : Addr) (ws : List Str) (w : Str) : Prop := (ws ≠ [] ∧ G L = some (.lst (ws.map V.str))) ∨ (ws = [] ∧ ∃ x, G L = some (.lst [.str w, x]))
theorem TO.keep {G G' : Hp} {L : Addr} {ws : List Str} {w : Str} (h : TO G L ws w) (s : Same G G') : TO G' L ws w := by
  rcases h with ⟨n, e⟩ | ⟨n, x, e⟩
  · exact .inl ⟨n, s _ _ e⟩
  · exact .inr ⟨n, x, s _ _ e⟩
theorem TO.ext {G G' : Hp} {L : Addr} {ws : List Str} {w : Str} (h : TO G L ws w) (s : ExtN G G') : TO G' L ws w := by
  rcases h with ⟨n, e⟩ | ⟨n, x, e⟩
  · exact .inl ⟨n, s _ _ e fun _ z => by cases z⟩
  · exact .inr ⟨n, x, s _ _ e fun _ z => by cases z⟩
def gM {α : Type} (us ws : List α) : List α := match us with
  | [] => []
  | u :: r => u :: (r ++ ws)
theorem gM_rel {vs : List V} {us : List Value} {zs : List V} {ws : List Value} (r : Vals vs us) (z : Vals zs ws) : Vals (gM vs zs) (gM us ws) := by
  cases r with
  | nil => exact .nil
  | cons a t => exact .cons a (Vals.append t z)
theorem kbn_ini {K : PySem.W.Frag} {f : Addr} {fd : FuncData} (F : Fun K "__init__" "Schema.__init__" (cS 0) f fd) : KBn K fd ["self", "kinds", "constructors"] 1 ["constructors", "kinds"] (fun us ws => us ++ ws.reverse) (fun vs zs => vs ++ zs.reverse) := by
  obtain ⟨oc, od, kV, doc, pm, an, cdv, ct, osl, rfl, lk, hcd⟩ := F.ex
  refine ⟨fun s us ws _ h1 h2 => ?_, fun r z => r.append z.reverse⟩
  match us, ws, h1, h2 with
  | [u], [c, k], _, _ => exact .of_eq rfl
/-! ### the odd values -/
def oddD : List PyData := [.none, .int 0, .str (Str.ofString ""), .bool true, .tuple [], .list [.str (Str.ofString "a")], .str (Str.ofString "zzzz9999"), .str (Str.ofString "A")]
def oddB (d : PyData) : Bool := d.showable && (!d.hasDict && (decide (d.depth ≤ 60) && (decide (d.shown.length ≤ 1000) && (PyData.strOk d.shown && SeqAt.shaped d))))
theorem odd_all : oddD.all oddB = true := by decide +kernel
theorem odd_ok {d : PyData} (h : d ∈ oddD) : SB 60 1000 d ∧ PyData.strOk d.shown = true ∧ SeqAt.shaped d = true := by
  have q := List.all_eq_true.mp odd_all d h
  obtain ⟨q1, q⟩ := He.ba q
  obtain ⟨q2, q⟩ := He.ba q
  obtain ⟨q3, q⟩ := He.ba q
  obtain ⟨q4, q⟩ := He.ba q
  obtain ⟨q5, q6⟩ := He.ba q
  exact ⟨⟨q1, by simpa using q2, of_decide_eq_true q3, of_decide_eq_true q4⟩, q5, q6⟩
/-- the index that an error tells -/
def dOf : Option Nat → PyData
  | none => .none
  | some i => .int (i : Nat)
theorem dueW_some (wd : Str) (e : Option Nat) : dueW wd (some e) = [wd, (dOf e).shown] := by
  cases e with
  | none => rfl
  | some i => rfl
theorem sb_dOf {e : Option Nat} (h : ∀ i, e = some i → i < 13) : SB 60 1000 (dOf e) ∧ PyData.strOk (dOf e).shown = true := by
  cases e with
  | none => exact ⟨⟨rfl, rfl, by decide +kernel, by decide +kernel⟩, by decide +kernel⟩
  | some i =>
    have sb := sb_int13 ⟨i, h i rfl⟩
    have ok : ∀ i : _root_.Fin 13, PyData.strOk (PyData.int (i.1 : Nat)).shown = true := by decide +kernel
    exact ⟨⟨sb.1, rfl, by show (PyData.int _).depth ≤ 60; rw [PyData.depth]; decide, Nat.le_trans sb.2 (by decide)⟩, ok ⟨i, h i rfl⟩⟩
theorem dp_of {K : PySem.W.Frag} {H : Hp} (e : Option Nat) : Dp K H (vOf e) (dOf e) := by
  cases e with
  | none => exact .non
  | some i => exact .int _
theorem kErr_lt {d : PyData} {e : Option Nat} (h : kErr d = some e) : ∀ i, e = some i → i < 13 := by
  rintro i rfl
  match d, h with
  | .tuple ds, h =>
    by_cases c : 1 ≤ ds.length ∧ ds.length ≤ 4
    · have e : kErr (.tuple ds) = (kscan [] ds).map some := by
        unfold kErr
        exact if_pos c
      rw [e] at h
      cases es : kscan [] ds with
      | none => rw [es] at h; cases h
      | some j =>
        rw [es] at h
        cases h
        have := kscan_lt es
        rw [List.length_nil] at this
        omega
    · have e : kErr (.tuple ds) = some none := by
        unfold kErr
        exact if_neg c
      rw [e] at h
      cases h
theorem rscan_lt {ks : List Str} : ∀ {ds : List PyData} {acc : List Str} {i : Nat}, rscan ks acc ds = some i → i < acc.length + ds.length
  | [], _, _, h => by cases h
  | d :: r, acc, i, h => by
    rw [rscan] at h
    split at h
    · have := rscan_lt h
      rw [List.length_append, List.length_singleton] at this
      rw [List.length_cons]
      omega
    · cases h
      rw [List.length_cons]
      omega
theorem rErr_lt {ks : List Str} {d : PyData} {e : Option Nat} (h : rErr ks d = some e) : ∀ i, e = some i → i < 13 := by
  rintro i rfl
  match d, h with
  | .tuple ds, h =>
    by_cases c : 1 ≤ ds.length ∧ ds.length ≤ 6
    · have e : rErr ks (.tuple ds) = (rscan ks [] ds).map some := by
        unfold rErr
        exact if_pos c
      rw [e] at h
      cases es : rscan ks [] ds with
      | none => rw [es] at h; cases h
      | some j =>
        rw [es] at h
        cases h
        have := rscan_lt es
        rw [List.length_nil] at this
        omega
    · have e : rErr ks (.tuple ds) = some none := by
        unfold rErr
        exact if_neg c
      rw [e] at h
      cases h
theorem due_ok {dk dr : PyData} {ws : List Str} {w : Str} (h : Due dk dr ws w) : ∀ s ∈ ws, PyData.strOk s = true := by
  have two : ∀ (wd : Str) (e : Option Nat), PyData.strOk wd = true → (∀ i, e = some i → i < 13) → ∀ s ∈ dueW wd (some e), PyData.strOk s = true := fun wd e h1 h2 s hs => by
    rw [dueW_some] at hs
    simp only [List.mem_cons, List.not_mem_nil, or_false] at hs
    rcases hs with rfl | rfl
    · exact h1
    · exact (sb_dOf h2).2
  cases h with
  | K e he => exact two _ _ (by decide +kernel) (kErr_lt he)
  | R ks e _ _ he => exact two _ _ (by decide +kernel) (rErr_lt he)
  | O ks rs _ _ _ _ => intro s hs; cases hs
theorem due_w {dk dr : PyData} {ws : List Str} {w : Str} (h : Due dk dr ws w) : w = Str.ofString "given" ∨ w = Str.ofString "EmptyKind" := by
  cases h with
  | K e he => exact .inl rfl
  | R ks e _ _ he => exact .inl rfl
  | O ks rs _ _ _ _ =>
    unfold w0
    split
    · exact .inl rfl
    · exact .inr rfl
end Ks
set_option Elab.async false
set_option linter.all false
set_option maxRecDepth 100000
set_option maxHeartbeats 4000000
namespace Ks
open PySem PySem.Spec PyProof.Rows L2 Gd Kx LamX
theorem ini_sp {K : PySem.W.Frag} {C : Addr} {c : Nat → Addr} {p x dx : Addr} {vk vr : V} {dk dr : PyData} {ws : List Str} {wd : Str} {H : Hp} {Q : VK} {E : XK} (due : Due dk dr ws wd) (hx : H x = some (.ins C dx [])) (hk : Dv p H vk dk) (hr : Dv p H vr dr)
    (hErr : ∀ (i : Nat) (v : V) (dd : PyData) (d : Addr) (H' : Hp), i < 5 → Same H H' → H' d = some (.xd [(fdN i, v)]) → Dp K H' v dd → SB 60 1000 dd → ((ws ≠ [] ∧ ws = [wdN i, dd.shown]) ∨ (ws = [] ∧ wd = wdN i)) → E (.ref (c i)) (some d) H')
    (hGiv : ∀ H', ws = [] → wd = Str.ofString "given" → But x H H' → Q .non H') : spIniV C (c 0) (c 1) (c 2) [.ref x, vk, vr] H Q E := by
  refine ⟨p, x, dx, vk, vr, dk, dr, rfl, hx, hk, hr, fun e ee d H' s ed => ?_, fun ks eks gk => ⟨fun e ee d H' s ed => ?_, fun pre epre gp => ⟨fun z ez d H' s ed => ?_, fun ez k cc n H' _ _ bt nx ex fz => ?_⟩⟩⟩
  · have sd := sb_dOf (kErr_lt ee)
    refine hErr 0 (vOf e) (dOf e) d H' (by decide) s ed (dp_of e) sd.1 (.inl ?_)
    cases due with
    | K e' he' =>
      rw [he'] at ee
      cases ee
      rw [dueW_some]
      exact ⟨by simp, rfl⟩
    | R ks e' h1 g _ => rw [h1, kErr_full g] at ee; cases ee
    | O ks rs h1 g _ _ => rw [h1, kErr_full g] at ee; cases ee
  · have sd := sb_dOf (rErr_lt ee)
    refine hErr 1 (vOf e) (dOf e) d H' (by decide) s ed (dp_of e) sd.1 (.inl ?_)
    cases due with
    | K e' he' => rw [eks, kErr_full gk] at he'; cases he'
    | R ks' e' h1 g he' =>
      rw [eks] at h1
      cases dSs_inj h1
      rw [he'] at ee
      cases ee
      rw [dueW_some]
      exact ⟨by simp, rfl⟩
    | O ks' rs h1 g h2 g2 =>
      rw [eks] at h1
      cases dSs_inj h1
      rw [h2, rErr_full g2] at ee
      cases ee
  · have nz := gk.kn z (emp_mem ez)
    refine hErr 2 (.str z) (.str z) d H' (by decide) s ed (.str z) ((sb_nm nz).mono (by decide) (by decide)) (.inr ?_)
    cases due with
    | K e' he' => rw [eks, kErr_full gk] at he'; cases he'
    | R ks' e' h1 g he' =>
      rw [eks] at h1
      cases dSs_inj h1
      rw [epre, rErr_full gp] at he'
      cases he'
    | O ks' rs h1 g h2 g2 =>
      rw [eks] at h1
      cases dSs_inj h1
      rw [epre] at h2
      cases dRs_inj h2
      refine ⟨rfl, ?_⟩
      unfold w0
      rw [ez]
      rfl
  · refine hGiv H' ?_ ?_ bt
    · cases due with
      | K e' he' => rw [eks, kErr_full gk] at he'; cases he'
      | R ks' e' h1 g he' =>
        rw [eks] at h1
        cases dSs_inj h1
        rw [epre, rErr_full gp] at he'
        cases he'
      | O ks' rs h1 g h2 g2 => rfl
    · cases due with
      | K e' he' => rfl
      | R ks' e' h1 g he' => rfl
      | O ks' rs h1 g h2 g2 =>
        rw [eks] at h1
        cases dSs_inj h1
        rw [epre] at h2
        cases dRs_inj h2
        unfold w0
        rw [ez]
theorem eqv_ll (a b : List (List Str)) : PyData.eqv (.list (a.map dLs)) (.list (b.map dLs)) = decide (a = b) := eqvAll_map eqv_ls a b
theorem sh_ll {lss : List (List Str)} (h : ∀ ls ∈ lss, ∀ s ∈ ls, PyData.strOk s = true) : SeqAt.shaped (.list (lss.map dLs)) = true := by
  have one : ∀ ls ∈ lss, (dLs ls).canLay0 = true ∧ (dLs ls).depth ≤ 3 := fun ls hl => by
    refine ⟨lay_all fun d hd => ?_, ?_⟩
    · obtain ⟨s, hs, rfl⟩ := List.mem_map.mp hd
      exact h ls hl s hs
    · have := dep_all (n := 1) (ds := ls.map PyData.str) fun d hd => by
        obtain ⟨s, hs, rfl⟩ := List.mem_map.mp hd
        rw [PyData.depth]
        omega
      unfold dLs
      rw [PyData.depth]
      omega
  have all : ∀ d ∈ lss.map dLs, d.canLay0 = true ∧ d.depth ≤ 3 := fun d hd => by
    obtain ⟨ls, hl, rfl⟩ := List.mem_map.mp hd
    exact one ls hl
  have dp := dep_all (n := 3) fun d hd => (all d hd).2
  unfold SeqAt.shaped
  have e : (PyData.list (lss.map dLs)).depth ≤ 64 := by
    rw [PyData.depth]
    omega
  rw [show (PyData.list (lss.map dLs)).canLay0 = true from lay_all fun d hd => (all d hd).1, decide_eq_true e]
  rfl
theorem any_no {l : List Str} {d : PyData} (h : ((l.map PyData.str).any fun z => PyData.eqv z d) = false) : memD l d = false := by
  cases d with
  | str z =>
    rw [List.any_eq_false] at h
    refine decide_eq_false fun hz => h (.str z) (List.mem_map.mpr ⟨z, hz, rfl⟩) ?_
    rw [eqv_str]
    exact decide_eq_true rfl
  | _ => rfl
def Fr (G : Hp) (a : Addr) : Prop := ∀ o, G a = some o → ∃ ps, o = .tbl ps
theorem fr_of {G H : Hp} {a : Addr} (x : ExtN G H) (n : H a = none) : Fr G a := fun o e => by
  by_cases h : ∃ ps, o = HO.tbl ps
  · exact h
  · rw [x _ _ e fun ps z => h ⟨ps, z⟩] at n
    cases n
theorem ext_updT {G H : Hp} {a : Addr} {o : HO} (x : ExtN G H) (f : Fr G a) : ExtN G (upd H a o) := fun b o' e t => by
  have n : b ≠ a := fun z => by
    rw [z] at e
    obtain ⟨ps, h⟩ := f _ e
    exact t ps h
  rw [upd_ne n]
  exact x _ _ e t
end Ks
set_option Elab.async false
set_option linter.all false
set_option maxRecDepth 100000
set_option maxHeartbeats 4000000
namespace Ks
open PySem PySem.Spec PyProof.Rows L2 Gd Kx LamX
abbrev sTl : Stmt := Kx.topS 33
abbrev sRgt : Stmt := Kx.topS 41
abbrev nRgt : List Str := ["_law_deal_here", "_law_model_here", "_law_told_here", "_law_due", "_law_turn", "_law_again", "_law_kinds_own", "_law_mine", "_law_odd", "_law_rows"]
theorem scRgt : FnScope nRgt ["_law_deal_here"] (defScope sRgt) := ⟨rfl, rfl, rfl, by decide +kernel, rfl, by decide +kernel, by decide +kernel⟩
theorem scTl : FnScope nTold ["_law_act"] (defScope sTl) := ⟨rfl, rfl, rfl, by decide +kernel, rfl, by decide +kernel, by decide +kernel⟩
def qLam : Str := (envOfC "_law_right" (defScope sRgt) 0 0 (.ref 0)).qual ++ Str.ofString "<lambda>"
structure SQ (P : Program) (w : World) (K : PySem.W.Frag) (mg : Str → Option Value) (base : Heap) (C : Addr) (c : Nat → Addr) : Prop where
  Z : SCl K C
  gC : mg "Schema" = some (.ref C)
  ini0 : ∃ f fd, Mk K C f ∧ FnOk P w K mg base CX0 4 f fd ["self", "kinds", "constructors"] (spIni C) ∧ Binds K fd ["self", "kinds", "constructors"] []
  ini : ∃ f fd, Mk K C f ∧ FnOk P w K mg base (CX P w) 4 f fd ["self", "kinds", "constructors"] (spIniV C (c 0) (c 1) (c 2)) ∧ Binds K fd ["self", "kinds", "constructors"] [] ∧ KBn K fd ["self", "kinds", "constructors"] 1 ["constructors", "kinds"] (fun us ws => us ++ ws.reverse) (fun vs zs => vs ++ zs.reverse)
  gn : ∃ p f fd, PropOf K C "names" p f ∧ FnOk P w K mg base CX0 1 f fd ["self"] (spGn C) ∧ Binds K fd ["self"] []
  of : ∃ f fd, Meth K C "of_kind" f ∧ FnOk P w K mg base (CX P w) 3 f fd ["self", "kind"] (spOfX C (c 3)) ∧ Binds K fd ["self", "kind"] []
  pl : ∃ f fd, Meth K C "place" f ∧ FnOk P w K mg base (CX P w) 3 f fd ["self", "name"] (spPlX C (c 4)) ∧ Binds K fd ["self", "name"] []
  co : ∃ f fd, Meth K C "constructor" f ∧ FnOk P w K mg base (CX P w) 4 f fd ["self", "name"] (spCoX C (c 4)) ∧ KBinds K fd ["self", "name"] ["name"] gM gM
structure ER (K : PySem.W.Frag) (mg : Str → Option Value) (c : Nat → Addr) : Prop where
  t : ∃ c1 c2 c3 : Value, mg "TreeError" = some c1 ∧ mg "StateError" = some c2 ∧ mg "LimitError" = some c3 ∧ ∀ i, i < 5 → PySem.W.exmAny K (.ref (c i)) [c1, c2, c3] = some true
section
variable {P : Program} {w : World} {K : PySem.W.Frag} {mg : Str → Option Value} {base : Heap} {C : Addr} {c : Nat → Addr}
theorem ScAt.sb {C : Addr} {H H' : Hp} {p a : Addr} {m : Md} (h : ScAt C H a m) (D : DealAt H p) (s : Sb p H H') : ScAt C H' a m := by
  obtain ⟨dx, k, c, n, ⟨dp, e, edp⟩, h1, h2, o, h3, h4⟩ := h
  have h1' : H k = some (.tup (m.ks.map V.str)) := h1
  obtain ⟨_, _, _, ep, _⟩ := id D
  obtain ⟨xs, e2, hp⟩ := h2
  exact ⟨dx, k, c, n, ⟨dp, s _ _ (fun z => by rw [z, ep] at e; cases e) e, s _ _ (fun z => by rw [z, ep] at edp; cases edp) edp⟩, s _ _ (deal_ne D h1') h1, ⟨xs, s _ _ (deal_ne D e2) e2, Paired.mapP hp fun x r z => RowV.sb z D s⟩, o, s _ _ (fun z => by rw [z, ep] at h3; cases h3) h3, h4⟩
theorem sc_ext {C : Addr} {H H' : Hp} {a : Addr} {m : Md} (h : ScAt C H a m) (s : ExtN H H') : ScAt C H' a m := by
  obtain ⟨dx, k, c, n, ⟨dp, e, edp⟩, h1, h2, o, h3, h4⟩ := h
  exact ⟨dx, k, c, n, ⟨dp, s _ _ e (fun _ z => by cases z), s _ _ edp (fun _ z => by cases z)⟩, st_ext h1 s, rows_ext h2 s, o, s _ _ h3 (fun _ z => by cases z), h4⟩
def TU (G : Hp) (TL L : Addr) (b : Bool) (wd sh : Str) : Prop := L ≠ TL ∧ (b = false → G L = some (.lst [.str wd, .str sh]))
theorem ext_same {H H1 H2 : Hp} (e : ExtN H H1) (s : Same H1 H2) : ExtN H H2 := e.trans (.of s)
def spRgt (T : List (Addr × Str)) : Sp := fun vs H Q _ => ∃ p : Addr, vs = [.ref p] ∧ DealAt H p ∧ Tabs T H ∧ ∀ H', SbN p H H' → Tabs T H' → Q (.bl true) H'
theorem ok_rgt {f fp fm fb fk fr ft fs cc Pt : Addr} {fd dp dm db dk dr dt ds : FuncData} (F : Fun K "_law_right" "_law_right" sRgt f fd) (hcd : fd.code = .ref cc) (TB : TabB base mg cc Pt) (T : TS0 mg) (mrep : mg "repr" = none) (ml : mg "list" = none) (S : SQ P w K mg base C c) (R : ER K mg c)
    (GM : FnOk P w K mg base CX0 4 fm dm ["_law_deal_here"] spMdl) (km : PySem.W.keepIn K (.ref fm) = true) (bM : Binds K dm ["_law_deal_here"] []) (gM' : mg "_law_model" = some (.ref fm))
    (GP : FnOk P w K mg base CX0 1 fp dp ["_law_deal_here", "_law_many"] spPick) (kp : PySem.W.keepIn K (.ref fp) = true) (bP : Binds K dp ["_law_deal_here", "_law_many"] []) (gP : mg "_law_pick" = some (.ref fp))
    (GB : FnOk P w K mg base CX0 3 fb db ["_law_deal_here", "_law_model_here"] spBn) (kb : PySem.W.keepIn K (.ref fb) = true) (bB : Binds K db ["_law_deal_here", "_law_model_here"] []) (gB : mg "_law_bent" = some (.ref fb))
    (GK : Pr P w K mg base CX0 2 fk dk ["_law_kinds_own"] spWk) (kk : PySem.W.keepIn K (.ref fk) = true) (bK : Binds K dk ["_law_kinds_own"] []) (gK : mg "_law_wrong_kinds" = some (.ref fk))
    (GR : Pr P w K mg base CX0 3 fr dr ["_law_kinds_own", "_law_rows"] spWr) (kr : PySem.W.keepIn K (.ref fr) = true) (bR : Binds K dr ["_law_kinds_own", "_law_rows"] []) (gR : mg "_law_wrong_rows" = some (.ref fr))
    (FT : Fun K "_law_told" "_law_told" sTl ft dt) (bT : Binds K dt ["_law_act"] []) (gT : mg "_law_told" = some (.ref ft))
    (FS : FnE P w K mg base 1 fs ds "_law_e" (spSrt K c)) (kS : PySem.W.keepIn K (.ref fs) = true) (bS : Binds K ds ["_law_e"] []) (gS : mg "_law_sort" = some (.ref fs)) :
    Pr P w K mg base CX0 8 f fd ["_law_deal_here"] (spRgt [(Pt, qLam)]) := by
  obtain ⟨oc, od, kV, dc, pm, an, cvT, ct, osl, rfl, lkT, hcT⟩ := FT.ex
  obtain ⟨c1, c2, c3, m1, m2, m3, xm⟩ := R.t
  obtain ⟨Z, gC, ⟨fi0, di0, Mi0, Gi0, Bi0⟩, ⟨fin, din, Min, Gin, Bin, Kin⟩, ⟨pgn, fgn, dgn, Pgn, Ggn, Bgn⟩, ⟨fof, dof, Mof, Gof, Bof⟩, ⟨fpl, dpl, Mpl, Gpl, Bpl⟩, ⟨fco, dco, Mco, Gco, Kco⟩⟩ := S
  refine okGC F hcd scRgt (fun vs H Q E h => ?_) (fun A ou s H vs Q E hG hr h => ?_)
  · obtain ⟨p, rfl, _⟩ := h
    rfl
  obtain ⟨p, rfl, hD, hT, q⟩ := h
  have hu := hr.units
  have hu65 : (A.deeper (envOfC "_law_right" (defScope sRgt) s.heap.objs.size f (.ref cc))).units + 65 < cLine := by have := hr.un; omega
  have hG2 : (A.deeper (envOfC "_law_right" (defScope sRgt) s.heap.objs.size f (.ref cc))).guards = some [] := hG
  have hr1 : Room 1 (A.deeper (envOfC "_law_right" (defScope sRgt) s.heap.objs.size f (.ref cc))) := hr.mono (by decide)
  have hr2 : Room 2 (A.deeper (envOfC "_law_right" (defScope sRgt) s.heap.objs.size f (.ref cc))) := hr.mono (by decide)
  have hr3 : Room 3 (A.deeper (envOfC "_law_right" (defScope sRgt) s.heap.objs.size f (.ref cc))) := hr.mono (by decide)
  have hr4 : Room 4 (A.deeper (envOfC "_law_right" (defScope sRgt) s.heap.objs.size f (.ref cc))) := hr.mono (by decide)
  have hr5 : Room 5 (A.deeper (envOfC "_law_right" (defScope sRgt) s.heap.objs.size f (.ref cc))) := hr.mono (by decide)
  have told : ∀ q : Str, GivesTo (cxOf CX0 P w K mg base nRgt "_law_right" (defScope sRgt) f (.ref cc) A ou s H E).nox nTold "_law_told" (defScope sTl) ft cvT (defBody sTl) "_law_act" q (TTold3 K c1 c2 c3 (spSrt K c)) := fun q => told3 (X := (cxOf CX0 P w K mg base nRgt "_law_right" (defScope sRgt) f (.ref cc) A ou s H E).nox) (x := "_law_told") (q := q) (g := ft) (cdg := cvT) scTl rfl rfl rfl m1 rfl m2 rfl m3 rfl gS FS kS bS hG2 hr2
  have LS : LamS (defScope sRgt) { kind := .function, names := [("_law_mine", .free), ("_law_odd", .free)], isGenerator := false, isCoroutine := false } := lamS_by (by decide +kernel)
  refine ⟨_, pss_cons (ps_set (i := 1) scRgt.nd rfl (.inl rfl) (pe_call GM hr4 (by rfl) gM' km bM .nil pass0 (pa_cons (pv 0) pa_nil)))
    (pss_cons (ps_asg (pe_tup (pa_cons (pe_make Mi0 Gi0 hr5 (by rfl) gC Bi0 .nil pass0 (pa_cons (pe_ix ix_tup (pv 1) pe_int (fun _ _ => rfl)) (pa_cons (pe_ix ix_tup (pv 1) pe_int (fun _ _ => rfl)) pa_nil)))
        (pa_cons (pe_ix ix_list (pe_lst (pa_cons pe_non (pa_cons pe_int (pa_cons pe_str (pa_cons pe_bl (pa_cons (pe_tup pa_nil) (pa_cons (pe_lst (pa_cons pe_str pa_nil)) (pa_cons pe_str (pa_cons pe_str pa_nil))))))))) (pe_call GP hr1 (by rfl) gP kp bP .nil pass0 (pa_cons (pv 0) (pa_cons pe_int pa_nil))) (fun _ _ => rfl)) pa_nil)))
      (pg_tup (by rfl) (pgs_cons (pg_name (i := 7) scRgt.nd rfl (.inr rfl)) (pgs_cons (pg_name (i := 8) scRgt.nd rfl (.inr rfl)) pgs_nil))))
    (pss_cons (ps_set (i := 2) scRgt.nd rfl (.inl rfl) (pe_lst (pa_cons (pe_lamcall (T := [(Pt, qLam)]) (k := 5) (t := fun E => tMeth C "of_kind" (spOfX C (c 3)) [] E (tVar 7) (tCons (tVar 8) tNil)) (by rfl) gT FT.kp lkT hcT bT scTl rfl (.inl rfl) (told _) TB rfl (List.mem_singleton.mpr rfl) (fun p hp _ => by rw [List.mem_singleton.mp hp]; rfl) hr (lamS_by (sc := defScope sRgt) (by decide +kernel)) rfl (fun _ _ _ _ _ => rfl)
          (fun A' ou' s' H' E' f' c' hR' => pe_meth (pv 7) Z.cls Mof Gof (hR'.mono (by decide)) Bof .nil (passes_call (takes_of rfl rfl rfl rfl) (fun _ _ _ _ h => h)) (pa_cons (pv 8) pa_nil))) pa_nil)))
    (pss_cons (ps_expr (pe_bm PySem.F.plainAttrs_list PySem.F.slot_list_append PySem.F.type_list_append mt_append (pv 2) (pa_cons (pe_lamcall (T := [(Pt, qLam)]) (k := 5) (t := fun E => tMeth C "place" (spPlX C (c 4)) [] E (tVar 7) (tCons (tVar 8) tNil)) (by rfl) gT FT.kp lkT hcT bT scTl rfl (.inl rfl) (told _) TB rfl (List.mem_singleton.mpr rfl) (fun p hp _ => by rw [List.mem_singleton.mp hp]; rfl) hr (lamS_by (sc := defScope sRgt) (by decide +kernel)) rfl (fun _ _ _ _ _ => rfl)
          (fun A' ou' s' H' E' f' c' hR' => pe_meth (pv 7) Z.cls Mpl Gpl (hR'.mono (by decide)) Bpl .nil (passes_call (takes_of rfl rfl rfl rfl) (fun _ _ _ _ h => h)) (pa_cons (pv 8) pa_nil))) pa_nil)))
    (pss_cons (ps_expr (pe_bm PySem.F.plainAttrs_list PySem.F.slot_list_append PySem.F.type_list_append mt_append (pv 2) (pa_cons (pe_lamcall (T := [(Pt, qLam)]) (k := 5) (t := fun E => tMethK C "constructor" (spCoX C (c 4)) gM E (tVar 7) (tCons (tVar 8) tNil)) (by rfl) gT FT.kp lkT hcT bT scTl rfl (.inl rfl) (told _) TB rfl (List.mem_singleton.mpr rfl) (fun p hp _ => by rw [List.mem_singleton.mp hp]; rfl) hr (lamS_by (sc := defScope sRgt) (by decide +kernel)) rfl (fun _ _ _ _ _ => rfl)
          (fun A' ou' s' H' E' f' c' hR' => pe_methK0 (pv 7) Z.cls Mco Gco (hR'.mono (by decide)) Kco (passes_call (takes_of rfl rfl rfl rfl) (fun _ _ _ _ h => h)) (pk_cons (pv 8) pk_nil))) pa_nil)))
    (pss_cons (ps_set (i := 3) scRgt.nd rfl (.inl rfl) (pe_lst (pa_cons (pe_lst (pa_cons pe_str (pa_cons (pe_callB (call_showV hG2 hu) (by rfl) mrep boot_repr (pa_cons (pv 8) pa_nil)) pa_nil))) (pa_cons (pe_lst (pa_cons pe_str (pa_cons (pe_callB (call_showV hG2 hu) (by rfl) mrep boot_repr (pa_cons (pv 8) pa_nil)) pa_nil))) (pa_cons (pe_lst (pa_cons pe_str (pa_cons (pe_callB (call_showV hG2 hu) (by rfl) mrep boot_repr (pa_cons (pv 8) pa_nil)) pa_nil))) pa_nil)))))
    (pss_cons (ps_if (PW.pt (pw_and (pt_cmpR (op_notInD hu65) (pv 8) (pe_op op_cat (pe_callTy call_list_of (by rfl) ml boot_list (pa_cons (pe_ix ix_tup (pv 1) pe_int (fun _ _ => rfl)) pa_nil)) (pe_callTy call_list_of (by rfl) ml boot_list (pa_cons (pe_prop (pv 7) Z.cls Pgn Ggn hr2 Bgn .nil pass0 (by rfl)) pa_nil))) (by rfl)) (pw_and1 (pt_cmpR (op_neD hu) (pv 2) (pv 3) (nomark _))))) (pss_one (ps_ret pe_bl)) pss_nil)
    (pss_cons (ps_for PassesOwn.never rfl (pi_range1 rfl T.rng (pa_cons pe_int pa_nil)) (pg_name (i := 4) scRgt.nd rfl (.inl rfl))
      (pss_cons (ps_asg (pe_call GB hr3 (by rfl) gB kb bB .nil pass0 (pa_cons (pv 0) (pa_cons (pv 1) pa_nil))) (pg_tup (by rfl) (pgs_cons (pg_name (i := 6) scRgt.nd rfl (.inr rfl)) (pgs_cons (pg_name (i := 9) scRgt.nd rfl (.inr rfl)) pgs_nil))))
      (pss_cons (ps_set (i := 3) scRgt.nd rfl (.inl rfl) (pe_callG GK hG2 hr2 (by rfl) gK kk bK .nil pass0 (pa_cons (pv 6) pa_nil)))
      (pss_cons (ps_if (pt_cmpR (op_eqD hu) (pv 3) (pe_lst pa_nil) (nomark _)) (pss_one (ps_set (i := 3) scRgt.nd rfl (.inl rfl) (pe_callG GR hG2 hr3 (by rfl) gR kr bR .nil pass0 (pa_cons (pv 6) (pa_cons (pv 9) pa_nil))))) pss_nil)
      (pss_cons (ps_set (i := 2) scRgt.nd rfl (.inl rfl) (pe_lamcall (T := [(Pt, qLam)]) (k := 5) (t := fun E => tMake C (spIniV C (c 0) (c 1) (c 2)) [] E (tCons (tVar 6) (tCons (tVar 9) tNil))) (by rfl) gT FT.kp lkT hcT bT scTl rfl (.inl rfl) (told _) TB rfl (List.mem_singleton.mpr rfl) (fun p hp _ => by rw [List.mem_singleton.mp hp]; rfl) hr (lamS_by (sc := defScope sRgt) (by decide +kernel)) rfl (fun _ _ _ _ _ => rfl)
          (fun A' ou' s' H' E' f' c' hR' => pe_make Min Gin hR' (by rfl) gC Bin .nil (passes_call (takes_of rfl rfl rfl rfl) (fun _ _ _ _ h => h)) (pa_cons (pv 6) (pa_cons (pv 9) pa_nil)))))
      (pss_cons (ps_set (i := 5) scRgt.nd rfl (.inl rfl) (pe_lamcall (T := [(Pt, qLam)]) (k := 5) (t := fun E => tMakeK C 0 (["constructors", "kinds"] : List Str).length (spIniV C (c 0) (c 1) (c 2)) (fun vs zs => vs ++ zs.reverse) E tNil (tCons (tVar 9) (tCons (tVar 6) tNil))) (by rfl) gT FT.kp lkT hcT bT scTl rfl (.inl rfl) (told _) TB rfl (List.mem_singleton.mpr rfl) (fun p hp _ => by rw [List.mem_singleton.mp hp]; rfl) hr (lamS_by (sc := defScope sRgt) (by decide +kernel)) rfl (fun _ _ _ _ _ => rfl)
          (fun A' ou' s' H' E' f' c' hR' => pe_makeK0 Min Gin hR' (by rfl) gC Kin (passes_call (takes_of rfl rfl rfl rfl) (fun _ _ _ _ h => h)) (pk_cons (pv 9) (pk_cons (pv 6) pk_nil)))))
      (pss_cons (ps_if (PW.pt (pw_and (pt_cmpR (op_eqD hu) (pv 3) (pe_lst pa_nil) (nomark _)) (pw_and1 (PW.pt (pw_or (pt_cmpR op_notIn_seq (pe_ix ix_list (pv 2) pe_int (fun _ _ => rfl)) (pe_lst (pa_cons pe_str (pa_cons pe_str pa_nil))) (by rfl)) (pw_or1 (pt_cmpR op_ne (pe_ix ix_list (pv 5) pe_int (fun _ _ => rfl)) (pe_ix ix_list (pv 2) pe_int (fun _ _ => rfl)) (nomark _)))))))) (pss_one (ps_ret pe_bl)) pss_nil)
      (pss_one (ps_if (PW.pt (pw_and (pt_cmpR (op_neD hu) (pv 3) (pe_lst pa_nil) (nomark _)) (pw_and1 (pt_cmpR (op_neD hu) (pe_lst (pa_cons (pv 2) (pa_cons (pv 5) pa_nil))) (pe_lst (pa_cons (pv 3) (pa_cons (pv 3) pa_nil))) (nomark _))))) (pss_one (ps_ret pe_bl)) pss_nil)))))))))
    (pss_one (ps_ret pe_bl))))))))), ?_⟩
  -- a model
  refine seq_join (fun σ G => ∃ (b : Addr) (m : Md), σ = [some (.ref p), some (.ref b), none, none, none, none, none, none, none, none] ∧ DealAt G p ∧ Sb p H G ∧ Good m ∧ MdAt G b m) ?_ fun rest => ?_
  rotate_left
  · exact ⟨.ref p, rfl, p, rfl, hD, fun b m H1 D1 b1 g hM => rest _ _ ⟨b, m, rfl, D1, b1, g, hM⟩⟩
  rintro σ G1 ⟨b, m, rfl, D1, b1, g, hM1⟩
  have T1 := tabs_sb hT hD b1
  -- a schema and an odd value
  refine seq_join (fun σ G => ∃ (x1 : Addr) (v : V) (d : PyData), d ∈ oddD ∧ σ = [some (.ref p), some (.ref b), none, none, none, none, none, some (.ref x1), some v, none] ∧ DealAt G p ∧ Tabs [(Pt, qLam)] G ∧ Sb p H G ∧ MdAt G b m ∧ ScAt C G x1 m ∧ Dv p G v d) ?_ fun rest => ?_
  rotate_left
  · obtain ⟨kA, rA, eb, hk, hR⟩ := id hM1
    refine ⟨.ref b, rfl, b, _, _, .ref kA, rfl, rfl, SqT.of eb, rfl, .ref b, rfl, b, _, _, .ref rA, rfl, rfl, SqT.of eb, rfl, fun x1 dx1 nx1 nd1 ne1 => ?_⟩
    have s0 := mk_base (C := C) nx1 nd1
    refine ⟨x1, dx1, kA, rA, m, rfl, upd_same, s0 _ _ hk, hR.keep s0, g, fun n1 H2 bt1 nx ex1 fz1 => ⟨rfl, ?_⟩⟩
    have s1 := mk_same nx1 nd1 bt1
    have hS1 : ScAt C H2 x1 m := ⟨dx1, kA, rA, n1, ex1, s1 _ _ hk, hR.keep s1, fz1⟩
    refine ⟨(by show 0 ≤ sizeLine; exact Nat.zero_le _), fun t nt => ⟨(by show 1 ≤ sizeLine; decide), fun L nL => ⟨(by show 8 ≤ sizeLine; decide), fun O nO => ?_⟩⟩⟩
    have st := same_new (o := .tup []) nt
    have sL := same_new (o := .lst [.str "a"]) nL
    have sO := same_new (o := .lst [.non, .int 0, .str "", .bl true, .ref t, .ref L, .str "zzzz9999", .str "A"]) nO
    have gO := s1.trans (st.trans (sL.trans sO))
    have Lp : L ≠ p := by
      obtain ⟨_, _, _, e, _⟩ := D1.keep (s1.trans st)
      exact fun z => by rw [z, e] at nL; cases nL
    have Op : O ≠ p := by
      obtain ⟨_, _, _, e, _⟩ := D1.keep (s1.trans (st.trans sL))
      exact fun z => by rw [z, e] at nO; cases nO
    refine ⟨.ref p, rfl, p, 8, rfl, D1.keep gO, by decide, by decide, fun i H5 l5 u5 D5 b5 => ?_⟩
    have all0 : DvAll p _ [.non, .int 0, .str "", .bl true, .ref t, .ref L, .str "zzzz9999", .str "A"] oddD :=
      .cons .non (.cons (.int 0) (.cons (.str _ (by decide +kernel)) (.cons (.bl true) (.cons (.tup (sO _ _ (sL _ _ upd_same)) .nil) (.cons (.lst Lp (sO _ _ upd_same) (.cons (.str _ (by decide +kernel)) .nil)) (.cons (.str _ (by decide +kernel)) (.cons (.str _ (by decide +kernel)) .nil)))))))
    have all5 := all0.sb (D1.keep gO) b5
    obtain ⟨v, hv⟩ : ∃ v, ([V.non, .int 0, .str "", .bl true, .ref t, .ref L, .str "zzzz9999", .str "A"] : List V)[i.toNat]? = some v := ⟨_, List.getElem?_eq_getElem (by show i.toNat < 8; omega)⟩
    obtain ⟨d, ed, hd⟩ := all5.at hv
    refine ⟨O, _, i, v, rfl, rfl, SqL.of (b5 O _ Op upd_same), at_of (j := i.toNat) (by omega) hv, (by show 2 ≤ sizeLine; decide), fun T nT => ?_⟩
    have sT := same_new (H := H5) (o := .tup [.ref x1, v]) nT
    have bO : Sb p G1 (upd H5 T (.tup [.ref x1, v])) := (Sb.of gO).trans (b5.trans (.of sT))
    refine ⟨T, _, rfl, SqT.of upd_same, rfl, _, _, rfl, _, _, rfl, rfl, rest _ _ ⟨x1, v, d, List.mem_of_getElem? ed, rfl, D5.keep sT, (tabs_sb (T1.ext gO) (D1.keep gO) b5).ext sT, b1.trans bO, md_sb hM1 D1 bO, ((hS1.keep (st.trans (sL.trans sO))).sb (D1.keep gO) b5).keep sT, hd.keep sT⟩⟩
  clear D1 T1 b1 hM1
  rintro σ G2 ⟨x1, v, d, od, rfl, D2, T2, b2, hM2, hS2, hv2⟩
  obtain ⟨sb, okS, shD⟩ := odd_ok od
  -- told of a kind
  refine seq_join (fun σ G => ∃ (TL L1 : Addr), σ = [some (.ref p), some (.ref b), some (.ref TL), none, none, none, none, some (.ref x1), some v, none] ∧ Tabs [(Pt, qLam)] G ∧ ExtN G2 G ∧ Fr G2 TL ∧ G TL = some (.lst [.ref L1]) ∧ TU G TL L1 (memD m.ks d) (wdN 3) d.shown) ?_ fun rest => ?_
  rotate_left
  · refine ⟨T2, fun H3 x3 T3 => ?_⟩
    obtain ⟨dx, k, cA, n, ⟨dp, e, edp⟩, _⟩ := id (sc_ext hS2 x3)
    refine ⟨.ref x1, rfl, x1, dx, _, rfl, e, rfl, v, rfl, p, x1, m, v, d, rfl, sc_ext hS2 x3, g, dv_ext hv2 D2 x3, fun hm b' H4 s4 => ⟨.ref b', rfl, (by show 2 ≤ sizeLine; decide), fun L nL => ⟨(by show 1 ≤ sizeLine; decide), fun TL nTL => ?_⟩⟩, fun hm d' H4 s4 e4 => ⟨true, xm 3 (by decide), fun _ => ⟨3, d', v, d, by decide, rfl, rfl, e4, dv_dp _ _ ((dv_ext hv2 D2 x3).keep s4), sb, fun L H5 s5 eL => ⟨(by show 1 ≤ sizeLine; decide), fun TL nTL => ?_⟩⟩, fun h => (by cases h)⟩⟩
    · have sL := same_new (o := .lst [.str "given", .ref b']) nL
      have sT := same_new (o := .lst [.ref L]) nTL
      have s := s4.trans (sL.trans sT)
      exact rest _ _ ⟨TL, L, rfl, T3.ext s, ext_same x3 s, fr_of (ext_same x3 (s4.trans sL)) nTL, upd_same, fun z => (by rw [← z, upd_same] at nTL; cases nTL), fun h => (by rw [h] at hm; cases hm)⟩
    · have sT := same_new (o := .lst [.ref L]) nTL
      have s := s4.trans (s5.trans sT)
      exact rest _ _ ⟨TL, L, rfl, T3.ext s, ext_same x3 s, fr_of (ext_same x3 (s4.trans s5)) nTL, upd_same, fun z => (by rw [← z, eL] at nTL; cases nTL), fun _ => sT _ _ eL⟩
  rintro σ G3 ⟨TL, L1, rfl, T3, x3, fT, eT3, u1⟩
  have tu_ext : ∀ {H H' : Hp} {L : Addr} {bb : Bool} {w s : Str}, TU H TL L bb w s → ExtN H H' → TU H' TL L bb w s := fun u x => ⟨u.1, fun h => x _ _ (u.2 h) fun _ z => by cases z⟩
  have tu_upd : ∀ {H : Hp} {o : HO} {L : Addr} {bb : Bool} {w s : Str}, TU H TL L bb w s → TU (upd H TL o) TL L bb w s := fun u => ⟨u.1, fun h => by rw [upd_ne u.1]; exact u.2 h⟩
  -- told of a place
  refine seq_join (fun σ G => ∃ (L2 : Addr), σ = [some (.ref p), some (.ref b), some (.ref TL), none, none, none, none, some (.ref x1), some v, none] ∧ Tabs [(Pt, qLam)] G ∧ ExtN G2 G ∧ G TL = some (.lst [.ref L1, .ref L2]) ∧ TU G TL L1 (memD m.ks d) (wdN 3) d.shown ∧ TU G TL L2 (memD (m.rs.map (·.1)) d) (wdN 4) d.shown) ?_ fun rest => ?_
  rotate_left
  · refine ⟨.ref TL, rfl, .inl ⟨rfl, _, SqL.of eT3⟩, T3, fun H4 x4 T4 => ?_⟩
    have x24 := x3.trans x4
    have eT4 := x4 _ _ eT3 fun _ z => by cases z
    have u14 := tu_ext u1 x4
    obtain ⟨dx, k, cA, n, ⟨dp, e, edp⟩, ek, ec, en⟩ := id (sc_ext hS2 x24)
    refine ⟨.ref x1, rfl, x1, dx, _, rfl, e, rfl, v, rfl, p, x1, k, cA, n, m.rs.map (·.1), v, d, rfl, ⟨dx, _, ⟨dp, e, edp⟩, en⟩, en, g.rd, dv_ext hv2 D2 x24, fun z j ed hj => ⟨.int (j : Nat), rfl, (by show 2 ≤ sizeLine; decide), fun L nL => ?_⟩, fun hm d' H5 s5 e5 => ⟨true, xm 4 (by decide), fun _ => ⟨4, d', v, d, by decide, rfl, rfl, e5, dv_dp _ _ ((dv_ext hv2 D2 x24).keep s5), sb, fun L H6 s6 eL => ?_⟩, fun h => (by cases h)⟩⟩
    · have sL := same_new (o := .lst [.str "given", .int (j : Nat)]) nL
      refine ⟨TL, _, _, rfl, rfl, sL _ _ eT4, small1000 (by simp), rest _ _ ⟨L, rfl, tabs_upd (T4.ext sL) (sL _ _ eT4), ext_updT (ext_same x24 sL) fT, upd_same, tu_upd (tu_ext u14 (.of sL)), fun z => (by rw [z, eT4] at nL; cases nL), fun h => ?_⟩⟩
      rw [ed, memD, decide_eq_true (List.mem_of_getElem? hj)] at h
      cases h
    · have s := s5.trans s6
      have eT6 := s _ _ eT4
      have ne : L ≠ TL := fun z => by rw [z, eT6] at eL; cases eL
      exact ⟨TL, _, _, rfl, rfl, eT6, small1000 (by simp), rest _ _ ⟨L, rfl, tabs_upd (T4.ext s) eT6, ext_updT (ext_same x24 s) fT, upd_same, tu_upd (tu_ext u14 (.of s)), tu_upd ⟨ne, fun _ => eL⟩⟩⟩
  clear T3 x3 eT3 u1
  rintro σ G4 ⟨L2, rfl, T4, x4, eT4, u1, u2⟩
  -- told of a constructor
  refine seq_join (fun σ G => ∃ (L3 : Addr), σ = [some (.ref p), some (.ref b), some (.ref TL), none, none, none, none, some (.ref x1), some v, none] ∧ Tabs [(Pt, qLam)] G ∧ ExtN G2 G ∧ G TL = some (.lst [.ref L1, .ref L2, .ref L3]) ∧ TU G TL L1 (memD m.ks d) (wdN 3) d.shown ∧ TU G TL L2 (memD (m.rs.map (·.1)) d) (wdN 4) d.shown ∧ TU G TL L3 (memD (m.rs.map (·.1)) d) (wdN 4) d.shown) ?_ fun rest => ?_
  rotate_left
  · refine ⟨.ref TL, rfl, .inl ⟨rfl, _, SqL.of eT4⟩, T4, fun H5 x5 T5 => ?_⟩
    have x25 := x4.trans x5
    have eT5 := x5 _ _ eT4 fun _ z => by cases z
    have u15 := tu_ext u1 x5
    have u25 := tu_ext u2 x5
    obtain ⟨dx, k, cA, n, ⟨dp, e, edp⟩, ek, ⟨xs, ec, hpx⟩, en⟩ := id (sc_ext hS2 x25)
    have lx : xs.length = (m.rs.map (·.1)).length := by rw [List.length_map]; exact Paired.length hpx
    refine ⟨.ref x1, rfl, x1, dx, _, rfl, e, rfl, v, rfl, p, x1, k, cA, n, m.rs.map (·.1), xs, v, d, rfl, ⟨dx, _, ⟨dp, e, edp⟩, en⟩, en, g.rd, ec, lx, dv_ext hv2 D2 x25, fun hm x hx => ⟨x, rfl, (by show 2 ≤ sizeLine; decide), fun L nL => ?_⟩, fun hm d' H6 s6 e6 => ⟨true, xm 4 (by decide), fun _ => ⟨4, d', v, d, by decide, rfl, rfl, e6, dv_dp _ _ ((dv_ext hv2 D2 x25).keep s6), sb, fun L H7 s7 eL => ?_⟩, fun h => (by cases h)⟩⟩
    · have sL := same_new (o := .lst [.str "given", x]) nL
      exact ⟨TL, _, _, rfl, rfl, sL _ _ eT5, small1000 (by simp), rest _ _ ⟨L, rfl, tabs_upd (T5.ext sL) (sL _ _ eT5), ext_updT (ext_same x25 sL) fT, upd_same, tu_upd (tu_ext u15 (.of sL)), tu_upd (tu_ext u25 (.of sL)), fun z => (by rw [z, eT5] at nL; cases nL), fun h => (by rw [h] at hm; cases hm)⟩⟩
    · have s := s6.trans s7
      have eT7 := s _ _ eT5
      have ne : L ≠ TL := fun z => by rw [z, eT7] at eL; cases eL
      exact ⟨TL, _, _, rfl, rfl, eT7, small1000 (by simp), rest _ _ ⟨L, rfl, tabs_upd (T5.ext s) eT7, ext_updT (ext_same x25 s) fT, upd_same, tu_upd (tu_ext u15 (.of s)), tu_upd (tu_ext u25 (.of s)), tu_upd ⟨ne, fun _ => eL⟩⟩⟩
  clear T4 x4 eT4 u1 u2
  rintro σ G5 ⟨L3, rfl, T5, x5, eT5, u1, u2, u3⟩
  have hv5 := dv_ext hv2 D2 x5
  -- what is due
  refine seq_join (fun σ G => ∃ (DL M1 M2 M3 : Addr), σ = [some (.ref p), some (.ref b), some (.ref TL), some (.ref DL), none, none, none, some (.ref x1), some v, none] ∧ Same G5 G ∧ G DL = some (.lst [.ref M1, .ref M2, .ref M3]) ∧ G M1 = some (.lst [.str (wdN 3), .str d.shown]) ∧ G M2 = some (.lst [.str (wdN 4), .str d.shown]) ∧ G M3 = some (.lst [.str (wdN 4), .str d.shown])) ?_ fun rest => ?_
  rotate_left
  · have ln : d.shown.length ≤ sizeLine := Nat.le_trans sb.ln (by decide)
    refine ⟨v, rfl, v, d, rfl, dv_dp _ _ hv5, sb.sh, sb.nd, sb.dp, ln, (by show 2 ≤ sizeLine; decide), fun M1 n1 => ?_⟩
    have s1 := same_new (H := G5) (o := .lst [.str (wdN 3), .str d.shown]) n1
    refine ⟨v, rfl, v, d, rfl, dv_dp _ _ (hv5.keep s1), sb.sh, sb.nd, sb.dp, ln, (by show 2 ≤ sizeLine; decide), fun M2 n2 => ?_⟩
    have s2 := same_new (o := .lst [.str (wdN 4), .str d.shown]) n2
    refine ⟨v, rfl, v, d, rfl, dv_dp _ _ (hv5.keep (s1.trans s2)), sb.sh, sb.nd, sb.dp, ln, (by show 2 ≤ sizeLine; decide), fun M3 n3 => ?_⟩
    have s3 := same_new (o := .lst [.str (wdN 4), .str d.shown]) n3
    refine ⟨(by show 3 ≤ sizeLine; decide), fun DL nD => ?_⟩
    have sD := same_new (o := .lst [.ref M1, .ref M2, .ref M3]) nD
    exact rest _ _ ⟨DL, M1, M2, M3, rfl, s1.trans (s2.trans (s3.trans sD)), upd_same, (s2.trans (s3.trans sD)) _ _ upd_same, (s3.trans sD) _ _ upd_same, sD _ _ upd_same⟩
  rintro σ G6 ⟨DL, M1, M2, M3, rfl, s6, eD, e1, e2, e3⟩
  have T6 := T5.ext s6
  have x6 := ext_same x5 s6
  have eT6 := s6 _ _ eT5
  replace u1 := tu_ext u1 (.of s6)
  replace u2 := tu_ext u2 (.of s6)
  replace u3 := tu_ext u3 (.of s6)
  have hv6 := hv5.keep s6
  clear T5 x5 eT5 s6 hv5
  -- unknown
  refine seq_join (fun σ G => σ = [some (.ref p), some (.ref b), some (.ref TL), some (.ref DL), none, none, none, some (.ref x1), some v, none] ∧ Same G6 G) ?_ fun rest => ?_
  rotate_left
  · obtain ⟨kA, rA, eb, hk, hR⟩ := id (md_ext hM2 x6)
    obtain ⟨dx, k, cA, n, ⟨dp, e, edp⟩, ek, ec, en⟩ := id (sc_ext hS2 x6)
    refine ⟨v, rfl, .ref b, rfl, b, _, _, .ref kA, rfl, rfl, SqT.of eb, rfl, kA, _, rfl, .inr (SqT.of hk), fun J1 n1 => ?_⟩
    have s1 := same_new (H := G6) (o := .lst (m.ks.map V.str)) n1
    refine ⟨.ref x1, rfl, x1, dx, _, rfl, s1 _ _ e, x1, k, cA, n, rfl, ⟨dx, _, ⟨dp, s1 _ _ e, s1 _ _ edp⟩, en.keep s1⟩, n, _, rfl, .inr (FzT.sq (by obtain ⟨o, h3, h4⟩ := en; exact ⟨o, s1 _ _ h3, h4⟩)), fun J2 n2 => ?_⟩
    have s2 := same_new (o := .lst ((m.rs.map (·.1)).map V.str)) n2
    have k4 := g.k4
    have r6 := g.r6
    refine ⟨J1, J2, _, _, rfl, rfl, s2 _ _ upd_same, upd_same, ?_, fun J nJ => ?_⟩
    · rw [List.length_map, List.length_map, List.length_map]
      exact Nat.le_of_lt (small1000 (by omega))
    rw [← List.map_append]
    have sJ := same_new (o := .lst ((m.ks ++ m.rs.map (·.1)).map V.str)) nJ
    have s := s1.trans (s2.trans sJ)
    refine ⟨d, (m.ks ++ m.rs.map (·.1)).map PyData.str, dv_dp _ _ (hv6.keep s), .lst (SqL.of upd_same) (dp_strs _), shD, sh_ok fun z hz => ?_, _, rfl, ?_⟩
    · rcases List.mem_append.mp hz with h | h
      · exact nm_ok (g.kn z h)
      · obtain ⟨r, hr', rfl⟩ := List.mem_map.mp h
        exact nm_ok (g.rn r hr')
    cases ha : ((m.ks ++ m.rs.map (·.1)).map PyData.str).any fun z => PyData.eqv z d with
    | true => exact iteF (iteF (rest _ _ ⟨rfl, s⟩))
    | false =>
      have hm := any_no ha
      have hm1 : memD m.ks d = false := by
        cases d with
        | str z => exact decide_eq_false fun h => of_decide_eq_false hm (List.mem_append_left _ h)
        | _ => rfl
      have hm2 : memD (m.rs.map (·.1)) d = false := by
        cases d with
        | str z => exact decide_eq_false fun h => of_decide_eq_false hm (List.mem_append_right _ h)
        | _ => rfl
      have dls : ∀ {H' : Hp} {a : Addr} {w : Str}, H' a = some (.lst [.str w, .str d.shown]) → Dp K H' (.ref a) (dLs [w, d.shown]) := fun ee => .lst (SqL.of ee) (dp_strs [_, _])
      have shA : SeqAt.shaped (.list ([[wdN 3, d.shown], [wdN 4, d.shown], [wdN 4, d.shown]].map dLs)) = true := sh_ll fun ls hl s hs => by
        have w3 : PyData.strOk (wdN 3) = true := by decide +kernel
        have w4 : PyData.strOk (wdN 4) = true := by decide +kernel
        simp only [List.mem_cons, List.not_mem_nil, or_false] at hl
        rcases hl with rfl | rfl | rfl <;> (simp only [List.mem_cons, List.not_mem_nil, or_false] at hs; rcases hs with rfl | rfl <;> assumption)
      refine iteT ⟨.ref TL, rfl, .ref DL, rfl, .list ([[wdN 3, d.shown], [wdN 4, d.shown], [wdN 4, d.shown]].map dLs), .list ([[wdN 3, d.shown], [wdN 4, d.shown], [wdN 4, d.shown]].map dLs),
        .lst (SqL.of (s _ _ eT6)) (.cons (dls (s _ _ (u1.2 hm1))) (.cons (dls (s _ _ (u2.2 hm2))) (.cons (dls (s _ _ (u3.2 hm2))) .nil))), .lst (SqL.of (s _ _ eD)) (.cons (dls (s _ _ e1)) (.cons (dls (s _ _ e2)) (.cons (dls (s _ _ e3)) .nil))), shA, shA, _, rfl, ?_⟩
      rw [eqv_ll, decide_eq_true rfl]
      exact iteF (rest _ _ ⟨rfl, s⟩)
  rintro σ G7 ⟨rfl, s7⟩
  have T7 := T6.ext s7
  have x7 := ext_same x6 s7
  have D7 := deal_ext D2 x7
  have b7 : SbN p H G7 := (SbN.sb b2).trans (.ext x7)
  have hM7 := md_ext hM2 x7
  clear T6 x6 eT6 u1 u2 u3 hv6 eD e1 e2 e3 s7 fT tu_ext tu_upd
  -- eight turns
  refine ⟨8, rfl, by decide, by decide, for_range (n := 8) (fun i σ H' => ∃ o2 o3 o4 o5 o6 o9 : Option V, σ = [some (.ref p), some (.ref b), o2, o3, o4, o5, o6, some (.ref x1), some v, o9] ∧ DealAt H' p ∧ Tabs [(Pt, qLam)] H' ∧ SbN p H H' ∧ MdAt H' b m) ⟨_, _, _, _, _, _, rfl, D7, T7, b7, hM7⟩ ?_ ?_⟩
  rotate_left
  · rintro σ H1 ⟨o2, o3, o4, o5, o6, o9, rfl, D1, T1, b1, _⟩
    exact q H1 b1 T1
  clear D7 T7 b7 hM7 x7
  rintro i σ H1 hi ⟨o2, o3, o4, o5, o6, o9, rfl, D1, T1, b1, hM1⟩
  -- bent
  refine seq_join (fun σ G => ∃ (vk vr : V) (dk dr : PyData), σ = [some (.ref p), some (.ref b), o2, o3, some (.int (0 + (i : Int))), o5, some vk, some (.ref x1), some v, some vr] ∧ DealAt G p ∧ Tabs [(Pt, qLam)] G ∧ SbN p H G ∧ MdAt G b m ∧ Dv p G vk dk ∧ Dv p G vr dr) ?_ fun rest => ?_
  rotate_left
  · refine ⟨.ref p, rfl, .ref b, rfl, p, b, m, rfl, D1, hM1, g, fun T vk vr dk dr H2 D2 b2 eT hk hr => ⟨T, _, rfl, SqT.of eT, rfl, _, _, rfl, _, _, rfl, rfl, rest _ _ ⟨vk, vr, dk, dr, rfl, D2, tabs_sb T1 D1 b2, b1.trans (.sb b2), md_sb hM1 D1 b2, hk, hr⟩⟩⟩
  clear D1 T1 b1 hM1
  rintro σ G1 ⟨vk, vr, dk, dr, rfl, D1, T1, b1, hM1, hk1, hr1'⟩
  obtain ⟨ws, wd, due⟩ := due_ex dk dr
  have okW := due_ok due
  -- what is wrong with the kinds
  refine seq_join (fun σ G => ∃ D, σ = [some (.ref p), some (.ref b), o2, some (.ref D), some (.int (0 + (i : Int))), o5, some vk, some (.ref x1), some v, some vr] ∧ Same G1 G ∧ G D = some (.lst ((dueW wIK (kErr dk)).map V.str))) ?_ fun rest => ?_
  rotate_left
  · exact ⟨vk, rfl, p, vk, dk, rfl, hk1, fun D H3 s3 nD eD => rest _ _ ⟨D, rfl, s3, eD⟩⟩
  rintro σ G2 ⟨D0, rfl, s2, eD0⟩
  -- what is wrong with the constructors
  refine seq_join (fun σ G => ∃ D, σ = [some (.ref p), some (.ref b), o2, some (.ref D), some (.int (0 + (i : Int))), o5, some vk, some (.ref x1), some v, some vr] ∧ Same G2 G ∧ G D = some (.lst (ws.map V.str))) ?_ fun rest => ?_
  rotate_left
  · refine ⟨.ref D0, rfl, (by show 0 ≤ sizeLine; exact Nat.zero_le _), fun N nN => ?_⟩
    have sN := same_new (H := G2) (o := .lst []) nN
    have okK : ∀ s ∈ dueW wIK (kErr dk), PyData.strOk s = true := by
      cases ek : kErr dk with
      | none => intro s hs; cases hs
      | some e => exact due_ok (.K (dr := dr) e ek)
    refine ⟨dLs (dueW wIK (kErr dk)), dLs [], .lst (SqL.of (sN _ _ eD0)) (dp_strs _), .lst (SqL.of upd_same) .nil, sh_ok okK, by decide +kernel, _, rfl, ?_⟩
    rw [eqv_ls]
    cases due with
    | K e he =>
      rw [he, decide_eq_false (by rw [dueW_some]; simp)]
      rw [he] at eD0
      exact iteF (rest _ _ ⟨D0, rfl, sN, sN _ _ eD0⟩)
    | R ks e h1 gk he =>
      subst h1
      obtain ⟨k, rfl, hs⟩ := st_dv (hk1.keep (s2.trans sN))
      rw [kErr_full gk]
      refine iteT ⟨.ref k, rfl, vr, rfl, p, k, vr, dr, ks, rfl, hs, hr1'.keep (s2.trans sN), fun D H5 s5 n5 e5 => rest _ _ ⟨D, rfl, sN.trans s5, ?_⟩⟩
      rw [he] at e5
      exact e5
    | O ks rs h1 gk h2 g2 =>
      subst h1
      obtain ⟨k, rfl, hs⟩ := st_dv (hk1.keep (s2.trans sN))
      rw [kErr_full gk]
      refine iteT ⟨.ref k, rfl, vr, rfl, p, k, vr, dr, ks, rfl, hs, hr1'.keep (s2.trans sN), fun D H5 s5 n5 e5 => rest _ _ ⟨D, rfl, sN.trans s5, ?_⟩⟩
      rw [h2, rErr_full g2] at e5
      exact e5
  rintro σ G3 ⟨D, rfl, s3, eD⟩
  have s13 := s2.trans s3
  replace D1 := D1.keep s13
  replace T1 := T1.ext s13
  replace b1 := b1.trans (.same s13)
  replace hM1 := hM1.keep s13
  replace hk1 := hk1.keep s13
  replace hr1' := hr1'.keep s13
  clear s2 s3 s13 eD0
  -- told
  refine seq_join (fun σ G => ∃ L, σ = [some (.ref p), some (.ref b), some (.ref L), some (.ref D), some (.int (0 + (i : Int))), o5, some vk, some (.ref x1), some v, some vr] ∧ ExtN G3 G ∧ Tabs [(Pt, qLam)] G ∧ TO G L ws wd) ?_ fun rest => ?_
  rotate_left
  · refine ⟨T1, fun H4 x4 T4 => ⟨vk, rfl, vr, rfl, fun x dx nx nd ne => ?_⟩⟩
    have s0 := mk_base (C := C) nx nd
    refine ini_sp (wd := wd) (ws := ws) due upd_same ((dv_ext hk1 D1 x4).keep s0) ((dv_ext hr1' D1 x4).keep s0) (fun n u dd dA H5 hn s5 e5 hdd sbd hw => ⟨true, xm n hn, fun _ => ⟨n, dA, u, dd, hn, rfl, rfl, e5, hdd, sbd, fun L H6 s6 eL => ?_⟩, fun h => (by cases h)⟩) (fun H5 hws hwd bt => ⟨rfl, .ref x, rfl, (by show 2 ≤ sizeLine; decide), fun L nL => ?_⟩)
    · have s := s0.trans (s5.trans s6)
      refine rest _ _ ⟨L, rfl, ext_same x4 s, T4.ext s, ?_⟩
      rcases hw with ⟨n1, h1⟩ | ⟨n1, h1⟩
      · exact .inl ⟨n1, by rw [h1]; exact eL⟩
      · exact .inr ⟨n1, _, by rw [h1]; exact eL⟩
    · have s := (mk_same nx nd bt).trans (same_new (o := .lst [.str "given", .ref x]) nL)
      exact rest _ _ ⟨L, rfl, ext_same x4 s, T4.ext s, .inr ⟨hws, _, by rw [hwd]; exact upd_same⟩⟩
  rintro σ G4 ⟨L, rfl, x4, T4, o4'⟩
  have D4 := deal_ext D1 x4
  -- again
  refine seq_join (fun σ G => ∃ L', σ = [some (.ref p), some (.ref b), some (.ref L), some (.ref D), some (.int (0 + (i : Int))), some (.ref L'), some vk, some (.ref x1), some v, some vr] ∧ ExtN G4 G ∧ Tabs [(Pt, qLam)] G ∧ TO G L' ws wd) ?_ fun rest => ?_
  rotate_left
  · refine ⟨T4, fun H5 x5 T5 => ⟨vr, rfl, vk, rfl, rfl, rfl, fun x dx nx nd ne => ?_⟩⟩
    have s0 := mk_base (C := C) nx nd
    have x45 := x4.trans x5
    refine ini_sp (wd := wd) (ws := ws) due upd_same ((dv_ext hk1 D1 x45).keep s0) ((dv_ext hr1' D1 x45).keep s0) (fun n u dd dA H6 hn s6 e6 hdd sbd hw => ⟨true, xm n hn, fun _ => ⟨n, dA, u, dd, hn, rfl, rfl, e6, hdd, sbd, fun L' H7 s7 eL => ?_⟩, fun h => (by cases h)⟩) (fun H6 hws hwd bt => ⟨rfl, .ref x, rfl, (by show 2 ≤ sizeLine; decide), fun L' nL => ?_⟩)
    · have s := s0.trans (s6.trans s7)
      refine rest _ _ ⟨L', rfl, ext_same x5 s, T5.ext s, ?_⟩
      rcases hw with ⟨n1, h1⟩ | ⟨n1, h1⟩
      · exact .inl ⟨n1, by rw [h1]; exact eL⟩
      · exact .inr ⟨n1, _, by rw [h1]; exact eL⟩
    · have s := (mk_same nx nd bt).trans (same_new (o := .lst [.str "given", .ref x]) nL)
      exact rest _ _ ⟨L', rfl, ext_same x5 s, T5.ext s, .inr ⟨hws, _, by rw [hwd]; exact upd_same⟩⟩
  rintro σ G5 ⟨L', rfl, x5, T5, o5'⟩
  have x35 := x4.trans x5
  replace o4' := o4'.ext x5
  have eD5 := x35 _ _ eD fun _ z => by cases z
  have D5 := deal_ext D1 x35
  have b5 := b1.trans (.ext x35)
  have hM5 := md_ext hM1 x35
  clear D1 T1 b1 hM1 hk1 hr1' eD x4 x5 x35 T4 D4
  -- nothing due
  refine seq_join (fun σ G => σ = [some (.ref p), some (.ref b), some (.ref L), some (.ref D), some (.int (0 + (i : Int))), some (.ref L'), some vk, some (.ref x1), some v, some vr] ∧ Same G5 G) ?_ fun rest => ?_
  rotate_left
  · refine ⟨.ref D, rfl, (by show 0 ≤ sizeLine; exact Nat.zero_le _), fun N nN => ?_⟩
    have sN := same_new (H := G5) (o := .lst []) nN
    refine ⟨dLs ws, dLs [], .lst (SqL.of (sN _ _ eD5)) (dp_strs _), .lst (SqL.of upd_same) .nil, sh_ok okW, by decide +kernel, _, rfl, ?_⟩
    rw [eqv_ls]
    by_cases hw : ws = []
    rotate_left
    · rw [decide_eq_false hw]
      exact iteF (iteF (rest _ _ ⟨rfl, sN⟩))
    rw [decide_eq_true hw]
    obtain ⟨y, eL⟩ : ∃ y, G5 L = some (.lst [.str wd, y]) := by
      rcases o4' with ⟨n, _⟩ | ⟨_, y, e⟩
      · exact absurd hw n
      · exact ⟨y, e⟩
    obtain ⟨y', eL'⟩ : ∃ y, G5 L' = some (.lst [.str wd, y]) := by
      rcases o5' with ⟨n, _⟩ | ⟨_, y, e⟩
      · exact absurd hw n
      · exact ⟨y, e⟩
    refine iteT ⟨.ref L, rfl, L, _, _, .str wd, rfl, rfl, SqL.of (sN _ _ eL), rfl, (by show 2 ≤ sizeLine; decide), fun M nM => ?_⟩
    have sM := same_new (o := .lst [.str "given", .str "EmptyKind"]) nM
    have s := sN.trans sM
    refine ⟨M, _, rfl, .inl (SqL.of upd_same), rfl, rfl, _, rfl, ?_⟩
    have hin : inV (.str wd) [.str "given", .str "EmptyKind"] = true := by
      rw [show ([V.str "given", .str "EmptyKind"] : List V) = ([Str.ofString "given", Str.ofString "EmptyKind"] : List Str).map V.str from rfl, inV_str]
      refine decide_eq_true ?_
      rcases due_w due with h | h <;> rw [h] <;> simp
    rw [if_pos rfl, hin]
    refine iteF ⟨.ref L', rfl, L', _, _, .str wd, rfl, rfl, SqL.of (s _ _ eL'), rfl, .ref L, rfl, L, _, _, .str wd, rfl, rfl, SqL.of (s _ _ eL), rfl, rfl, _, rfl, ?_⟩
    rw [decide_eq_true rfl]
    exact iteF (rest _ _ ⟨rfl, s⟩)
  rintro σ G6 ⟨rfl, s6⟩
  replace o4' := o4'.keep s6
  replace o5' := o5'.keep s6
  have eD6 := s6 _ _ eD5
  replace D5 := D5.keep s6
  replace T5 := T5.ext s6
  replace b5 := b5.trans (.same s6)
  replace hM5 := hM5.keep s6
  clear s6 eD5
  -- something due
  refine ⟨.ref D, rfl, (by show 0 ≤ sizeLine; exact Nat.zero_le _), fun N nN => ?_⟩
  have sN := same_new (H := G6) (o := .lst []) nN
  refine ⟨dLs ws, dLs [], .lst (SqL.of (sN _ _ eD6)) (dp_strs _), .lst (SqL.of upd_same) .nil, sh_ok okW, by decide +kernel, _, rfl, ?_⟩
  rw [eqv_ls]
  by_cases hw : ws = []
  · rw [decide_eq_true hw]
    exact iteF (iteF ⟨_, _, _, _, _, _, rfl, D5.keep sN, T5.ext sN, b5.trans (.same sN), hM5.keep sN⟩)
  rw [decide_eq_false hw]
  have eL : G6 L = some (.lst (ws.map V.str)) := by
    rcases o4' with ⟨_, e⟩ | ⟨n, _⟩
    · exact e
    · exact absurd n hw
  have eL' : G6 L' = some (.lst (ws.map V.str)) := by
    rcases o5' with ⟨_, e⟩ | ⟨n, _⟩
    · exact e
    · exact absurd n hw
  refine iteT ⟨.ref L, rfl, .ref L', rfl, (by show 2 ≤ sizeLine; decide), fun M1 n1 => ?_⟩
  have s1 := same_new (o := .lst [.ref L, .ref L']) n1
  refine ⟨.ref D, rfl, .ref D, rfl, (by show 2 ≤ sizeLine; decide), fun M2 n2 => ?_⟩
  have s2 := same_new (o := .lst [.ref D, .ref D]) n2
  have s := sN.trans (s1.trans s2)
  have dls : ∀ {H' : Hp} {a : Addr}, H' a = some (.lst (ws.map V.str)) → Dp K H' (.ref a) (dLs ws) := fun ee => .lst (SqL.of ee) (dp_strs _)
  have shA : SeqAt.shaped (.list ([ws, ws].map dLs)) = true := sh_ll fun ls hl z hz => by
    simp only [List.mem_cons, List.not_mem_nil, or_false] at hl
    rcases hl with rfl | rfl <;> exact okW z hz
  refine ⟨.list ([ws, ws].map dLs), .list ([ws, ws].map dLs), .lst (SqL.of (s2 _ _ upd_same)) (.cons (dls (s _ _ eL)) (.cons (dls (s _ _ eL')) .nil)), .lst (SqL.of upd_same) (.cons (dls (s _ _ eD6)) (.cons (dls (s _ _ eD6)) .nil)), shA, shA, _, rfl, ?_⟩
  rw [eqv_ll, decide_eq_true rfl]
  exact iteF ⟨_, _, _, _, _, _, rfl, D5.keep s, T5.ext s, b5.trans (.same s), hM5.keep s⟩
end
end Ks
set_option Elab.async false
set_option linter.all false
set_option maxRecDepth 100000
set_option maxHeartbeats 4000000
namespace Ks
open PySem PySem.Spec PyProof.Rows L2 Gd Kx LamX
abbrev sLw : Stmt := Kx.topS 42
theorem scLw : FnScope ["_law_cells", "_law_k"] ["_law_cells"] (defScope sLw) := ⟨rfl, rfl, rfl, by decide +kernel, rfl, by decide +kernel, by decide +kernel⟩
section
variable {P : Program} {w : World} {K : PySem.W.Frag} {mg : Str → Option Value} {base : Heap}
def spLaw (K : PySem.W.Frag) (T : List (Addr × Str)) : Sp := fun vs H Q _ => ∃ (a : Addr) (ns : List Int), vs = [.ref a] ∧ SqL K H a (ns.map V.int) ∧ ns.length ≤ 63 ∧ Tabs T H ∧ ∀ H', Q (.bl true) H'
theorem ok_law {f fn fe fr : Addr} {fd fdn fde fdr : FuncData} {T : List (Addr × Str)} (F : Fun K "law" "law" sLw f fd) (ml : mg "len" = none) (mr : mg "range" = none) (ma : mg "all" = none) (mx : mg "max" = none) (mn : mg "min" = none)
    (GN : FnOk P w K mg base CX0 1 fn fdn ["_law_cells", "_law_k"] (spNum K)) (kn : PySem.W.keepIn K (.ref fn) = true) (bN : Binds K fdn ["_law_cells", "_law_k"] []) (gN : mg "_law_number" = some (.ref fn))
    (GE : FnOk P w K mg base CX0 1 fe fde ["_law_number_here"] spDeal) (ke : PySem.W.keepIn K (.ref fe) = true) (bE : Binds K fde ["_law_number_here"] []) (gE : mg "_law_deal" = some (.ref fe))
    (GR : Pr P w K mg base CX0 8 fr fdr ["_law_deal_here"] (spRgt T)) (kr : PySem.W.keepIn K (.ref fr) = true) (bR : Binds K fdr ["_law_deal_here"] []) (gR : mg "_law_right" = some (.ref fr)) :
    Pr P w K mg base CX0 9 f fd ["_law_cells"] (spLaw K T) := by
  refine okG F scLw (fun vs H Q E h => ?_) (fun cv A ou s H vs Q E hG hr h => ?_)
  · obtain ⟨a, ns, rfl, _⟩ := h
    rfl
  obtain ⟨a, ns, rfl, hS, hl, hT, k⟩ := h
  have hr1 : Room 1 (A.deeper (envOfC "law" (defScope sLw) s.heap.objs.size f cv)) := hr.mono (by decide)
  refine ⟨_, pss_one (ps_ret (pe_callB (cr_all rfl) (by rfl) ma boot_all (pa_cons (pe_lc (own := [("_law_k", 1)]) (g := gName 1) (tt := tYes) rfl scLw.nd
      (pi_range1 rfl mr (pa_cons (pe_callB (call_max2 rfl) (by rfl) mx boot_max (pa_cons pe_int (pa_cons (pe_callB (call_min2 rfl) (by rfl) mn boot_min (pa_cons (pe_callB call_len_seq (by rfl) ml PySem.boot_len (pa_cons (pv 0) pa_nil)) (pa_cons pe_int pa_nil))) pa_nil))) pa_nil))
      (blkOk_by (own := [("_law_k", 1)]) (N := ["_law_cells", "_law_k"]) (sc := defScope sLw) (by decide +kernel))
      (fun _ _ _ _ _ => pg_name (i := 1) scLw.nd rfl (Or.inl rfl)) (fun _ _ _ _ _ => pts_nil)
      (fun _ _ _ _ _ => pe_callG GR hG hr (by rfl) gR kr bR .nil pass0 (pa_cons (pe_call GE hr1 (by rfl) gE ke bE .nil pass0 (pa_cons (pe_call GN hr1 (by rfl) gN kn bN .nil pass0 (pa_cons (pv 0) (pa_cons (pv 1) pa_nil))) pa_nil)) pa_nil))) pa_nil))), ?_⟩
  refine ⟨.ref a, rfl, a, ns.map V.int, rfl, .inl hS, _, _, rfl, _, _, rfl, _, rfl, ?_, ?_, fun D nD => ?_⟩
  · split <;> split <;> omega
  · rw [List.length_map]
    split <;> split <;> omega
  refine lc_rangeY (fun i H4 => ExtN H H4 ∧ Tabs T H4 ∧ H4 D = some (.lst ((List.replicate i true).map V.bl)) ∧ i ≤ 63) (fun _ => rfl) ⟨.of (same_new nD), hT.ext (same_new nD), upd_same, by omega⟩ ?_ ?_
  · rintro i H4 hi ⟨s4, T4, e4, _⟩
    have hi5 : i < 63 := by
      rw [List.length_map] at hi
      split at hi <;> (first | (split at hi <;> omega) | omega)
    refine ⟨.ref a, rfl, .int (0 + (i : Int)), rfl, a, ns, i, ?_, seq_ext hS s4, hl, fun z H5 s5 => ?_⟩
    · rw [Int.zero_add]
      rfl
    refine ⟨z, rfl, fun p H6 s6 np D6 => ?_⟩
    have e6 := s6 _ _ (s5 _ _ e4)
    have nDp : D ≠ p := fun e => by rw [← e, s5 _ _ e4] at np; cases np
    refine ⟨p, rfl, D6, (T4.ext s5).ext s6, fun H7 b7 T7 => ?_⟩
    have e7 := b7 D _ nDp (fun _ z => by cases z) e6
    refine ⟨_, e7, ?_, ?_, tabs_upd T7 e7, ?_, by omega⟩
    · rw [List.length_map, List.length_replicate]
      exact small1000 (by omega)
    · intro b o e t
      have e5 := s5 b o (s4 b o e t)
      have nb : b ≠ p := fun q => by rw [← q, e5] at np; cases np
      rw [upd_ne (ne_of_none e nD)]
      exact b7 b o nb t (s6 b o e5)
    · rw [upd_same, List.replicate_succ', List.map_append]
      rfl
  · rintro H4 ⟨s4, T4, e4, _⟩
    refine ⟨D, _, rfl, SqL.of e4, ?_⟩
    have : (List.replicate (((if (if (5 : Int) < ((ns.map V.int).length : Int) then (5 : Int) else ((ns.map V.int).length : Int)) > 2 then (if (5 : Int) < ((ns.map V.int).length : Int) then (5 : Int) else ((ns.map V.int).length : Int)) else 2) : Int).toNat) true).all id = true := by
      rw [List.all_eq_true]
      intro x hx
      rw [(List.mem_replicate.mp hx).2]
      rfl
    rw [this]
    exact k _
end
end Ks
set_option Elab.async false
set_option linter.all false
set_option maxRecDepth 100000
set_option maxHeartbeats 4000000
namespace Ks
open PySem PySem.Spec PyProof.Rows L2 Gd Kx
def glos : List Str := ["Schema", "is_name", "_is_one_of", "_check_kinds", "_is_constructor", "_check_constructors", "_check_trees", "_law_number", "_law_deal", "_law_pick", "_law_word", "_law_words", "_law_model", "_law_told", "_law_sort", "_law_is_name", "_law_wrong_kinds", "_law_is_row", "_law_wrong_rows", "_law_bent_row", "_law_bent", "_law_right", "law", "TreeError", "StateError", "LimitError"]
def frees : List Str := ["isinstance", "str", "tuple", "len", "all", "enumerate", "range", "int", "abs", "repr", "max", "min", "list"]
def lmI : List (Str × Int) := [("MOST_KINDS", 4), ("MOST_CONSTRUCTORS", 6), ("MOST_FIELDS", 3), ("LONGEST_NAME", 8)]
def noat : List Str := ["_kinds", "_constructors", "_names", "_places"]
def props : List Str := ["names"]
def meths : List Str := ["of_kind", "constructor", "place"]
def xds : List Xd := [⟨"InvalidKinds", 0, "index"⟩, ⟨"InvalidConstructors", 0, "index"⟩, ⟨"EmptyKind", 1, "kind"⟩, ⟨"UnknownKind", 0, "value"⟩, ⟨"UnknownConstructor", 0, "value"⟩]
def cOf (K : PySem.W.Frag) (i : Nat) : Addr := He.ga K (wdN i)
def ttt (K : PySem.W.Frag) : List Value := [.ref (He.ga K "TreeError"), .ref (He.ga K "StateError"), .ref (He.ga K "LimitError")]
def excB (K : PySem.W.Frag) : Bool := (xds.all fun d => xdB K d) && (((List.range 5).all fun i => (List.range (i + 1)).all fun j => decide (PySem.W.kitOne K (.ref (cOf K i)) (.ref (cOf K j)) = some (decide (i = j)))) && ((List.range 5).all fun i => decide (PySem.W.exmAny K (.ref (cOf K i)) (ttt K) = some true)))
def tab (K : PySem.W.Frag) : Bool := (glos.all fun x => (He.Fa.glo x).ok K) && ((frees.all fun x => (He.Fa.free x).ok K) && ((lmI.all fun x => (He.Fa.int x.1 x.2).ok K) && ((He.Fa.str "LETTERS" lets).ok K && ((He.Fa.str "NAME_SIGNS" signs).ok K &&
  ((He.Fa.cls "Schema").ok K && ((He.Fa.mkr "Schema").ok K && ((noat.all fun x => (He.Fa.noat "Schema" x).ok K) && ((props.all fun x => propB K "Schema" x) && ((meths.all fun x => (He.Fa.meth "Schema" x).ok K) && excB K)))))))))
def gF (x : Str) (i : Nat) : FnX := ⟨gAd x, x, x, Kx.topS i⟩
def mF (m : Str) (i : Nat) : FnX := ⟨mAd "Schema" m, m, "Schema." ++ m, cS i⟩
def pF (m : Str) (i : Nat) : FnX := ⟨pAd "Schema" m, m, "Schema." ++ m, cS i⟩
def xF (C : Str) (i : Nat) : FnX := ⟨mAd C "__init__", "__init__", C ++ ".__init__", inClass (Kx.topS i) 0⟩
def fn : List FnX := [gF "is_name" 17, gF "_is_one_of" 18, gF "_check_kinds" 19, gF "_is_constructor" 20, gF "_check_constructors" 21, gF "_check_trees" 22, gF "_law_number" 27, gF "_law_deal" 28, gF "_law_pick" 29, gF "_law_word" 30, gF "_law_words" 31, gF "_law_model" 32, gF "_law_told" 33, gF "_law_sort" 34, gF "_law_is_name" 35, gF "_law_wrong_kinds" 36, gF "_law_is_row" 37, gF "_law_wrong_rows" 38, gF "_law_bent_row" 39, gF "_law_bent" 40, gF "_law_right" 41, gF "law" 42] ++
  [mF "__init__" 0, pF "names" 5, mF "of_kind" 6, mF "constructor" 7, mF "place" 8, xF "InvalidKinds" 7, xF "InvalidConstructors" 8, xF "EmptyKind" 9, xF "UnknownKind" 4, xF "UnknownConstructor" 5]
def tf : List He.Defn := [("_law_right", none)]
abbrev R : PySem.W.OpenRow := PySem.W.OpenLaw.row PySem.Challenge.rw_fivetrees_k03_schemas_refused
abbrev hk : PySem.W.Hook := hookZ 5 tab fn tf
def ob (s : PySem.W.SharedT) : AlX := obsZG 5 tab fn tf (HandSHeadRun.getT s)
theorem ob_eq (s : PySem.W.SharedT) : ob s = hk.obs s.abs := obsZG_eq (HandSHeadRun.getT_eq s)
end Ks
set_option Elab.async false
set_option linter.all false
set_option maxRecDepth 100000
set_option maxHeartbeats 0
namespace Ks
open PySem PySem.Spec PyProof.Rows L2 Gd Kx
def n1 : List PySem.Str := ["TreeError", "StateError", "LimitError", "UnknownKind", "UnknownConstructor", "InvalidText", "InvalidKinds", "InvalidConstructors", "EmptyKind", "MOST_KINDS", "MOST_CONSTRUCTORS", "MOST_FIELDS", "LETTERS", "NAME_SIGNS", "LONGEST_NAME", "is_name", "_is_one_of", "_check_kinds", "_is_constructor"]
def n2 : List PySem.Str := ["_check_constructors", "_check_trees", "_parts", "schema_of_text", "Schema", "_law_number", "_law_deal", "_law_pick", "_law_word", "_law_words", "_law_model", "_law_told", "_law_sort", "_law_is_name", "_law_wrong_kinds", "_law_is_row", "_law_wrong_rows", "_law_bent_row", "_law_bent", "_law_right"]
abbrev loose : List PySem.Str := n1 ++ n2
theorem run (w : World) : HandSHeadRun.RunEq R (PySem.W.view R.prog [42]) hk ob 8000 loose w := by
  intro os
  kernel_rfl
end Ks
set_option Elab.async false
set_option linter.all false
set_option maxRecDepth 100000
set_option maxHeartbeats 4000000
namespace Ks
open PySem PySem.Spec PyProof.Rows L2 Gd Kx LamX
section
variable {P : Program} {w : World} {K : PySem.W.Frag} {mg : Str → Option Value} {base : Heap} {h : Heap}
theorem tab1 (c : SaysY tab fn K) {x : Str} (e : x ∈ glos) : (He.Fa.glo x).ok K = true := List.all_eq_true.mp (He.ba c.facts).1 x e
theorem tab2 (c : SaysY tab fn K) {x : Str} (e : x ∈ frees) : (He.Fa.free x).ok K = true := List.all_eq_true.mp (He.ba (He.ba c.facts).2).1 x e
theorem tab3 (c : SaysY tab fn K) {x : Str} {i : Int} (e : (x, i) ∈ lmI) : (He.Fa.int x i).ok K = true := List.all_eq_true.mp (He.ba (He.ba (He.ba c.facts).2).2).1 (x, i) e
theorem tab_r (c : SaysY tab fn K) : ((He.Fa.str "LETTERS" lets).ok K && ((He.Fa.str "NAME_SIGNS" signs).ok K && ((He.Fa.cls "Schema").ok K && ((He.Fa.mkr "Schema").ok K && ((noat.all fun x => (He.Fa.noat "Schema" x).ok K) && ((props.all fun x => propB K "Schema" x) && ((meths.all fun x => (He.Fa.meth "Schema" x).ok K) && excB K))))))) = true := (He.ba (He.ba (He.ba c.facts).2).2).2
theorem glo_x (X : K.In h) (G : h.Ns mainGlobals mg) (c : SaysY tab fn K) {x : Str} (e : x ∈ glos) : mg x = some (.ref (He.ga K x)) := He.glo_ok X G (tab1 c e)
theorem free_x (X : K.In h) (G : h.Ns mainGlobals mg) (c : SaysY tab fn K) {x : Str} (e : x ∈ frees) : mg x = none := He.free_ok X G (tab2 c e)
theorem scl_of (c : SaysY tab fn K) : SCl K (He.ga K "Schema") := by
  obtain ⟨_, q⟩ := He.ba (tab_r c)
  obtain ⟨_, q⟩ := He.ba q
  obtain ⟨q1, q⟩ := He.ba q
  obtain ⟨_, q⟩ := He.ba q
  obtain ⟨q2, _⟩ := He.ba q
  have na : ∀ x ∈ noat, NoAttr K (He.ga K "Schema") x := fun x hx => He.noat_ok (List.all_eq_true.mp q2 x hx)
  exact ⟨He.cls_ok q1, na _ (by decide +kernel), na _ (by decide +kernel), na _ (by decide +kernel), na _ (by decide +kernel)⟩
theorem mk_of (c : SaysY tab fn K) : Mk K (He.ga K "Schema") (mAd "Schema" "__init__" K) := by
  obtain ⟨_, q⟩ := He.ba (tab_r c)
  obtain ⟨_, q⟩ := He.ba q
  obtain ⟨_, q⟩ := He.ba q
  exact He.mkr_ok (He.ba q).1
theorem prop_of (c : SaysY tab fn K) {x : Str} (e : x ∈ props) : PropOf K (He.ga K "Schema") x (He.ma K (He.ga K "Schema") x) (pAd "Schema" x K) := by
  obtain ⟨_, q⟩ := He.ba (tab_r c)
  obtain ⟨_, q⟩ := He.ba q
  obtain ⟨_, q⟩ := He.ba q
  obtain ⟨_, q⟩ := He.ba q
  obtain ⟨_, q⟩ := He.ba q
  exact prop_ok (List.all_eq_true.mp (He.ba q).1 x e)
theorem meth_of (c : SaysY tab fn K) {x : Str} (e : x ∈ meths) : Meth K (He.ga K "Schema") x (mAd "Schema" x K) := by
  obtain ⟨_, q⟩ := He.ba (tab_r c)
  obtain ⟨_, q⟩ := He.ba q
  obtain ⟨_, q⟩ := He.ba q
  obtain ⟨_, q⟩ := He.ba q
  obtain ⟨_, q⟩ := He.ba q
  obtain ⟨_, q⟩ := He.ba q
  exact He.meth_ok (List.all_eq_true.mp (He.ba q).1 x e)
theorem exc_of (c : SaysY tab fn K) : excB K = true := by
  obtain ⟨_, q⟩ := He.ba (tab_r c)
  obtain ⟨_, q⟩ := He.ba q
  obtain ⟨_, q⟩ := He.ba q
  obtain ⟨_, q⟩ := He.ba q
  obtain ⟨_, q⟩ := He.ba q
  obtain ⟨_, q⟩ := He.ba q
  exact (He.ba q).2
theorem ts_of (X : K.In h) (G : h.Ns mainGlobals mg) (c : SaysY tab fn K) : TS0 mg where
  isi := free_x X G c (by decide +kernel)
  str := free_x X G c (by decide +kernel)
  tup := free_x X G c (by decide +kernel)
  len := free_x X G c (by decide +kernel)
  all := free_x X G c (by decide +kernel)
  enu := free_x X G c (by decide +kernel)
  rng := free_x X G c (by decide +kernel)
  mki := He.int_ok X G (tab3 c (by decide +kernel))
  mco := He.int_ok X G (tab3 c (by decide +kernel))
  mfi := He.int_ok X G (tab3 c (by decide +kernel))
theorem fun_g (c : SaysY tab fn K) (i : Nat) (x : Str) (j : Nat) (h : fn[i]? = some (gF x j)) : ∃ fd, Fun K x x (Kx.topS j) (He.ga K x) fd := c.fun_ i h
theorem fun_m (c : SaysY tab fn K) (i : Nat) (m q : Str) (j : Nat) (h : fn[i]? = some (mF m j)) (e : ("Schema." : Str) ++ m = q) : ∃ fd, Fun K m q (cS j) (mAd "Schema" m K) fd := by
  subst e
  exact c.fun_ i h
theorem fun_p (c : SaysY tab fn K) (i : Nat) (m q : Str) (j : Nat) (h : fn[i]? = some (pF m j)) (e : ("Schema." : Str) ++ m = q) : ∃ fd, Fun K m q (cS j) (pAd "Schema" m K) fd := by
  subst e
  exact c.fun_ i h
theorem fun_x (c : SaysY tab fn K) (i : Nat) (C : Str) (j : Nat) (h : fn[i]? = some (xF C j)) : ∃ fd, Fun K "__init__" (C ++ ".__init__") (inClass (Kx.topS j) 0) (He.ma K (He.ga K C) "__init__") fd := c.fun_ i h
theorem law_binds {f : Addr} {fd : FuncData} (F : Fun K "law" "law" sLw f fd) (s : Shared) (v : Value) : BindsTo s fd ⟨[v], []⟩ [("_law_cells", v)] := by
  obtain ⟨oc, od, kV, doc, pm, an, cdv, ct, osl, rfl, lk, hcd⟩ := F.ex
  exact .of_eq rfl
/-- the code of a def -/
theorem code_of {x q : Str} {st : Stmt} {fd : FuncData} (F : Fun K x q st (He.ga K x) fd) : fd.code = .ref (He.codeOf K (x, none)) := by
  obtain ⟨oc, od, kV, doc, pm, an, cdv, ct, osl, rfl, lk, hcd⟩ := F.ex
  obtain ⟨c, rfl⟩ := He.codeIn_ref hcd
  have := He.codeOf_eq (K := K) (p := (x, none)) (c := c) lk rfl
  rw [this]
theorem kb1 {x q y : Str} {st : Stmt} {f : Addr} {fd : FuncData} (F : Fun K x q st f fd)
    (h : ∀ (kV doc pm : Value) (an : Option Addr) (cdv ct u v : Value), bindArgs (PySem.W.fnOf x q (defArgs st) (defBody st) (defScope st) .none kV doc pm an cdv ct) ⟨[u], [(y, v)]⟩ = pure [(("self" : Str), u), (y, v)])
    (h2 : ∀ (kV doc pm : Value) (an : Option Addr) (cdv ct u v : Value), bindArgs (PySem.W.fnOf x q (defArgs st) (defBody st) (defScope st) .none kV doc pm an cdv ct) ⟨[u, v], []⟩ = pure [(("self" : Str), u), (y, v)]) : KBinds K fd ["self", y] [y] gM gM := by
  obtain ⟨oc, od, kV, doc, pm, an, cdv, ct, osl, rfl, lk, hcd⟩ := F.ex
  refine ⟨fun s us ws _ hl => ?_, fun r z => gM_rel r z⟩
  match us, ws, hl with
  | [u], [v], _ => exact .of_eq (h _ _ _ _ _ _ u v)
  | [u, v], [], _ => exact .of_eq (h2 _ _ _ _ _ _ u v)
  | [], _, hl => simp [gM] at hl
  | [_], [], hl => simp [gM] at hl
  | [_], _ :: _ :: _, hl => simp [gM] at hl
  | [_, _], _ :: _, hl => simp [gM] at hl
  | _ :: _ :: _ :: _, _, hl => simp [gM] at hl
theorem scX0 : FnScope ["self", "index"] ["self", "index"] (defScope (inClass (Kx.topS 7) 0)) := ⟨rfl, rfl, rfl, by decide +kernel, rfl, by decide +kernel, by decide +kernel⟩
theorem scX1 : FnScope ["self", "index"] ["self", "index"] (defScope (inClass (Kx.topS 8) 0)) := ⟨rfl, rfl, rfl, by decide +kernel, rfl, by decide +kernel, by decide +kernel⟩
theorem scX2 : FnScope ["self", "kind"] ["self", "kind"] (defScope (inClass (Kx.topS 9) 0)) := ⟨rfl, rfl, rfl, by decide +kernel, rfl, by decide +kernel, by decide +kernel⟩
theorem scX3 : FnScope ["self", "value"] ["self", "value"] (defScope (inClass (Kx.topS 4) 0)) := ⟨rfl, rfl, rfl, by decide +kernel, rfl, by decide +kernel, by decide +kernel⟩
theorem scX4 : FnScope ["self", "value"] ["self", "value"] (defScope (inClass (Kx.topS 5) 0)) := ⟨rfl, rfl, rfl, by decide +kernel, rfl, by decide +kernel, by decide +kernel⟩
theorem facts {l : PySem.W.OpenLaw} {fa : Addr} (X : K.In h) (G : h.Ns mainGlobals mg) (hfa : mg ("law" : Str) = some (.ref fa)) (z : SaysZ tab fn tf h K) : LawT l w K 9 63 "_law_cells" mg fa h := by
  have c := z.y
  have e := hfa.symm.trans (glo_x X G c (x := "law") (by decide +kernel))
  cases e
  obtain ⟨d0, F0⟩ := fun_g c 0 "is_name" 17 (by rfl)
  obtain ⟨d1, F1⟩ := fun_g c 1 "_is_one_of" 18 (by rfl)
  obtain ⟨d2, F2⟩ := fun_g c 2 "_check_kinds" 19 (by rfl)
  obtain ⟨d3, F3⟩ := fun_g c 3 "_is_constructor" 20 (by rfl)
  obtain ⟨d4, F4⟩ := fun_g c 4 "_check_constructors" 21 (by rfl)
  obtain ⟨d5, F5⟩ := fun_g c 5 "_check_trees" 22 (by rfl)
  obtain ⟨d6, F6⟩ := fun_g c 6 "_law_number" 27 (by rfl)
  obtain ⟨d7, F7⟩ := fun_g c 7 "_law_deal" 28 (by rfl)
  obtain ⟨d8, F8⟩ := fun_g c 8 "_law_pick" 29 (by rfl)
  obtain ⟨d9, F9⟩ := fun_g c 9 "_law_word" 30 (by rfl)
  obtain ⟨d10, F10⟩ := fun_g c 10 "_law_words" 31 (by rfl)
  obtain ⟨d11, F11⟩ := fun_g c 11 "_law_model" 32 (by rfl)
  obtain ⟨d12, F12⟩ := fun_g c 12 "_law_told" 33 (by rfl)
  obtain ⟨d13, F13⟩ := fun_g c 13 "_law_sort" 34 (by rfl)
  obtain ⟨d14, F14⟩ := fun_g c 14 "_law_is_name" 35 (by rfl)
  obtain ⟨d15, F15⟩ := fun_g c 15 "_law_wrong_kinds" 36 (by rfl)
  obtain ⟨d16, F16⟩ := fun_g c 16 "_law_is_row" 37 (by rfl)
  obtain ⟨d17, F17⟩ := fun_g c 17 "_law_wrong_rows" 38 (by rfl)
  obtain ⟨d18, F18⟩ := fun_g c 18 "_law_bent_row" 39 (by rfl)
  obtain ⟨d19, F19⟩ := fun_g c 19 "_law_bent" 40 (by rfl)
  obtain ⟨d20, F20⟩ := fun_g c 20 "_law_right" 41 (by rfl)
  obtain ⟨d21, F21⟩ := fun_g c 21 "law" 42 (by rfl)
  obtain ⟨e0, M0⟩ := fun_m c 22 "__init__" "Schema.__init__" 0 (by rfl) (by decide +kernel)
  obtain ⟨e5, M5⟩ := fun_p c 23 "names" "Schema.names" 5 (by rfl) (by decide +kernel)
  obtain ⟨e6, M6⟩ := fun_m c 24 "of_kind" "Schema.of_kind" 6 (by rfl) (by decide +kernel)
  obtain ⟨e7, M7⟩ := fun_m c 25 "constructor" "Schema.constructor" 7 (by rfl) (by decide +kernel)
  obtain ⟨e8, M8⟩ := fun_m c 26 "place" "Schema.place" 8 (by rfl) (by decide +kernel)
  obtain ⟨y0, N0⟩ := fun_x c 27 "InvalidKinds" 7 (by rfl)
  obtain ⟨y1, N1⟩ := fun_x c 28 "InvalidConstructors" 8 (by rfl)
  obtain ⟨y2, N2⟩ := fun_x c 29 "EmptyKind" 9 (by rfl)
  obtain ⟨y3, N3⟩ := fun_x c 30 "UnknownKind" 4 (by rfl)
  obtain ⟨y4, N4⟩ := fun_x c 31 "UnknownConstructor" 5 (by rfl)
  have b0 : Binds K d0 ["value"] [] := F0.binds fun _ _ _ _ _ _ us hl => match us, hl with | [_], _ => rfl
  have b1 : Binds K d1 ["value", "names"] [] := F1.binds fun _ _ _ _ _ _ us hl => match us, hl with | [_, _], _ => rfl
  have b2 : Binds K d2 ["kinds"] [] := F2.binds fun _ _ _ _ _ _ us hl => match us, hl with | [_], _ => rfl
  have b3 : Binds K d3 ["value", "kinds"] [] := F3.binds fun _ _ _ _ _ _ us hl => match us, hl with | [_, _], _ => rfl
  have b4 : Binds K d4 ["constructors", "kinds"] [] := F4.binds fun _ _ _ _ _ _ us hl => match us, hl with | [_, _], _ => rfl
  have b5 : Binds K d5 ["kinds", "constructors"] [] := F5.binds fun _ _ _ _ _ _ us hl => match us, hl with | [_, _], _ => rfl
  have b6 : Binds K d6 ["_law_cells", "_law_k"] [] := F6.binds fun _ _ _ _ _ _ us hl => match us, hl with | [_, _], _ => rfl
  have b7 : Binds K d7 ["_law_number_here"] [] := F7.binds fun _ _ _ _ _ _ us hl => match us, hl with | [_], _ => rfl
  have b8 : Binds K d8 ["_law_deal_here", "_law_many"] [] := F8.binds fun _ _ _ _ _ _ us hl => match us, hl with | [_, _], _ => rfl
  have b9 : Binds K d9 ["_law_deal_here", "_law_taken"] [] := F9.binds fun _ _ _ _ _ _ us hl => match us, hl with | [_, _], _ => rfl
  have b10 : Binds K d10 ["_law_deal_here", "_law_many"] [] := F10.binds fun _ _ _ _ _ _ us hl => match us, hl with | [_, _], _ => rfl
  have b11 : Binds K d11 ["_law_deal_here"] [] := F11.binds fun _ _ _ _ _ _ us hl => match us, hl with | [_], _ => rfl
  have b12 : Binds K d12 ["_law_act"] [] := F12.binds fun _ _ _ _ _ _ us hl => match us, hl with | [_], _ => rfl
  have b13 : Binds K d13 ["_law_e"] [] := F13.binds fun _ _ _ _ _ _ us hl => match us, hl with | [_], _ => rfl
  have b14 : Binds K d14 ["_law_thing"] [] := F14.binds fun _ _ _ _ _ _ us hl => match us, hl with | [_], _ => rfl
  have b15 : Binds K d15 ["_law_kinds_own"] [] := F15.binds fun _ _ _ _ _ _ us hl => match us, hl with | [_], _ => rfl
  have b16 : Binds K d16 ["_law_kinds_own", "_law_row", "_law_taken"] [] := F16.binds fun _ _ _ _ _ _ us hl => match us, hl with | [_, _, _], _ => rfl
  have b17 : Binds K d17 ["_law_kinds_own", "_law_rows"] [] := F17.binds fun _ _ _ _ _ _ us hl => match us, hl with | [_, _], _ => rfl
  have b18 : Binds K d18 ["_law_deal_here", "_law_row"] [] := F18.binds fun _ _ _ _ _ _ us hl => match us, hl with | [_, _], _ => rfl
  have b19 : Binds K d19 ["_law_deal_here", "_law_model_here"] [] := F19.binds fun _ _ _ _ _ _ us hl => match us, hl with | [_, _], _ => rfl
  have b20 : Binds K d20 ["_law_deal_here"] [] := F20.binds fun _ _ _ _ _ _ us hl => match us, hl with | [_], _ => rfl
  have m0 : Binds K e0 ["self", "kinds", "constructors"] [] := M0.binds fun _ _ _ _ _ _ us hl => match us, hl with | [_, _, _], _ => rfl
  have m5 : Binds K e5 ["self"] [] := M5.binds fun _ _ _ _ _ _ us hl => match us, hl with | [_], _ => rfl
  have m6 : Binds K e6 ["self", "kind"] [] := M6.binds fun _ _ _ _ _ _ us hl => match us, hl with | [_, _], _ => rfl
  have m8 : Binds K e8 ["self", "name"] [] := M8.binds fun _ _ _ _ _ _ us hl => match us, hl with | [_, _], _ => rfl
  have k7 : KBinds K e7 ["self", "name"] ["name"] gM gM := kb1 M7 (fun _ _ _ _ _ _ _ _ => rfl) (fun _ _ _ _ _ _ _ _ => rfl)
  have g0 := glo_x X G c (x := "is_name") (by decide +kernel)
  have g1 := glo_x X G c (x := "_is_one_of") (by decide +kernel)
  have g2 := glo_x X G c (x := "_check_kinds") (by decide +kernel)
  have g3 := glo_x X G c (x := "_is_constructor") (by decide +kernel)
  have g4 := glo_x X G c (x := "_check_constructors") (by decide +kernel)
  have g5 := glo_x X G c (x := "_check_trees") (by decide +kernel)
  have g6 := glo_x X G c (x := "_law_number") (by decide +kernel)
  have g7 := glo_x X G c (x := "_law_deal") (by decide +kernel)
  have g8 := glo_x X G c (x := "_law_pick") (by decide +kernel)
  have g9 := glo_x X G c (x := "_law_word") (by decide +kernel)
  have g10 := glo_x X G c (x := "_law_words") (by decide +kernel)
  have g11 := glo_x X G c (x := "_law_model") (by decide +kernel)
  have g12 := glo_x X G c (x := "_law_told") (by decide +kernel)
  have g13 := glo_x X G c (x := "_law_sort") (by decide +kernel)
  have g14 := glo_x X G c (x := "_law_is_name") (by decide +kernel)
  have g15 := glo_x X G c (x := "_law_wrong_kinds") (by decide +kernel)
  have g16 := glo_x X G c (x := "_law_is_row") (by decide +kernel)
  have g17 := glo_x X G c (x := "_law_wrong_rows") (by decide +kernel)
  have g18 := glo_x X G c (x := "_law_bent_row") (by decide +kernel)
  have g19 := glo_x X G c (x := "_law_bent") (by decide +kernel)
  have g20 := glo_x X G c (x := "_law_right") (by decide +kernel)
  have gC := glo_x X G c (x := "Schema") (by decide +kernel)
  have gT := glo_x X G c (x := "TreeError") (by decide +kernel)
  have gS := glo_x X G c (x := "StateError") (by decide +kernel)
  have gL := glo_x X G c (x := "LimitError") (by decide +kernel)
  have T : TS0 mg := ts_of X G c
  have nint : mg "int" = none := free_x X G c (by decide +kernel)
  have nabs : mg "abs" = none := free_x X G c (by decide +kernel)
  have nrep : mg "repr" = none := free_x X G c (by decide +kernel)
  have nmax : mg "max" = none := free_x X G c (by decide +kernel)
  have nmin : mg "min" = none := free_x X G c (by decide +kernel)
  have nlis : mg "list" = none := free_x X G c (by decide +kernel)
  have TI : TI0 mg := ⟨T.isi, T.str, T.len, T.all, He.str_ok X G (He.ba (tab_r c)).1, He.str_ok X G (He.ba (He.ba (tab_r c)).2).1, He.int_ok X G (tab3 c (by decide +kernel))⟩
  have TW : TW0 mg := ⟨T.len, T.str, T.rng⟩
  have Z := scl_of c
  obtain ⟨qx, q⟩ := He.ba (exc_of c)
  obtain ⟨qk, qm⟩ := He.ba q
  have qd : ∀ i, i < 5 → ∃ b, xdB K ⟨wdN i, b, fdN i⟩ = true := fun i hi => by
    have := List.all_eq_true.mp qx
    have five : i = 0 ∨ i = 1 ∨ i = 2 ∨ i = 3 ∨ i = 4 := by omega
    rcases five with rfl | rfl | rfl | rfl | rfl
    · exact ⟨0, this ⟨"InvalidKinds", 0, "index"⟩ (by simp [xds])⟩
    · exact ⟨0, this ⟨"InvalidConstructors", 0, "index"⟩ (by simp [xds])⟩
    · exact ⟨1, this ⟨"EmptyKind", 1, "kind"⟩ (by simp [xds])⟩
    · exact ⟨0, this ⟨"UnknownKind", 0, "value"⟩ (by simp [xds])⟩
    · exact ⟨0, this ⟨"UnknownConstructor", 0, "value"⟩ (by simp [xds])⟩
  have x0 : xdB K ⟨"InvalidKinds", 0, "index"⟩ = true := List.all_eq_true.mp qx _ (by simp [xds])
  have x1 : xdB K ⟨"InvalidConstructors", 0, "index"⟩ = true := List.all_eq_true.mp qx _ (by simp [xds])
  have x2 : xdB K ⟨"EmptyKind", 1, "kind"⟩ = true := List.all_eq_true.mp qx _ (by simp [xds])
  have x3 : xdB K ⟨"UnknownKind", 0, "value"⟩ = true := List.all_eq_true.mp qx _ (by simp [xds])
  have x4 : xdB K ⟨"UnknownConstructor", 0, "value"⟩ = true := List.all_eq_true.mp qx _ (by simp [xds])
  have Fc : FC K mg (cOf K) := ⟨fun i hi => by obtain ⟨b, q⟩ := qd i hi; exact He.glo_ok X G (xd_glo q), fun i hi => by obtain ⟨b, q⟩ := qd i hi; exact xd_xc q, fun i hi => by obtain ⟨b, q⟩ := qd i hi; exact xd_no q,
    fun i j hi hj => of_decide_eq_true (List.all_eq_true.mp (List.all_eq_true.mp qk i (List.mem_range.mpr hi)) j (List.mem_range.mpr (by omega)))⟩
  refine ⟨d21, [He.cT K ("_law_right", none)], spLaw K [((He.cT K ("_law_right", none)).2, qLam)], fun p hp => ?_, fun p hp => ?_, fun p hp => ?_, fun s v => law_binds F21 s v, fun H a ns hl hT hS => ?_, fun base KB GB hTB => ?_⟩
  · rw [List.mem_singleton.mp hp]
    exact z.emp _ (List.mem_singleton.mpr rfl)
  · rw [List.mem_singleton.mp hp]
    exact z.out _ (List.mem_singleton.mpr rfl)
  · rw [List.mem_singleton.mp hp]
    exact PySem.W.codeHd_of_K X (z.hd _ (List.mem_singleton.mpr rfl))
  · refine ⟨a, ns, rfl, hS, hl, fun x hx => ?_, fun _ => rfl⟩
    rw [List.mem_singleton.mp hx]
    exact TabS.nil (hT _ (List.mem_singleton.mpr rfl))
  have TB : TabB base mg (He.codeOf K ("_law_right", none)) (He.cT K ("_law_right", none)).2 := hTB _ (List.mem_singleton.mpr rfl)
  have O0 : One l.prog w K mg base "InvalidKinds" "index" (He.ga K "InvalidKinds") := xd_one X G x0 N0 scX0 rfl rfl rfl (fun _ => rfl) (fun _ _ _ _ _ _ us hl => match us, hl with | [_, _], _ => rfl) (fun _ _ _ _ _ _ _ _ => rfl)
  have O1 : One l.prog w K mg base "InvalidConstructors" "index" (He.ga K "InvalidConstructors") := xd_one X G x1 N1 scX1 rfl rfl rfl (fun _ => rfl) (fun _ _ _ _ _ _ us hl => match us, hl with | [_, _], _ => rfl) (fun _ _ _ _ _ _ _ _ => rfl)
  have O2 : One l.prog w K mg base "EmptyKind" "kind" (He.ga K "EmptyKind") := xd_one X G x2 N2 scX2 rfl rfl rfl (fun _ => rfl) (fun _ _ _ _ _ _ us hl => match us, hl with | [_, _], _ => rfl) (fun _ _ _ _ _ _ _ _ => rfl)
  have O3 : One l.prog w K mg base "UnknownKind" "value" (He.ga K "UnknownKind") := xd_one X G x3 N3 scX3 rfl rfl rfl (fun _ => rfl) (fun _ _ _ _ _ _ us hl => match us, hl with | [_, _], _ => rfl) (fun _ _ _ _ _ _ _ _ => rfl)
  have O4 : One l.prog w K mg base "UnknownConstructor" "value" (He.ga K "UnknownConstructor") := xd_one X G x4 N4 scX4 rfl rfl rfl (fun _ => rfl) (fun _ _ _ _ _ _ us hl => match us, hl with | [_, _], _ => rfl) (fun _ _ _ _ _ _ _ _ => rfl)
  have GI : FnOk l.prog w K mg base CX0 1 _ d0 ["value"] (spIs K) := ok_is F0 TI
  have GO : FnOk l.prog w K mg base CX0 1 _ d1 ["value", "names"] (spOne K) := ok_one F1 T
  have GK0 : FnOk l.prog w K mg base CX0 2 _ d2 ["kinds"] spCk := ok_ck F2 T GI F0.kp b0 g0
  have GJ0 : FnOk l.prog w K mg base CX0 2 _ d3 ["value", "kinds"] spIsC := ok_isC F3 T GI F0.kp b0 g0 GO F1.kp b1 g1
  have GC0 : FnOk l.prog w K mg base CX0 3 _ d4 ["constructors", "kinds"] spCc := ok_cc F4 T GJ0 F3.kp b3 g3
  have GT0 := ok_ct (P := l.prog) (w := w) (base := base) F5 T
  have Gi0 : FnOk l.prog w K mg base CX0 4 _ e0 ["self", "kinds", "constructors"] (spIni (He.ga K "Schema")) := ok_ini M0 T Z GK0 F2.kp b2 g2 GC0 F4.kp b4 g4 GT0 F5.kp b5 g5
  have GKX := ok_ckX (C := He.ga K "InvalidKinds") F2 T GI F0.kp b0 g0 O0 (xd_ty x0)
  have GJV : FnOk l.prog w K mg base CX0 2 _ d3 ["value", "kinds"] spIsV := ok_isV F3 T GI F0.kp b0 g0 GO F1.kp b1 g1
  have GCX := ok_ccX (C := He.ga K "InvalidConstructors") F4 T GJV F3.kp b3 g3 O1 (xd_ty x1)
  have GTX := ok_ctX (C := He.ga K "EmptyKind") F5 T O2 (xd_ty x2)
  have GiV := ok_iniV (C := He.ga K "Schema") (CK := cOf K 0) (CC := cOf K 1) (CE := cOf K 2) M0 T Z GKX F2.kp b2 g2 GCX F4.kp b4 g4 GTX F5.kp b5 g5
  have GofX := ok_ofX (C := He.ga K "Schema") (CU := cOf K 3) M6 T Z GO F1.kp b1 g1 O3 (xd_ty x3)
  have GplX := ok_plX (C := He.ga K "Schema") (CN := cOf K 4) M8 Z GO F1.kp b1 g1 O4 (xd_ty x4)
  have GcoX := ok_coX (C := He.ga K "Schema") (CN := cOf K 4) M7 Z GplX (meth_of c (x := "place") (by decide +kernel)) m8
  have GN : FnOk l.prog w K mg base CX0 1 _ d6 ["_law_cells", "_law_k"] (spNum K) := ok_num F6 T.len nint
  have GE : FnOk l.prog w K mg base CX0 1 _ d7 ["_law_number_here"] spDeal := ok_deal F7 nabs nint
  have GP : FnOk l.prog w K mg base CX0 1 _ d8 ["_law_deal_here", "_law_many"] spPick := ok_pick F8 nint
  have GW : FnOk l.prog w K mg base CX0 2 _ d9 ["_law_deal_here", "_law_taken"] spWord := ok_word F9 TW GP F8.kp b8 g8
  have GWs : FnOk l.prog w K mg base CX0 3 _ d10 ["_law_deal_here", "_law_many"] spWds := ok_wds F10 T.rng GW F9.kp b9 g9
  have GM : FnOk l.prog w K mg base CX0 4 _ d11 ["_law_deal_here"] spMdl := ok_mdl F11 T.rng T.tup T.len GP F8.kp b8 g8 GWs F10.kp b10 g10
  have GSr : FnE l.prog w K mg base 1 _ d13 "_law_e" (spSrt K (cOf K)) := ok_srt F13 T.isi nrep Fc
  have GLn : FnOk l.prog w K mg base CX0 1 _ d14 ["_law_thing"] (spIs K) := ok_lin F14 T
  have GWk : Pr l.prog w K mg base CX0 2 _ d15 ["_law_kinds_own"] spWk := ok_wk F15 T nrep GLn F14.kp b14 g14
  have GRw : FnOk l.prog w K mg base CX0 2 _ d16 ["_law_kinds_own", "_law_row", "_law_taken"] spRow := ok_row F16 T GLn F14.kp b14 g14
  have GWr : Pr l.prog w K mg base CX0 3 _ d17 ["_law_kinds_own", "_law_rows"] spWr := ok_wr F17 T nrep GRw F16.kp b16 g16
  have GBr : FnOk l.prog w K mg base CX0 2 _ d18 ["_law_deal_here", "_law_row"] spBr := ok_br F18 nlis GP F8.kp b8 g8
  have GBn : FnOk l.prog w K mg base CX0 3 _ d19 ["_law_deal_here", "_law_model_here"] spBn := ok_bn F19 nlis T.len GP F8.kp b8 g8 GBr F18.kp b18 g18
  have S : SQ l.prog w K mg base (He.ga K "Schema") (cOf K) := ⟨Z, gC, ⟨_, _, mk_of c, Gi0, m0⟩, ⟨_, _, mk_of c, GiV, m0, kbn_ini M0⟩, ⟨_, _, _, prop_of c (x := "names") (by decide +kernel), ok_gn M5 Z, m5⟩, ⟨_, _, meth_of c (x := "of_kind") (by decide +kernel), GofX, m6⟩, ⟨_, _, meth_of c (x := "place") (by decide +kernel), GplX, m8⟩, ⟨_, _, meth_of c (x := "constructor") (by decide +kernel), GcoX, k7⟩⟩
  have ER' : ER K mg (cOf K) := ⟨_, _, _, gT, gS, gL, fun i hi => of_decide_eq_true (List.all_eq_true.mp qm i (List.mem_range.mpr hi))⟩
  have GR := ok_rgt F20 (code_of F20) TB T nrep nlis S ER' GM F11.kp b11 g11 GP F8.kp b8 g8 GBn F19.kp b19 g19 GWk F15.kp b15 g15 GWr F17.kp b17 g17 F12 b12 g12 GSr F13.kp b13 g13
  exact ok_law F21 T.len T.rng T.all nmax nmin GN F6.kp b6 g6 GE F7.kp b7 g7 GR F20.kp b20 g20
end
end Ks
set_option Elab.async false
set_option linter.all false
set_option maxRecDepth 100000
set_option maxHeartbeats 4000000
open PySem PySem.W PySem.Calls PyProof.Rows
set_option maxHeartbeats 0 in
theorem PySem.Challenge.cw_fivetrees_k03_schemas_refused_holds : PySem.Challenge.rw_fivetrees_k03_schemas_refused.Holds := by
  w_on; o_law
  refine HandSHeadRun.head_any (r := OpenLaw.row PySem.Challenge.rw_fivetrees_k03_schemas_refused) (q := view (OpenLaw.row PySem.Challenge.rw_fivetrees_k03_schemas_refused).prog [42]) (H := Ks.hk) (ob := Ks.ob) (M := 8000) (loose := Ks.loose)
    (d := HandSHeadRun.topDef (OpenLaw.row PySem.Challenge.rw_fivetrees_k03_schemas_refused).prog 42) (kwd := []) Ks.ob_eq (by kernel_rfl) (fun s => by kernel_rfl) Ks.run (by kernel_rfl) (by kernel_rfl) (by kernel_rfl) (by rfl)
    (by first | assumption | decide +kernel) (by decide +kernel) ⟨rfl, rfl, rfl, rfl, rfl, by decide +kernel⟩ ?hw ?hc
  case hw => w_witness2
  case hc =>
    refine Gd.walk_goT (l := PySem.Challenge.rw_fivetrees_k03_schemas_refused) (n := 63) (k := 9) (x := "_law_cells") rfl (by decide) (by kernel_rfl) ⟨rfl, by decide, by decide⟩ ?F
    intro w mg fa h Y G hmg0
    obtain ⟨K, KX, c⟩ := Y
    have hmg : mg ("law" : PySem.Str) = some (.ref fa) := by
      have e : (HandSHeadRun.topDef (OpenLaw.row PySem.Challenge.rw_fivetrees_k03_schemas_refused).prog 42).name = ("law" : PySem.Str) := by kernel_rfl
      rw [← e]
      exact hmg0
    exact ⟨K, KX, Ks.facts (l := PySem.Challenge.rw_fivetrees_k03_schemas_refused) KX G hmg c⟩
