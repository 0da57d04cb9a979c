import PyProof.Rows.All
import Wide.All
import OpenK.AllK
import Wide.FinOn
import HandS.ForMost
import HandS.IsInst
import PySem.Challenge.RW_fivetrees_k01_names
set_option Elab.async false
set_option linter.all false
set_option maxRecDepth 100000
set_option maxHeartbeats 4000000
/-! Promises of defs that are called while no repr is under way; repr of lists and tuples; a law's end over them. -/
namespace Gd
open PySem PySem.Spec PyProof.Rows L2

/-- as FnOk, for calls at which no repr is under way -/
structure Pr (P : Program) (w : World) (K : PySem.W.Frag) (mg : Str → Option Value) (base : Heap) (CX : CXT) (k : Nat) (f : Addr) (fd : FuncData) (ps : List Str) (sp : Sp) : Prop where
  size : ∀ us H Q E, sp us H Q E → us.length = ps.length
  go : ∀ (A : Around) (ou : List Env) (s : Shared) (H : Hp) (gs : Args) (us : List Value) (vs : List V) (Q : VK) (E : XK), A.guards = some [] → Room k A →
    Env0 P w K mg base A ou s H → BindsTo s fd gs (ps.zip us) → Vals vs us → sp vs H Q E → codeAny (model P w) A (.call (.ref f) gs) (CR CX ou P w H s Q E) s
theorem Pr.of {P : Program} {w : World} {K : PySem.W.Frag} {mg : Str → Option Value} {base : Heap} {CX : CXT} {k : Nat} {f : Addr} {fd : FuncData} {ps : List Str} {sp : Sp} (F : FnOk P w K mg base CX k f fd ps sp) : Pr P w K mg base CX k f fd ps sp :=
  ⟨F.len, fun A ou s H gs us vs Q E _ => F.run A ou s H gs us vs Q E⟩

theorem pr_of {CX : CXT} {P : Program} {w : World} {K : PySem.W.Frag} {mg : Str → Option Value} {base : Heap} {k : Nat} {f : Addr} {nm qn : Str} {pa : Arguments} {bd : List Stmt} {sc : Scope} {dV kV dc pm cv ct oc : Value} {an od : Option Addr}
    {osl : Array (Option Value)} {N ps : List Str} {sp : Sp} (lk : K.lookup f = some ⟨oc, od, .func (PySem.W.fnOf nm qn pa bd sc dV kV dc pm an cv ct), osl⟩) (hc : PySem.W.codeIn K cv qn = true) (S : FnScope N ps sc)
    (hl : ∀ us H Q E, sp us H Q E → us.length = ps.length)
    (hb : ∀ (A : Around) (ou : List Env) (s : Shared) (H : Hp) (vs : List V) (Q : VK) (E : XK), A.guards = some [] → Room k (A.deeper (envOfC qn sc s.heap.objs.size f cv)) → sp vs H Q E →
      ∃ t, PSs (cxOf CX P w K mg base N qn sc f cv A ou s H E) bd t ∧ t { nx := fun _ H' => Q .non H', rt := Q } (start N vs) H) :
    Pr P w K mg base CX (k + 1) f (PySem.W.fnOf nm qn pa bd sc dV kV dc pm an cv ct) ps sp := by
  constructor
  · exact hl
  intro A ou s H gs us vs Q E hG hR e0 hB hV hS
  have n1 := hl vs H Q E hS
  have inK : K.In s.heap := e0.mod.kin.keeps (fun b o e => (e0.bs b o e).left)
  have noL : s.heap.NoLimit := e0.mod.nolimit.keeps (fun b o e => (e0.bs b o e).left)
  have kinds : ∀ y ∈ ps.zip us, sc.names.lookup y.1 = some .local ∨ (sc.names.lookup y.1 = some .cell ∧ ((cellsFrom (s.heap.objs.size + 1) sc.names []).lookup y.1).isSome = true) := by
    rintro ⟨n, v⟩ hy
    cases S.par n (List.of_mem_zip hy).1 with
    | inl q => exact .inl q
    | inr q => exact .inr ⟨q, PySem.W.cellsFrom_some _ _ _ (.inl q)⟩
  refine codeAny_call_function hR.depth (inK _ _ lk) rfl S.co S.gen rfl (PySem.W.codeRec_of inK hc) (hB _ _ _ _ ?_)
  refine wpAny_newFunctionEnv_cells S.kind kinds fun ev he s2 y => ?_
  subst he
  refine ⟨noL.keeps y.toInCall.keep, codeAny_func ?_⟩
  obtain ⟨t, ht, hq⟩ := hb A ou s H vs Q E hG (hR.deeper _) hS
  have J0 : Inv (cxOf CX P w K mg base N qn sc f cv A ou s H E) [] (start N vs) H s2 := inv_start S hR.hd e0 n1 hV y
  refine wpAny_mono (ht.run [] s2 (start N vs) H _ J0 hq) (fun fl s3 h3 => ?_) fun _ _ z => z
  have fin : ∀ {τ : L2.St} {H' : Hp} {v : V} {u : Value}, Inv (cxOf CX P w K mg base N qn sc f cv A ou s H E) [] τ H' s3 → RelV v u → Q v H' → CE ou P w H s Q u s3 := by
    intro τ H' v u J rv q
    exact ⟨v, H', J.os, J.bare, J.base, J.hok, rv, q⟩
  match fl, h3 with
  | .ret u, ⟨v, τ, H', J, rv, q⟩ => exact fin J rv q
  | .next, ⟨τ, H', J, q⟩ => exact fin (v := V.non) (u := Value.none) J rfl q
  | .brk, ⟨_, _, _, q⟩ => exact False.elim q
  | .cont, ⟨_, _, _, q⟩ => exact False.elim q

section
variable {P : Program} {w : World} {K : PySem.W.Frag} {mg : Str → Option Value} {base : Heap}
/-- a def of the text, by its body -/
theorem okG {x qn : Str} {st : Stmt} {f : Addr} {fd : FuncData} {N ps : List Str} {k : Nat} {sp : Sp} (F : Fun K x qn st f fd) (S : FnScope N ps (defScope st)) (hl : ∀ us H Q E, sp us H Q E → us.length = ps.length)
    (hb : ∀ (cv : Value) (A : Around) (ou : List Env) (s : Shared) (H : Hp) (vs : List V) (Q : VK) (E : XK), A.guards = some [] → Room k (A.deeper (envOfC qn (defScope st) s.heap.objs.size f cv)) → sp vs H Q E →
      ∃ t, PSs (cxOf CX0 P w K mg base N qn (defScope st) f cv A ou s H E).nox (defBody st) t ∧ t { nx := fun _ H' => Q .non H', rt := Q } (start N vs) H) : Pr P w K mg base CX0 (k + 1) f fd ps sp := by
  obtain ⟨oc, od, kV, dc, pm, an, cv, ct, osl, rfl, lk, hc⟩ := F.ex
  refine pr_of lk hc S hl fun A ou s H vs Q E hG hR hS => ?_
  obtain ⟨t, h, q⟩ := hb cv A ou s H vs Q E hG hR hS
  exact ⟨t, h.nox, q⟩
end

section
variable {X : Cx} {CX : CXT} {k : Nat} {f C : Addr} {fd : FuncData} {ps ks : List Str} {sp : Sp} {dvs : List V} {ds : List Value} {E : XK} {x m : Str} {p pos apos : Pos} {e o : Expr} {es : List Expr} {kws : List Keyword} {ta : TE} {t tk : TA}
  {g : List Value → List Value → List Value} {gV : List V → List V → List V}
theorem run_pr {pins : List (Addr × Obj)} {σ : L2.St} {H : Hp} {s : Shared} {Q : VK} {us : List Value} {kw : List (Str × Value)} {ws : List Value} {zs : List V} (F : Pr X.prog X.w X.K X.mg X.base CX k f fd ps sp) (hG : X.A.guards = some []) (hR : Room k X.A) (hx : Passes CX X E)
    (I : Inv X pins σ H s) (hB : BindsTo s fd ⟨us, kw⟩ (ps.zip ws)) (hV : Vals zs ws) (h : sp zs H Q E) : wpAny (model X.prog X.w) X.A (call (.ref f) us kw) (EP X pins σ Q) X.xe s := by
  refine wpAny_call (codeAny_mono (F.go X.A X.stack s H ⟨us, kw⟩ ws zs Q E hG hR I.env0 hB hV h) fun r s' hq => ?_)
  match r, hq with
  | .error e, hq => exact hx pins σ H s e s' I hq
  | .ok (.ret u), hq => exact I.after hq
  | .ok .next, hq => exact False.elim hq
  | .ok .brk, hq => exact False.elim hq
  | .ok .cont, hq => exact False.elim hq
/-- f(e, ..) -/
theorem pe_callG (F : Pr X.prog X.w X.K X.mg X.base CX k f fd ps sp) (hG : X.A.guards = some []) (hR : Room k X.A) (hg : Gl X x) (hm : X.mg x = some (.ref f)) (hk : PySem.W.keepIn X.K (.ref f) = true) (hb : Binds X.K fd ps ds) (hd : Vals dvs ds) (hx : Passes CX X E)
    (ha : PA X (e :: es) t) (hdb : (x == ("__debug__" : Str)) = false := by decide) (he : starEach (e :: es) X.env = (false, eval e X.env) :: starEach es X.env := by rfl) (hpl : (backTo pos (starEach es X.env)).any (·.1) = false := by rfl) :
    PE X (.Call (.Name x p) (e :: es) [] pos) (tCall sp dvs E t) := by
  constructor
  intro pins s σ H Q I h
  refine wpAny_Call_Name_kw (ld_glob I hg hm ?_ hdb)
  refine PySem.W.callWith_K (h₀ := X.base) I.ok.mod.kin hk (thn (ha.run pos pins s σ H _ I h) fun us s2 z2 => ?_) he hpl
  obtain ⟨vs, H2, I2, r2, q2⟩ := z2
  refine ⟨I2.kIn, run_pr F hG hR hx I2 (hb s2 us I2.kIn ?_) (r2.append hd) q2⟩
  rw [← (r2.append hd).length]
  exact F.size _ _ _ _ q2
/-- f(k = v, ..): keywords alone -/
theorem pe_callGK0 (F : Pr X.prog X.w X.K X.mg X.base CX k f fd ps sp) (hG : X.A.guards = some []) (hR : Room k X.A) (hg : Gl X x) (hm : X.mg x = some (.ref f)) (hk : PySem.W.keepIn X.K (.ref f) = true) (hb : KBinds X.K fd ps ks g gV) (hx : Passes CX X E)
    (hkw : PK X kws tk) (hall : (backToKw pos (keywordEach kws X.env)).all (·.1.isSome) = true := by rfl) (hks : (backToKw pos (keywordEach kws X.env)).filterMap (·.1) = ks := by rfl)
    (hdb : (x == ("__debug__" : Str)) = false := by decide)
    (hpl : ((backTo pos (starEach [] X.env)).any (·.1) || (backToKw pos (keywordEach kws X.env)).any (·.1.isNone)) = false := by rfl) :
    PE X (.Call (.Name x p) [] kws pos) (tCallK sp gV E tNil tk) := by
  constructor
  intro pins s σ H Q I h
  refine wpAny_Call_Name_kw (ld_glob I hg hm ?_ hdb)
  refine PySem.W.callWith_KW0 (first := []) (h₀ := X.base) I.ok.mod.kin hk hall (thn (hkw.run pos pins s σ H _ I h) fun us s2 z2 => ?_) hpl
  obtain ⟨zs, H2, I2, r2, q2⟩ := z2
  refine ⟨I2.kIn, ?_⟩
  rw [hks]
  have rr : Vals (gV [] zs) (g [] us) := hb.rel .nil r2
  refine run_pr F hG hR hx I2 (hb.to s2 [] us I2.kIn ?_) rr q2
  rw [← rr.length]
  exact F.size _ _ _ _ q2
end

/-! ### repr of a list or a tuple of plain things -/
def rShow (K : PySem.W.Frag) : List V → Hp → VK → Prop := fun xs H Q => ∃ (a : Addr) (d : PyData), xs = [.ref a] ∧ Dp K H (.ref a) d ∧ d.showable = true ∧ d.hasDict = false ∧ d.depth ≤ 60 ∧ d.shown.length ≤ sizeLine ∧ Q (.str d.shown) H
theorem call_show {X : Cx} (hG : X.A.guards = some []) (hu : X.A.units + 64 < cLine) : CallR X (.builtin "repr") (rShow X.K) := by
  intro pins s σ H xs us Q I r h
  obtain ⟨a, d, rfl, hd, hs, hn, hz, hl, q⟩ := h
  have e1 := Vals.ref1 r
  subst e1
  obtain ⟨as, r1⟩ := Dp.reads I d (.ref a) (.ref a) hd rfl
  exact repr_of_reads' r1 hs (PyData.noDict_hsm hn) hG (by omega) (fun _ _ e => e) (fun h' u tk hk => ⟨.str d.shown, H, I.kept hk, ⟨_, rfl⟩, q⟩) hl

/-! ### a law's end -/
theorem law_go {P : Program} {w : World} {K : PySem.W.Frag} {mg mb : Str → Option Value} {CX : CXT} {k : Nat} {fa a : Addr} {fd : FuncData} {x : Str} {sp : Sp} {s1 : Shared} {vs : List Value} {ns : List Int}
    (KX : K.In s1.heap) (hm : s1.heap.Ns mainGlobals mg) (hb : s1.heap.Ns builtinsNs mb) (hbb : ∀ x : Str, x ≠ "__name__" → mb x = bootBuiltins x) (hlim : s1.heap.NoLimit) (hg : s1.gens = #[])
    (ha : s1.heap.get? a = some { cls := .type "list", data := .seq vs.toArray }) (hi : IntsAre vs ns) (hl : ns.length ≤ sizeLine) (hR : Room k callerA)
    (F : ∀ base : Heap, K.In base → base.Ns mainGlobals mg → Pr P w K mg base CX k fa fd [x] sp) (hbind : ∀ (s : Shared) (u : Value), BindsTo s fd ⟨[u], []⟩ [(x, u)])
    (hsp : ∀ H : Hp, Only H → SqL K H a (ns.map V.int) → sp [.ref a] H (fun v _ => v = .bl true) fun _ _ _ => False)
    (hCX : ∀ H e s', CX [] H s1 (fun _ _ _ => False) e s' → False) :
    codeAny (model P w) callerA (.call (.ref fa) ⟨[.ref a], []⟩) (fun r s' => r = .ok (.ret (.bool true)) ∧ OldK s1.heap s'.heap ∧ s'.os = s1.os ∧ AllBare s'.gens) s1 := by
  have rv := vals_ints hi
  have main : ∀ H : Hp, Only H → SqL K H a (ns.map V.int) → HOk P w H s1.heap → (∀ b, H b ≠ none → b = a) → (H a ≠ none → K.lookup a = none) →
      codeAny (model P w) callerA (.call (.ref fa) ⟨[.ref a], []⟩) (fun r s' => r = .ok (.ret (.bool true)) ∧ OldK s1.heap s'.heap ∧ s'.os = s1.os ∧ AllBare s'.gens) s1 := by
    intro H hO hS hok oa ok
    have only : ∀ {b : Addr}, H b ≠ none → b = a := fun {b} h => oa b h
    have none_of : ∀ {b : Addr}, b ≠ a → H b = none := by
      intro b hb
      rcases hO b with z | ⟨ob, xs, z⟩
      · exact z
      · exact absurd (only (by rw [z]; simp)) hb
    have stay : ∀ {b : Addr} {o : Obj}, s1.heap.get? b = some o → H b = none → (hidT s1.heap H).get? b = some o := fun e n => hidT_get e n
    have ns_of : ∀ {b : Addr} {m : Str → Option Value}, s1.heap.Ns b m → (hidT s1.heap H).Ns b m := by
      rintro b m ⟨o, es, ep, e, d, r⟩
      refine ⟨o, es, ep, stay e (none_of ?_), d, r⟩
      rintro rfl
      rw [ha] at e
      cases e
      exact absurd (show Data.seq vs.toArray 0 = Data.dict es ep from d) (by intro z; cases z)
    have inK : K.In (hidT s1.heap H) := by
      intro b o e
      refine stay (KX b o e) ?_
      rcases hO b with z | ⟨ob, xs, z⟩
      · exact z
      · have nz : H b ≠ none := by rw [z]; simp
        have e' := only nz
        subst e'
        rw [ok nz] at e
        cases e
    obtain ⟨mc, l1, l2⟩ := hlim
    have hM : Mod K mg (hidT s1.heap H) := ⟨inK, ns_of hm, ⟨mb, ns_of hb, hbb⟩, ⟨mc, ns_of l1, l2⟩⟩
    have e0 : Env0 P w K mg (hidT s1.heap H) callerA [] s1 H :=
      ⟨rfl, hM, fun b o e => of_hidT e, Nat.le_of_eq (hidT_size _ _), trivial, fun b z => by simp [frs] at z, hok, .of_eq hg⟩
    refine codeAny_mono ((F _ inK (ns_of hm)).go callerA [] s1 H ⟨[.ref a], []⟩ [.ref a] [.ref a] _ _ rfl hR e0 (hbind s1 (.ref a)) (.cons rfl .nil) (hsp H hO hS)) fun r s2 h => ?_
    match r, h with
    | .error e, h => exact (hCX H e s2 h).elim
    | .ok .next, h => exact False.elim h
    | .ok .brk, h => exact False.elim h
    | .ok .cont, h => exact False.elim h
    | .ok (.ret u), ⟨v, H', os, bare, un, hok', r', q⟩ =>
      have q' : v = .bl true := q
      subst q'
      have r2 : u = Value.bool true := r'
      subst r2
      refine ⟨rfl, OldK.of_keep fun b o e => ?_, os, bare⟩
      rcases hO b with z | ⟨ob, xs, z⟩
      · exact un.keep b o e z (by simp [frs]) (by simp)
      · have z2 := un.frzs b ob _ z
        have g1 := (hok b _ z).1
        have g2 := (hok' b _ z2).1
        rw [e] at g1
        cases g1
        exact g2
  cases hk : K.lookup a with
  | some o =>
    have e := KX a o hk
    rw [ha] at e
    cases e
    exact main (fun _ => none) (fun _ => .inl rfl) (.inr ⟨_, vs.toArray, _, hk, rfl, rfl, rfl, by rw [List.size_toArray, hi.length]; exact hl, by simpa using rv⟩) (fun b u z => by cases (show (none : Option HO) = some u from z)) (fun b z => absurd rfl z) fun z => absurd rfl z
  | none =>
    have at_ : (fun b => if b = a then some (HO.frz { cls := .type "list", data := .seq vs.toArray } (.lst (ns.map V.int))) else none) a = some (HO.frz { cls := .type "list", data := .seq vs.toArray } (.lst (ns.map V.int))) := if_pos rfl
    refine main (fun b => if b = a then some (HO.frz { cls := .type "list", data := .seq vs.toArray } (.lst (ns.map V.int))) else none) (fun b => ?_) (.inl (.inr ⟨_, at_⟩)) (fun b u z => ?_) (fun b z => ?_) fun _ => hk
    · by_cases hb : b = a
      · exact .inr ⟨_, _, if_pos hb⟩
      · exact .inl (if_neg hb)
    · by_cases hb : b = a
      · subst hb
        cases at_.symm.trans z
        exact ⟨ha, by rw [List.length_map]; exact hl, vs, _, rv, ha⟩
      · cases (if_neg hb).symm.trans z
    · by_cases hb : b = a
      · exact hb
      · exact absurd (if_neg hb) z

theorem walk_go {l : PySem.W.OpenLaw} {n k : Nat} {q : Program} {loose : List Str} {XP : (Str → Option Value) → Heap → Prop} {YP : World → Heap → Prop} {d : DefRec} {K : Params → PySem.W.Frag} {x : Str} {sp : PySem.W.Frag → Sp}
    (hn : l.most = some n) (hn2 : n ≤ sizeLine) (hdf : d.params.defaults = []) (hR : Room k callerA)
    (hY : ∀ (w : World) (h : Heap), YP w h → (K w.params).In h)
    (F : ∀ (w : World) (mg : Str → Option Value) (fa : Addr) (h : Heap), (K w.params).In h → h.Ns mainGlobals mg → mg d.name = some (.ref fa) →
      ∃ fd : FuncData, (∀ (s : Shared) (u : Value), BindsTo s fd ⟨[u], []⟩ [(x, u)]) ∧ ∀ base : Heap, (K w.params).In base → base.Ns mainGlobals mg → Pr l.prog w (K w.params) mg base CX0 k fa fd [x] (sp (K w.params)))
    (hsp : ∀ (K : PySem.W.Frag) (H : Hp) (a : Addr) (ns : List Int), ns.length ≤ n → SqL K H a (ns.map V.int) → sp K [.ref a] H (fun v _ => v = .bl true) fun _ _ _ => False) :
    PySem.W.WalkO q loose XP YP l.row.toRowW d [] (fun f vs => PySem.call f vs) := by
  refine Att.attach_call hn hdf fun w s0 s1 mg mb fa o pm cd doc a vs ns G Y ho hd hcd hmg hobj hints hlen hg => ?_
  obtain ⟨fd, hb, hF⟩ := F w mg fa _ (hY w _ Y) G.T.g hmg
  exact law_go (hY w _ Y) G.T.g G.T.b G.T.builtins G.T.nolimit hg hobj hints (Nat.le_trans hlen hn2) hR hF hb (fun H _ hS => hsp _ H a ns hlen hS) fun _ _ _ z => z
end Gd
namespace Kx
open PySem PySem.Spec PyProof.Rows L2 Gd
def topS (i : Nat) : Stmt := PySem.Challenge.pw_fivetrees_k01_names.main.body.getD i (.Pass ⟨0, 0, 0, 0⟩)
abbrev sNum : Stmt := topS 6
abbrev sDeal : Stmt := topS 7
abbrev sPick : Stmt := topS 8
theorem scNum : FnScope ["_law_cells", "_law_k", "_law_mixed", "_law_one", "_law_more"] ["_law_cells", "_law_k"] (defScope sNum) := ⟨rfl, rfl, rfl, by decide +kernel, rfl, by decide +kernel, by decide +kernel⟩
theorem scDeal : FnScope ["_law_number_here"] ["_law_number_here"] (defScope sDeal) := ⟨rfl, rfl, rfl, by decide +kernel, rfl, by decide +kernel, by decide +kernel⟩
theorem scPick : FnScope ["_law_deal_here", "_law_many", "_law_digit", "_law_seed", "_law_turn"] ["_law_deal_here", "_law_many"] (defScope sPick) := ⟨rfl, rfl, rfl, by decide +kernel, rfl, by decide +kernel, by decide +kernel⟩
/-- three ints that deal on -/
def DealAt (H : Hp) (p : Addr) : Prop := ∃ a b c : Int, H p = some (.lst [.int a, .int b, .int c]) ∧ 0 ≤ b ∧ b < 2147483423
/-- all but p stands -/
def Sb (p : Addr) (H H' : Hp) : Prop := ∀ b o, b ≠ p → H b = some o → H' b = some o
theorem Sb.refl {p : Addr} {H : Hp} : Sb p H H := fun _ _ _ e => e
theorem Sb.trans {p : Addr} {H H1 H2 : Hp} (h : Sb p H H1) (h2 : Sb p H1 H2) : Sb p H H2 := fun b o n e => h2 b o n (h b o n e)
theorem Sb.of {p : Addr} {H H1 : Hp} (h : Same H H1) : Sb p H H1 := fun b o _ e => h b o e
theorem Sb.set {p : Addr} {H : Hp} {o : HO} : Sb p H (upd H p o) := fun b x n e => by rw [upd_ne n]; exact e
theorem same_new {H : Hp} {p : Addr} {o : HO} (h : H p = none) : Same H (upd H p o) := fun b x e => by rw [upd_ne (ne_of_none e h)]; exact e
theorem Sb.new {p q : Addr} {H : Hp} {o : HO} (h : H q = none) : Sb p H (upd H q o) := .of (same_new h)
theorem DealAt.keep {H H' : Hp} {p : Addr} (D : DealAt H p) (h : Same H H') : DealAt H' p := by
  obtain ⟨a, b, c, e, l⟩ := D
  exact ⟨a, b, c, h _ _ e, l⟩
/-- a made heap: all that stood but p stands, and a place that was free is free as long as nothing was made there -/
theorem Sb.free {p x : Addr} {H H' : Hp} (h : Sb p H H') (n : x ≠ p) (f : H' x = none) : H x = none := by
  cases e : H x with
  | none => rfl
  | some o =>
    have := h x o n e
    rw [f] at this
    cases this
section
variable {P : Program} {w : World} {K : PySem.W.Frag} {mg : Str → Option Value} {base : Heap}
def spNum (K : PySem.W.Frag) : Sp := fun vs H Q _ => ∃ (a : Addr) (ns : List Int) (k : Nat), vs = [.ref a, .int k] ∧ SqL K H a (ns.map V.int) ∧ ns.length ≤ 63 ∧ ∀ (z : Int) (H' : Hp), Same H H' → Q (.int z) H'
def spDeal : Sp := fun vs H Q _ => ∃ z : Int, vs = [.int z] ∧ ∀ (p : Addr) (H' : Hp), Same H H' → H p = none → DealAt H' p → Q (.ref p) H'
def spPick : Sp := fun vs H Q _ => ∃ (p : Addr) (m : Int), vs = [.ref p, .int m] ∧ DealAt H p ∧ 0 < m ∧ m < 1000000 ∧ ∀ (d : Int) (H' : Hp), 0 ≤ d → d < m → DealAt H' p → Sb p H H' → Q (.int d) H'
theorem ok_num {f : Addr} {fd : FuncData} (F : Fun K "_law_number" "_law_number" sNum f fd) (ml : mg "len" = none) (mi : mg "int" = none) : FnOk P w K mg base CX0 1 f fd ["_law_cells", "_law_k"] (spNum K) := by
  refine F.ok scNum (fun vs H Q E h => ?_) (fun cv A ou s H vs Q E hr h => ?_)
  · obtain ⟨a, ns, k, rfl, _⟩ := h
    rfl
  obtain ⟨a, ns, k, rfl, hS, hl, q⟩ := h
  refine ⟨_, pss_cons (ps_if (pt_cmpR op_lt (pv 1) (pe_callB call_len_seq (by rfl) ml PySem.boot_len (pa_cons (pv 0) pa_nil)) (nomark _))
      (pss_one (ps_ret (pe_callTy call_int1 (by rfl) mi boot_int (pa_cons (pe_ix ix_list (pv 0) (pv 1) (fun _ _ => rfl)) pa_nil)))) pss_nil)
    (pss_cons (ps_set (i := 2) scNum.nd rfl (.inl rfl) (pe_op op_mul pe_int (pe_op op_add (pv 1) pe_int)))
    (pss_cons (ps_for PassesOwn.never rfl (pi_list (pe_slice sl_list (pv 0) po_none (po_some pe_int))) (pg_name (i := 3) scNum.nd rfl (.inl rfl))
      (pss_cons (ps_set (i := 4) scNum.nd rfl (.inl rfl) (pe_op op_mod (pe_callTy call_int1 (by rfl) mi boot_int (pa_cons (pv 3) pa_nil)) pe_int))
      (pss_one (ps_set (i := 2) scNum.nd rfl (.inl rfl) (pe_op op_mod (pe_callTy call_int1 (by rfl) mi boot_int (pa_cons (pe_op op_add (pe_op op_add (pe_op op_mul (pv 2) pe_int) (pv 4)) (pv 1)) pa_nil)) pe_int)))))
    (pss_one (ps_ret (pv 2))))), ?_⟩
  refine ⟨.int k, rfl, .ref a, rfl, a, ns.map V.int, rfl, .inl hS, _, _, rfl, rfl, _, rfl, ite2 (fun e => ?_) (fun e => ?_)⟩
  · have hk : k < ns.length := by
      have := of_decide_eq_true e
      rw [List.length_map] at this
      omega
    refine ⟨.ref a, rfl, .int k, rfl, a, _, _, _, rfl, rfl, hS, atI_nat (j := k) (v := .int (ns[k])) (by rw [List.getElem?_map, List.getElem?_eq_getElem hk]; rfl), .inl ⟨_, rfl, ?_⟩⟩
    exact q _ H fun _ _ e => e
  refine ⟨.int k, rfl, _, _, rfl, rfl, _, _, rfl, rfl, .inl ⟨by decide, by decide⟩, ?_⟩
  refine ⟨.ref a, rfl, 6, rfl, a, _, rfl, hS, fun c nc => ?_⟩
  have s1 : Same H (upd H c (.lst (cutV (ns.map V.int) none (some 6)))) := same_new nc
  have hcut : ∃ ms : List Int, cutV (ns.map V.int) none (some 6) = ms.map V.int := by
    refine ⟨(ns.drop (HT.sIx ns.length 0 none)).take (HT.sIx ns.length ns.length (some 6) - HT.sIx ns.length 0 none), ?_⟩
    unfold cutV
    rw [List.length_map, List.map_take, List.map_drop]
  obtain ⟨ms, ems⟩ := hcut
  rw [ems] at s1 ⊢
  refine ⟨c, rfl, ⟨_, SqL.of upd_same⟩, for_list (K := K) (a := c) (xs := ms.map V.int) (fun i σ H2 => ∃ (z : Int) (o1 o2 : Option V), σ = [some (.ref a), some (.int k), some (.int z), o1, o2] ∧ H2 = upd H c (.lst (ms.map V.int)))
    ⟨_, none, none, rfl, rfl⟩ (fun i σ H2 _ ⟨_, _, _, _, e⟩ => by rw [e]; exact SqL.of upd_same) ?_ ?_⟩
  · rintro i y σ H2 hi ⟨z, o1, o2, rfl, rfl⟩
    obtain ⟨m, rfl⟩ : ∃ m, y = V.int m := by
      rw [List.getElem?_map] at hi
      cases e : ms[i]? with
      | none => rw [e] at hi; cases hi
      | some m => rw [e] at hi; exact ⟨m, (Option.some.inj hi).symm⟩
    refine ⟨.int m, rfl, .inl ⟨_, rfl, _, _, rfl, rfl, (by show (0 : Int) < 999983; decide), ?_⟩⟩
    refine ⟨_, rfl, _, _, rfl, rfl, .inr ⟨by decide, by decide⟩, _, rfl, _, _, rfl, rfl, _, rfl, _, _, rfl, rfl, .inl ⟨_, rfl, _, _, rfl, rfl, (by show (0 : Int) < 2147483423; decide), ?_⟩⟩
    exact ⟨_, _, _, rfl, rfl⟩
  · rintro σ H2 ⟨z, o1, o2, rfl, rfl⟩
    exact ⟨_, rfl, q z _ s1⟩
end
end Kx
namespace Kx
open PySem PySem.Spec PyProof.Rows L2 Gd
section
variable {P : Program} {w : World} {K : PySem.W.Frag} {mg : Str → Option Value} {base : Heap}
theorem ok_deal {f : Addr} {fd : FuncData} (F : Fun K "_law_deal" "_law_deal" sDeal f fd) (ma : mg "abs" = none) (mi : mg "int" = none) : FnOk P w K mg base CX0 1 f fd ["_law_number_here"] spDeal := by
  refine F.ok scDeal (fun vs H Q E h => ?_) (fun cv A ou s H vs Q E hr h => ?_)
  · obtain ⟨z, rfl, _⟩ := h
    rfl
  obtain ⟨z, rfl, q⟩ := h
  refine ⟨_, pss_one (ps_ret (pe_lst (pa_cons (pe_ifExp (PW.pt (pw_or (pt_cmpR op_lt (pv 0) pe_int (nomark _)) (pw_or1 (pt_cmpR op_ge (pv 0) (pe_op op_pow pe_int pe_int) (nomark _)))))
      (pe_callB call_abs (by rfl) ma boot_abs (pa_cons (pv 0) pa_nil)) pe_int)
    (pa_cons (pe_op op_mod (pe_callTy call_int1 (by rfl) mi boot_int (pa_cons (pv 0) pa_nil)) pe_int) (pa_cons pe_int pa_nil))))), ?_⟩
  have fin : ∀ x : Int, (fun (x : V) (H1 : Hp) => tCons (tOp (rI (fun _ j => 0 < j) fun i j => .int (i % j)) (tCB (fun xs H Q => (∃ i, xs = [.int i] ∧ Q (.int i) H) ∨ ∃ k, xs = [.bl k] ∧ Q (.int (if k then 1 else 0)) H) (tCons (tVar 0) tNil)) (tC (.int 2147483423))) (tCons (tC (.int 0)) tNil) [some (.int z)] H1 fun xs H2 => (x :: xs).length ≤ sizeLine ∧ ∀ p, H2 p = none → Q (.ref p) (upd H2 p (.lst (x :: xs)))) (.int x) H := by
    intro x
    refine ⟨.int z, rfl, .inl ⟨_, rfl, _, _, rfl, rfl, (by show (0 : Int) < 2147483423; decide), (by show 3 ≤ sizeLine; decide), fun p hp => ?_⟩⟩
    exact q p _ (same_new hp) hp ⟨x, z % 2147483423, 0, upd_same, Int.emod_nonneg _ (by decide), Int.emod_lt_of_pos _ (by decide)⟩
  refine ⟨.int z, rfl, _, _, rfl, rfl, _, rfl, ite2 (fun e => iteT ?_) (fun e => ?_)⟩
  · exact ⟨.int z, rfl, _, rfl, fin _⟩
  · refine ⟨.int z, rfl, _, _, rfl, rfl, ⟨by decide, by decide, by decide⟩, _, _, rfl, rfl, _, rfl, ite2 (fun e => ?_) (fun e => ?_)⟩
    · exact ⟨.int z, rfl, _, rfl, fin _⟩
    · exact fin 0
theorem ok_pick {f : Addr} {fd : FuncData} (F : Fun K "_law_pick" "_law_pick" sPick f fd) (mi : mg "int" = none) : FnOk P w K mg base CX0 1 f fd ["_law_deal_here", "_law_many"] spPick := by
  refine F.ok scPick (fun vs H Q E h => ?_) (fun cv A ou s H vs Q E hr h => ?_)
  · obtain ⟨p, m, rfl, _⟩ := h
    rfl
  obtain ⟨p, m, rfl, ⟨a, b, c, hp, hb0, hb1⟩, m0, m1, q⟩ := h
  refine ⟨_, pss_cons (ps_asg (pe_op op_add (pe_ix ix_list (pv 0) pe_int (fun _ _ => rfl)) pe_int) (pg_sub (pv 0) pe_int set_list))
    (pss_cons (ps_if (pt_cmpR op_gt (pe_ix ix_list (pv 0) pe_int (fun _ _ => rfl)) pe_int (nomark _))
      (pss_cons (ps_set (i := 2) scPick.nd rfl (.inl rfl) (pe_op op_mod (pe_callTy call_int1 (by rfl) mi boot_int (pa_cons (pe_ix ix_list (pv 0) pe_int (fun _ _ => rfl)) pa_nil)) (pv 1)))
      (pss_cons (ps_asg (pe_op op_fdiv (pe_ix ix_list (pv 0) pe_int (fun _ _ => rfl)) (pv 1)) (pg_sub (pv 0) pe_int set_list))
      (pss_one (ps_ret (pv 2))))) pss_nil)
    (pss_cons (ps_par (i := 3) (j := 4) (by rfl) scPick.nd rfl rfl (by decide) rfl rfl (pa_cons (pe_callTy call_int1 (by rfl) mi boot_int (pa_cons (pe_ix ix_list (pv 0) pe_int (fun _ _ => rfl)) pa_nil)) (pa_cons (pe_callTy call_int1 (by rfl) mi boot_int (pa_cons (pe_ix ix_list (pv 0) pe_int (fun _ _ => rfl)) pa_nil)) pa_nil)) (by rfl))
    (pss_cons (ps_set (i := 3) scPick.nd rfl (.inl rfl) (pe_op op_mod (pe_callTy call_int1 (by rfl) mi boot_int (pa_cons (pe_op op_add (pe_op op_add (pe_op op_mul (pv 3) (pe_op op_add (pe_op op_add (pv 3) pe_int) (pe_op op_mul pe_int (pv 4)))) (pe_op op_mul pe_int (pv 4))) pe_int) pa_nil)) pe_int))
    (pss_cons (ps_asg (pv 3) (pg_sub (pv 0) pe_int set_list))
    (pss_one (ps_ret (pe_op op_mod (pe_callTy call_int1 (by rfl) mi boot_int (pa_cons (pe_op op_fdiv (pv 3) pe_int) pa_nil)) (pv 1)))))))), ?_⟩
  refine ⟨.ref p, rfl, p, _, _, .int c, rfl, rfl, SqL.of hp, rfl, _, _, rfl, rfl, .ref p, rfl, p, _, _, 2, rfl, rfl, hp, rfl, ?_⟩
  have h1 : upd H p (.lst [V.int a, .int b, .int (c + 1)]) p = some (.lst [V.int a, .int b, .int (c + 1)]) := upd_same
  have b1 : Sb p H (upd H p (.lst [V.int a, .int b, .int (c + 1)])) := .set
  refine ⟨.ref p, rfl, p, _, _, .int a, rfl, rfl, SqL.of h1, rfl, _, _, rfl, rfl, _, rfl, ite2 (fun e => ?_) (fun e => ?_)⟩
  · refine ⟨.ref p, rfl, p, _, _, .int a, rfl, rfl, SqL.of h1, rfl, .inl ⟨_, rfl, .int m, rfl, _, _, rfl, rfl, m0, ?_⟩⟩
    refine ⟨.ref p, rfl, p, _, _, .int a, rfl, rfl, SqL.of h1, rfl, .int m, rfl, _, _, rfl, rfl, ⟨m0, by omega⟩, .ref p, rfl, p, _, _, 0, rfl, rfl, h1, rfl, ?_⟩
    refine ⟨.int (a % m), rfl, ?_⟩
    exact q _ _ (Int.emod_nonneg _ (by omega)) (Int.emod_lt_of_pos _ m0) ⟨a / m, b, c + 1, upd_same, hb0, hb1⟩ (b1.trans .set)
  · refine ⟨.ref p, rfl, p, _, _, .int b, rfl, rfl, SqL.of h1, rfl, .inl ⟨_, rfl, .ref p, rfl, p, _, _, .int (c + 1), rfl, rfl, SqL.of h1, rfl, .inl ⟨_, rfl, _, _, rfl, ?_⟩⟩⟩
    refine ⟨.int b, rfl, .int b, rfl, _, _, rfl, rfl, .int (c + 1), rfl, _, _, rfl, rfl, .inl ⟨by decide, by decide⟩, _, _, rfl, rfl, _, _, rfl, rfl, .inl ⟨by omega, by omega⟩, ?_⟩
    refine ⟨.int (c + 1), rfl, _, _, rfl, rfl, .inl ⟨by decide, by decide⟩, _, _, rfl, rfl, _, _, rfl, rfl, .inl ⟨_, rfl, _, _, rfl, rfl, (by show (0 : Int) < 2147483423; decide), ?_⟩⟩
    refine ⟨_, rfl, .ref p, rfl, p, _, _, 1, rfl, rfl, h1, rfl, ?_⟩
    refine ⟨_, rfl, _, _, rfl, rfl, ⟨by decide, by decide⟩, .inl ⟨_, rfl, .int m, rfl, _, _, rfl, rfl, m0, ?_⟩⟩
    exact q _ _ (Int.emod_nonneg _ (by omega)) (Int.emod_lt_of_pos _ m0) ⟨a, _, c + 1, upd_same, Int.emod_nonneg _ (by decide), Int.emod_lt_of_pos _ (by decide)⟩ (b1.trans .set)
end
end Kx
namespace Kx
open PySem PySem.Spec PyProof.Rows L2 Gd
abbrev sIs : Stmt := topS 4
abbrev sLis : Stmt := topS 10
theorem scIs : FnScope ["value", "sign"] ["value"] (defScope sIs) := ⟨rfl, rfl, rfl, by decide +kernel, rfl, by decide +kernel, by decide +kernel⟩
theorem scLis : FnScope ["_law_thing_here", "_law_small", "_law_sign"] ["_law_thing_here"] (defScope sLis) := ⟨rfl, rfl, rfl, by decide +kernel, rfl, by decide +kernel, by decide +kernel⟩
def lets : Str := Str.ofString "abcdefghijklmnopqrstuvwxyz"
def signs : Str := Str.ofString "abcdefghijklmnopqrstuvwxyz0123456789"
def digs : Str := Str.ofString "0123456789"
def inL (c : Nat) : Bool := decide (c ∈ lets.cps.toList)
def inN (c : Nat) : Bool := decide (c ∈ signs.cps.toList)
def inD (c : Nat) : Bool := decide (c ∈ digs.cps.toList)
theorem signs_eq : signs.cps.toList = lets.cps.toList ++ digs.cps.toList := by decide +kernel
theorem inN_eq (c : Nat) : inN c = (inL c || inD c) := by
  unfold inN inL inD
  rw [signs_eq]
  by_cases h1 : c ∈ lets.cps.toList <;> by_cases h2 : c ∈ digs.cps.toList <;> simp [h1, h2]
def nmL : List Nat → Bool
  | [] => false
  | c :: r => decide ((c :: r).length ≤ 8) && inL c && (c :: r).all inN
def nmS (z : Str) : Bool := nmL z.cps.toList
theorem len_list (z : Str) : z.cps.toList.length = z.length := by simp [Str.length]
theorem nmL_cons (c : Nat) (r : List Nat) : nmL (c :: r) = (decide ((c :: r).length ≤ 8) && inL c && (c :: r).all inN) := rfl
theorem nm_long {z : Str} (h : ¬ z.length ≤ 8) : nmS z = false := by
  have ez := len_list z
  unfold nmS
  cases ec : z.cps.toList with
  | nil => rfl
  | cons c r => rw [nmL_cons, ← ec, ez, decide_eq_false h]; rfl
theorem nm_short {z : Str} {c : Nat} {r : List Nat} (ec : z.cps.toList = c :: r) (h : z.length ≤ 8) : nmS z = (inL c && z.cps.toList.all inN) := by
  have ez := len_list z
  unfold nmS
  rw [ec, nmL_cons, ← ec, ez, decide_eq_true h]; rfl
theorem nm_empty {z : Str} (h : z.length = 0) : nmS z = false := by
  have ez := len_list z
  unfold nmS
  cases ec : z.cps.toList with
  | nil => rfl
  | cons c r => rw [ec] at ez; simp at ez; omega
theorem ne_cons {z : Str} (h : 1 ≤ z.length) : ∃ c r, z.cps.toList = c :: r := by
  have ez := len_list z
  cases ec : z.cps.toList with
  | nil => rw [ec] at ez; simp at ez; omega
  | cons c r => exact ⟨c, r, rfl⟩
/-- a comprehension over a text's signs -/
theorem lc_str {x : Str} {g : TG} {tt : TT} {te : TE} {vs : List Nat} {σ : L2.St} {H1 : Hp} {D : Addr} {Qd : Hp → Prop} (Pv : Nat → Hp → Prop) (h0 : Pv 0 (upd H1 D (.lst [])))
    (hs : ∀ i c H, x.cps.toList[i]? = some c → Pv i H → g (.str ⟨#[c]⟩) (wipe σ vs) H fun τ H2 => wipe τ vs = wipe σ vs ∧ tt τ H2 fun b H3 =>
      if b = true then te τ H3 fun y H4 => ∃ acc, H4 D = some (.lst acc) ∧ acc.length < sizeLine ∧ Pv (i + 1) (upd H4 D (.lst (acc ++ [y]))) else Pv (i + 1) H3) (hd : ∀ H, Pv x.cps.toList.length H → Qd H) :
    ∃ W : Nat → Nat → Hp → Prop, (∃ m, W 0 m (upd H1 D (.lst []))) ∧ ∀ i m H, W i m H →
      ((Its x).stop i H ∧ Qd H) ∨ ((Its x).go i H ∧ ∃ Nx : Hp → Prop, (∀ H', Nx H' → ∃ m', m' < m ∧ W (i + 1) m' H') ∧ ∀ v H', (Its x).yld i H v H' → g v (wipe σ vs) H' fun τ H2 => wipe τ vs = wipe σ vs ∧ tt τ H2 fun b H3 =>
        if b = true then te τ H3 fun y H4 => ∃ acc, H4 D = some (.lst acc) ∧ acc.length < sizeLine ∧ Nx (upd H4 D (.lst (acc ++ [y]))) else Nx H3) := by
  have el : x.cps.toList.length = x.cps.size := Array.length_toList
  refine ⟨fun i m H => i + m = x.cps.toList.length ∧ Pv i H, ⟨_, Nat.zero_add _, h0⟩, fun i m H ⟨e, p⟩ => ?_⟩
  cases m with
  | zero =>
    have e2 : i = x.cps.toList.length := e
    exact .inl ⟨(by show x.cps.size ≤ i; omega), hd H (e2 ▸ p)⟩
  | succ m =>
    refine .inr ⟨(by show i < x.cps.size; omega), Pv (i + 1), fun H' p' => ⟨m, Nat.lt_succ_self m, by omega, p'⟩, ?_⟩
    rintro v H' ⟨rfl, c, hc, rfl⟩
    exact hs i c _ (by rw [Array.getElem?_toList]; exact hc) p
theorem yes_of {σ : L2.St} {H : Hp} {Q : Bool → Hp → Prop} (h : Q true H) : tYes σ H Q := h
theorem yes_if {σ : L2.St} {H : Hp} {A B : Hp → Prop} (h : A H) : tYes σ H (fun b H3 => if b = true then A H3 else B H3) := yes_of (iteT (A := A H) (B := B H) h)
/-- the same: one name as the target, no test -/
theorem lc_strY {x : Str} {j : Nat} {te : TE} {vs : List Nat} {σ : L2.St} {H1 : Hp} {D : Addr} {Qd : Hp → Prop} (Pv : Nat → Hp → Prop) (hw : ∀ v, wipe ((wipe σ vs).set j (some v)) vs = wipe σ vs) (h0 : Pv 0 (upd H1 D (.lst [])))
    (hs : ∀ i c H, x.cps.toList[i]? = some c → Pv i H → te ((wipe σ vs).set j (some (.str ⟨#[c]⟩))) H fun y H4 => ∃ acc, H4 D = some (.lst acc) ∧ acc.length < sizeLine ∧ Pv (i + 1) (upd H4 D (.lst (acc ++ [y]))))
    (hd : ∀ H, Pv x.cps.toList.length H → Qd H) : ∃ W : Nat → Nat → Hp → Prop, (∃ m, W 0 m (upd H1 D (.lst []))) ∧ ∀ i m H, W i m H →
      ((Its x).stop i H ∧ Qd H) ∨ ((Its x).go i H ∧ ∃ Nx : Hp → Prop, (∀ H', Nx H' → ∃ m', m' < m ∧ W (i + 1) m' H') ∧ ∀ v H', (Its x).yld i H v H' → gName j v (wipe σ vs) H' fun τ H2 => wipe τ vs = wipe σ vs ∧ tYes τ H2 fun b H3 =>
        if b = true then te τ H3 fun y H4 => ∃ acc, H4 D = some (.lst acc) ∧ acc.length < sizeLine ∧ Nx (upd H4 D (.lst (acc ++ [y]))) else Nx H3) :=
  lc_str Pv h0 (fun i c H e p => ⟨hw _, yes_if (hs i c H e p)⟩) hd
section
variable {P : Program} {w : World} {K : PySem.W.Frag} {mg : Str → Option Value} {base : Heap}
/-- what the top holds that is_name reads -/
structure TI0 (mg : Str → Option Value) : Prop where
  isi : mg "isinstance" = none
  str : mg "str" = none
  len : mg "len" = none
  all : mg "all" = none
  LET : ∃ t, mg "LETTERS" = some (.str lets t)
  SIG : ∃ t, mg "NAME_SIGNS" = some (.str signs t)
  LON : ∃ t, mg "LONGEST_NAME" = some (.int 8 t)
def spIs (K : PySem.W.Frag) : Sp := fun vs H Q _ => ∃ v, vs = [v] ∧
  ((∃ z, v = .str z ∧ z.length ≤ 1000 ∧ ∀ H', Same H H' → Q (.bl (nmS z)) H') ∨ (∃ t, TyX K H v t ∧ PySem.W.kitOne K t (.type "str") = some false ∧ Q (.bl false) H))
theorem ok_is {f : Addr} {fd : FuncData} (F : Fun K "is_name" "is_name" sIs f fd) (T : TI0 mg) : FnOk P w K mg base CX0 1 f fd ["value"] (spIs K) := by
  refine F.ok scIs (fun vs H Q E h => ?_) (fun cv A ou s H vs Q E hr h => ?_)
  · obtain ⟨v, rfl, _⟩ := h
    rfl
  obtain ⟨v, rfl, h⟩ := h
  obtain ⟨t1, mL⟩ := T.LET
  obtain ⟨t2, mS⟩ := T.SIG
  obtain ⟨t3, mN⟩ := T.LON
  refine ⟨_, pss_cons (ps_if (PW.pt (pw_or (pt_not (pt_val (pe_callB call_isi (by rfl) T.isi boot_isinstance (pa_cons (pv 0) (pa_cons (pe_bltn (v := .ty "str") (by rfl) T.str boot_str rfl) pa_nil)))))
        (pw_or1 (pt_not (pt_chain op_le op_le pe_int (pe_callB call_len_str (by rfl) T.len PySem.boot_len (pa_cons (pv 0) pa_nil)) (pe_glob (v := .int 8) (by rfl) mN ⟨_, rfl⟩))))))
      (pss_one (ps_ret pe_bl)) pss_nil)
    (pss_one (ps_ret (pe_and (pe_cmpR op_in_sign (pe_ix ix_str (pv 0) pe_int (fun _ _ => rfl)) (pe_glob (v := .str lets) (by rfl) mL ⟨_, rfl⟩) rfl)
      (pe_one (pe_callB (cr_all rfl) (by rfl) T.all boot_all (pa_cons (pe_lc (own := [("sign", 1)]) (g := gName 1) (tt := tYes) rfl scIs.nd (pi_str (pv 0)) (blkOk_by (own := [("sign", 1)]) (N := ["value", "sign"]) (sc := defScope sIs) (by decide +kernel))
        (fun _ _ _ _ _ => pg_name (i := 1) scIs.nd rfl (Or.inl rfl)) (fun _ _ _ _ _ => pts_nil) (fun _ _ _ _ _ => pe_cmpR op_in_sign (pv 1) (pe_glob (v := .str signs) (by rfl) mS ⟨_, rfl⟩) rfl)) pa_nil)))))), ?_⟩
  rcases h with ⟨z, rfl, hz, q⟩ | ⟨t, ty, ek, q⟩
  · refine ⟨.str z, rfl, .str z, .ty "str", _, _, true, rfl, .ty "str", .base (.str z), kit_ty (by decide +kernel), _, rfl, iteF ?_⟩
    have ez := len_list z
    refine ⟨.str z, rfl, z, rfl, small1000 hz |> Nat.le_of_lt, ?_⟩
    refine ⟨_, _, rfl, rfl, _, rfl, ite2 (fun e1 => ?_) (fun e1 => ?_)⟩
    · have h1 : 1 ≤ z.length := by have := of_decide_eq_true e1; omega
      refine ⟨_, _, rfl, rfl, _, rfl, ite2 (fun e2 => ?_) (fun e2 => ?_)⟩
      · -- longer than eight
        have h2 : ¬ z.length ≤ 8 := fun h => by
          have e3 : decide ((z.length : Int) ≤ 8) = true := decide_eq_true (by omega)
          rw [e3] at e2
          cases e2
        have eq : nmS z = false := nm_long h2
        have q2 := q H fun _ _ e => e
        rw [eq] at q2
        exact q2
      · have h2 : z.length ≤ 8 := by
          by_cases h : z.length ≤ 8
          · exact h
          · refine absurd ?_ e2
            rw [decide_eq_false (show ¬ (z.length : Int) ≤ 8 by omega)]
            rfl
        obtain ⟨c, r, ec⟩ := ne_cons h1
        have en : nmS z = (inL c && z.cps.toList.all inN) := nm_short ec h2
        refine ⟨.str z, rfl, z, 0, c, rfl, rfl, Nat.le_of_lt (small1000 hz), atI_nat (j := 0) (by rw [ec]; rfl), c, lets, rfl, rfl, _, rfl, ite2 (fun e3 => ?_) (fun e3 => ?_)⟩
        · refine ⟨.str z, rfl, z, rfl, fun D nD => lc_strY (x := z) (fun i H2 => Same H H2 ∧ H2 D = some (.lst ((z.cps.toList.take i).map fun c => V.bl (inN c)))) (fun _ => rfl) ⟨same_new nD, upd_same⟩ ?_ ?_⟩
          · rintro i y H2 hi ⟨s2, eD⟩
            refine ⟨_, rfl, y, signs, rfl, rfl, _, eD, ?_, ?_, ?_⟩
            · rw [List.length_map, List.length_take]
              exact small1000 (by omega)
            · intro b o e
              rw [upd_ne (ne_of_none e nD)]
              exact s2 b o e
            · rw [upd_same, List.take_add_one, hi]
              simp [inN]
          · rintro H2 ⟨s2, eD⟩
            rw [List.take_length] at eD
            refine ⟨D, z.cps.toList.map inN, rfl, SqL.of (by rw [eD, List.map_map]; rfl), ?_⟩
            have q2 := q H2 s2
            rw [en] at q2
            have : (inL c && z.cps.toList.all inN) = (z.cps.toList.map inN).all id := by
              rw [show inL c = true from e3, Bool.true_and, List.all_map]
              rfl
            rw [this] at q2
            exact q2
        · have q2 := q H fun _ _ e => e
          rw [en, show inL c = false from Bool.eq_false_iff.mpr e3, Bool.false_and] at q2
          exact q2
    · have h1 : z.length = 0 := by
        by_cases h : z.length = 0
        · exact h
        · exact absurd (decide_eq_true (by omega)) e1
      have eq : nmS z = false := nm_empty h1
      have q2 := q H fun _ _ e => e
      rw [eq] at q2
      exact ⟨_, rfl, iteT q2⟩
  · refine ⟨v, rfl, v, .ty "str", t, .type "str", false, rfl, .ty "str", ty, ek, _, rfl, iteT (iteT q)⟩
end
end Kx
namespace Kx
open PySem PySem.Spec PyProof.Rows L2 Gd
section
variable {P : Program} {w : World} {K : PySem.W.Frag} {mg : Str → Option Value} {base : Heap}
theorem ok_lis {f : Addr} {fd : FuncData} (F : Fun K "_law_is_name" "_law_is_name" sLis f fd) (T : TI0 mg) : FnOk P w K mg base CX0 1 f fd ["_law_thing_here"] (spIs K) := by
  refine F.ok scLis (fun vs H Q E h => ?_) (fun cv A ou s H vs Q E hr h => ?_)
  · obtain ⟨v, rfl, _⟩ := h
    rfl
  obtain ⟨v, rfl, h⟩ := h
  refine ⟨_, pss_cons (ps_if (PW.pt (pw_or (pt_not (pt_val (pe_callB call_isi (by rfl) T.isi boot_isinstance (pa_cons (pv 0) (pa_cons (pe_bltn (v := .ty "str") (by rfl) T.str boot_str rfl) pa_nil)))))
        (pw_or1 (pt_not (pt_chain op_lt op_lt pe_int (pe_callB call_len_str (by rfl) T.len PySem.boot_len (pa_cons (pv 0) pa_nil)) pe_int)))))
      (pss_one (ps_ret pe_bl)) pss_nil)
    (pss_cons (ps_set (i := 1) scLis.nd rfl (Or.inr rfl) pe_str)
    (pss_one (ps_ret (pe_and (pe_cmpR op_in_sign (pe_ix ix_str (pv 0) pe_int (fun _ _ => rfl)) (pv 1) rfl)
      (pe_one (pe_callB (cr_all rfl) (by rfl) T.all boot_all (pa_cons (pe_lc (own := [("_law_sign", 2)]) (g := gName 2) (tt := tYes) rfl scLis.nd (pi_str (pv 0)) (blkOk_by (own := [("_law_sign", 2)]) (N := ["_law_thing_here", "_law_small", "_law_sign"]) (sc := defScope sLis) (by decide +kernel))
        (fun _ _ _ _ _ => pg_name (i := 2) scLis.nd rfl (Or.inl rfl)) (fun _ _ _ _ _ => pts_nil)
        (fun _ _ _ _ _ => pe_or (pe_cmpR op_in_sign (pv 2) (pv 1) rfl) (pe_one (pe_cmpR op_in_sign (pv 2) pe_str rfl)))) pa_nil))))))), ?_⟩
  rcases h with ⟨z, rfl, hz, q⟩ | ⟨t, ty, ek, q⟩
  · refine ⟨.str z, rfl, .str z, .ty "str", _, _, true, rfl, .ty "str", .base (.str z), kit_ty (by decide +kernel), _, rfl, iteF ?_⟩
    have ez := len_list z
    refine ⟨.str z, rfl, z, rfl, small1000 hz |> Nat.le_of_lt, ?_⟩
    refine ⟨_, _, rfl, rfl, _, rfl, ite2 (fun e1 => ?_) (fun e1 => ?_)⟩
    · have h1 : 1 ≤ z.length := by have := of_decide_eq_true e1; omega
      refine ⟨_, _, rfl, rfl, _, rfl, ite2 (fun e2 => ?_) (fun e2 => ?_)⟩
      · have h2 : ¬ z.length ≤ 8 := fun h => by
          have e3 : decide ((z.length : Int) < 9) = true := decide_eq_true (by omega)
          rw [e3] at e2
          cases e2
        have q2 := q H fun _ _ e => e
        rw [nm_long h2] at q2
        exact q2
      · have h2 : z.length ≤ 8 := by
          by_cases h : z.length ≤ 8
          · exact h
          · refine absurd ?_ e2
            rw [decide_eq_false (show ¬ (z.length : Int) < 9 by omega)]
            rfl
        obtain ⟨c, r, ec⟩ := ne_cons h1
        have en : nmS z = (inL c && z.cps.toList.all inN) := nm_short ec h2
        refine ⟨.str z, rfl, z, 0, c, rfl, rfl, Nat.le_of_lt (small1000 hz), atI_nat (j := 0) (by rw [ec]; rfl), .str lets, rfl, c, lets, rfl, rfl, _, rfl, ite2 (fun e3 => ?_) (fun e3 => ?_)⟩
        · refine ⟨.str z, rfl, z, rfl, fun D nD => lc_strY (x := z) (fun i H2 => Same H H2 ∧ H2 D = some (.lst ((z.cps.toList.take i).map fun c => V.bl (inN c)))) (fun _ => rfl) ⟨same_new nD, upd_same⟩ ?_ ?_⟩
          · rintro i y H2 hi ⟨s2, eD⟩
            have fin : ∃ acc, H2 D = some (.lst acc) ∧ acc.length < sizeLine ∧ Same H (upd H2 D (.lst (acc ++ [V.bl (inN y)]))) ∧ upd H2 D (.lst (acc ++ [V.bl (inN y)])) D = some (.lst ((z.cps.toList.take (i + 1)).map fun c => V.bl (inN c))) := by
              refine ⟨_, eD, ?_, ?_, ?_⟩
              · rw [List.length_map, List.length_take]
                exact small1000 (by omega)
              · intro b o e
                rw [upd_ne (ne_of_none e nD)]
                exact s2 b o e
              · rw [upd_same, List.take_add_one, hi]
                simp
            rw [inN_eq] at fin
            refine ⟨_, rfl, .str lets, rfl, y, lets, rfl, rfl, _, rfl, ite2 (fun e => ?_) (fun e => ?_)⟩
            · rw [show inL y = true from e, Bool.true_or] at fin
              exact fin
            · rw [show inL y = false from Bool.eq_false_iff.mpr e, Bool.false_or] at fin
              exact ⟨_, rfl, y, digs, rfl, rfl, fin⟩
          · rintro H2 ⟨s2, eD⟩
            rw [List.take_length] at eD
            refine ⟨D, z.cps.toList.map inN, rfl, SqL.of (by rw [eD, List.map_map]; rfl), ?_⟩
            have q2 := q H2 s2
            rw [en] at q2
            have : (inL c && z.cps.toList.all inN) = (z.cps.toList.map inN).all id := by
              rw [show inL c = true from e3, Bool.true_and, List.all_map]
              rfl
            rw [this] at q2
            exact q2
        · have q2 := q H fun _ _ e => e
          rw [en, show inL c = false from Bool.eq_false_iff.mpr e3, Bool.false_and] at q2
          exact q2
    · have h1 : z.length = 0 := by
        by_cases h : z.length = 0
        · exact h
        · exact absurd (decide_eq_true (by omega)) e1
      have q2 := q H fun _ _ e => e
      rw [nm_empty h1] at q2
      exact ⟨_, rfl, iteT q2⟩
  · refine ⟨v, rfl, v, .ty "str", t, .type "str", false, rfl, .ty "str", ty, ek, _, rfl, iteT (iteT q)⟩
end
end Kx
namespace Kx
open PySem PySem.Spec PyProof.Rows L2 Gd
abbrev sWord : Stmt := topS 9
theorem scWord : FnScope ["_law_deal_here", "_law_taken", "_law_letters", "_law_way", "_law_word_here", "_law_k", "_law_tail"] ["_law_deal_here", "_law_taken"] (defScope sWord) := ⟨rfl, rfl, rfl, by decide +kernel, rfl, by decide +kernel, by decide +kernel⟩
/-! ### names -/
theorem str_app (x y : Str) : (x ++ y).cps.toList = x.cps.toList ++ y.cps.toList := by rw [PySem.Str.cps_append, Array.toList_append]
theorem nm_of {z : Str} {c : Nat} {r : List Nat} (e : z.cps.toList = c :: r) (hc : inL c = true) (hr : ∀ d ∈ r, inN d = true) (hl : r.length ≤ 7) : nmS z = true := by
  unfold nmS
  rw [e, nmL_cons, hc, List.all_cons, inN_eq c, hc, Bool.true_or, List.all_eq_true.mpr hr, decide_eq_true (by rw [List.length_cons]; omega)]
  rfl
theorem nm_len {z : Str} (h : nmS z = true) : 1 ≤ z.length ∧ z.length ≤ 8 := by
  refine ⟨?_, ?_⟩
  · by_cases h0 : z.length = 0
    · rw [nm_empty h0] at h
      cases h
    · omega
  · by_cases h8 : z.length ≤ 8
    · exact h8
    · rw [nm_long h8] at h
      cases h
def wk (k : Nat) : Str := Str.ofString "w" ++ ((toString (k : Int) : String) : Str)
theorem wk_nm : ∀ k : _root_.Fin 50, nmS (wk k.1) = true := by decide +kernel
theorem wk_len : ∀ k : _root_.Fin 50, (wk k.1).length ≤ 3 ∧ ((toString ((k.1 : Nat) : Int) : String) : Str).length ≤ 3 := by decide +kernel
theorem wk_nd : ((List.range 50).map wk).Nodup := by decide +kernel
theorem nd_le : ∀ (l ts : List Str), l.Nodup → (∀ x ∈ l, x ∈ ts) → l.length ≤ ts.length
  | [], _, _, _ => Nat.zero_le _
  | x :: r, ts, nd, h => by
    have hx : x ∈ ts := h x (List.mem_cons_self ..)
    have nd2 := List.nodup_cons.mp nd
    have := nd_le r (ts.erase x) nd2.2 fun y hy => (List.mem_erase_of_ne (fun e => nd2.1 (by rw [← e]; exact hy))).mpr (h y (List.mem_cons_of_mem _ hy))
    rw [List.length_erase_of_mem hx] at this
    have p : 0 < ts.length := List.length_pos_of_mem hx
    rw [List.length_cons]
    omega
theorem wk_new {ts : List Str} (hl : ts.length ≤ 40) (h : ∀ j, j < ts.length → wk j ∈ ts) : wk ts.length ∉ ts := by
  intro hm
  have nd : ((List.range (ts.length + 1)).map wk).Nodup := by
    have e : (List.range 50).map wk = (List.range (ts.length + 1)).map wk ++ ((List.range' (ts.length + 1) (49 - ts.length)).map wk) := by
      rw [← List.map_append]
      congr 1
      have : (50 : Nat) = (ts.length + 1) + (49 - ts.length) := by omega
      rw [this, List.range_eq_range', List.range_eq_range', ← List.range'_append_1]
      simp
    have n := wk_nd
    rw [e] at n
    exact (List.nodup_append.mp n).1
  have := nd_le _ ts nd fun x hx => by
    obtain ⟨j, hj, rfl⟩ := List.mem_map.mp hx
    have hj := List.mem_range.mp hj
    by_cases e : j = ts.length
    · rw [e]; exact hm
    · exact h j (by omega)
  rw [List.length_map, List.length_range] at this
  omega
theorem inV_str (z : Str) (ts : List Str) : inV (.str z) (ts.map V.str) = decide (z ∈ ts) := by
  unfold inV
  rw [List.any_map]
  induction ts with
  | nil => rfl
  | cons t r ih =>
    rw [List.any_cons, ih]
    by_cases e : t = z
    · subst e
      simp [eqV]
    · have : ¬ z = t := fun q => e q.symm
      simp [eqV, e, this]
theorem all_flat (ts : List Str) : (ts.map V.str).all flatV = true := by
  rw [List.all_map, List.all_eq_true]
  intro x _
  rfl
def words7 : List Str := [Str.ofString "kind", Str.ofString "make", Str.ofString "a", Str.ofString "b", Str.ofString "ab", Str.ofString "one", Str.ofString "x0"]
theorem words7_nm : ∀ z ∈ words7, nmS z = true := by decide +kernel
theorem sign_L : ∀ d : _root_.Fin 26, ∃ c, signs.cps.toList[d.1]? = some c ∧ inL c = true := by decide +kernel
theorem sign_N {d : Nat} (h : d < 36) : ∃ c, signs.cps.toList[d]? = some c ∧ inN c = true := by
  have hl : d < signs.cps.toList.length := by
    rw [show signs.cps.toList.length = 36 by decide +kernel]
    exact h
  exact ⟨_, List.getElem?_eq_getElem hl, decide_eq_true (List.getElem_mem hl)⟩
theorem join_signs : ∀ cs : List Nat, (Txt.join (Str.ofString "") (cs.map fun c => (⟨#[c]⟩ : Str))).cps.toList = cs := by
  intro cs
  rw [TL.join_eq]
  induction cs with
  | nil => rfl
  | cons c r ih =>
    cases r with
    | nil => rfl
    | cons d r =>
      show (((⟨#[c]⟩ : Str) ++ Str.ofString "") ++ Str.join (Str.ofString "") (((d :: r).map fun c => (⟨#[c]⟩ : Str)))).cps.toList = _
      rw [str_app, ih]
      rfl
theorem ones_sum : ∀ cs : List Nat, ((cs.map fun c => (⟨#[c]⟩ : Str)).map (·.length)).sum = cs.length
  | [] => rfl
  | c :: r => by
    rw [List.map_cons, List.map_cons, List.sum_cons, ones_sum r]
    show 1 + r.length = r.length + 1
    omega
end Kx
namespace Kx
open PySem PySem.Spec PyProof.Rows L2 Gd
/-- a comprehension over a range: one name as the target, no test -/
theorem lc_rangeY {n j : Nat} {te : TE} {vs : List Nat} {σ : L2.St} {H1 : Hp} {D : Addr} {Qd : Hp → Prop} (Pv : Nat → Hp → Prop) (hw : ∀ v, wipe ((wipe σ vs).set j (some v)) vs = wipe σ vs) (h0 : Pv 0 (upd H1 D (.lst [])))
    (hs : ∀ i H, i < n → Pv i H → te ((wipe σ vs).set j (some (.int (0 + (i : Int))))) H fun y H4 => ∃ acc, H4 D = some (.lst acc) ∧ acc.length < sizeLine ∧ Pv (i + 1) (upd H4 D (.lst (acc ++ [y]))))
    (hd : ∀ H, Pv n H → Qd H) : ∃ W : Nat → Nat → Hp → Prop, (∃ m, W 0 m (upd H1 D (.lst []))) ∧ ∀ i m H, W i m H →
      ((Itr 0 n).stop i H ∧ Qd H) ∨ ((Itr 0 n).go i H ∧ ∃ Nx : Hp → Prop, (∀ H', Nx H' → ∃ m', m' < m ∧ W (i + 1) m' H') ∧ ∀ v H', (Itr 0 n).yld i H v H' → gName j v (wipe σ vs) H' fun τ H2 => wipe τ vs = wipe σ vs ∧ tYes τ H2 fun b H3 =>
        if b = true then te τ H3 fun y H4 => ∃ acc, H4 D = some (.lst acc) ∧ acc.length < sizeLine ∧ Nx (upd H4 D (.lst (acc ++ [y]))) else Nx H3) :=
  lc_range Pv h0 (fun i H e p => ⟨hw _, yes_if (hs i H e p)⟩) hd
/-- what follows a statement, shown once -/
theorem seq_join {t u : TS} {D : Ends} {σ : L2.St} {H : Hp} (R : L2.St → Hp → Prop) (hR : ∀ σ H, R σ H → u D σ H) (h : (∀ σ H, R σ H → u D σ H) → t { D with nx := u D } σ H) : tSeq t u D σ H := h hR
section
variable {P : Program} {w : World} {K : PySem.W.Frag} {mg : Str → Option Value} {base : Heap}
structure TW0 (mg : Str → Option Value) : Prop where
  len : mg "len" = none
  str : mg "str" = none
  range : mg "range" = none
def spWord : Sp := fun vs H Q _ => ∃ (p q : Addr) (ts : List Str), vs = [.ref p, .ref q] ∧ DealAt H p ∧ H q = some (.lst (ts.map V.str)) ∧ q ≠ p ∧ ts.length ≤ 40 ∧
  ∀ (z : Str) (H' : Hp), nmS z = true → z ∉ ts → DealAt H' p → Sb p H H' → Q (.str z) H'
theorem ok_word {f fp : Addr} {fd fdp : FuncData} (F : Fun K "_law_word" "_law_word" sWord f fd) (T : TW0 mg) (GP : FnOk P w K mg base CX0 1 fp fdp ["_law_deal_here", "_law_many"] spPick) (kp : PySem.W.keepIn K (.ref fp) = true)
    (bP : Binds K fdp ["_law_deal_here", "_law_many"] []) (gP : mg "_law_pick" = some (.ref fp)) : FnOk P w K mg base CX0 2 f fd ["_law_deal_here", "_law_taken"] spWord := by
  refine F.ok scWord (fun vs H Q E h => ?_) (fun cv A ou s H vs Q E hr h => ?_)
  · obtain ⟨p, q, ts, rfl, _⟩ := h
    rfl
  obtain ⟨p, q, ts, rfl, hD, hq, nqp, hl, k⟩ := h
  refine ⟨_, pss_cons (ps_set (i := 2) scWord.nd rfl (.inr rfl) pe_str)
    (pss_cons (ps_par (i := 3) (j := 4) (by rfl) scWord.nd rfl rfl (by decide) rfl rfl
      (pa_cons (pe_call GP hr (by rfl) gP kp bP .nil pass0 (pa_cons (pv 0) (pa_cons pe_int pa_nil)))
      (pa_cons (pe_ix ix_list (pe_lst (pa_cons pe_str (pa_cons pe_str (pa_cons pe_str (pa_cons pe_str (pa_cons pe_str (pa_cons pe_str (pa_cons pe_str pa_nil))))))))
        (pe_call GP hr (by rfl) gP kp bP .nil pass0 (pa_cons (pv 0) (pa_cons pe_int pa_nil))) (fun _ _ => rfl)) pa_nil)) (by rfl))
    (pss_cons (ps_if (pt_cmpR op_gt (pv 3) pe_int (nomark _))
      (pss_cons (ps_setLc (i := 6) (own := [("_law_k", 5)]) (g := gName 5) (tt := tYes) (by rfl) scWord.nd rfl rfl (sw_true rfl rfl rfl (by decide +kernel))
          (pi_range1 rfl T.range (pa_cons (pe_ix ix_list (pe_lst (pa_cons pe_int (pa_cons pe_int (pa_cons pe_int pa_nil)))) (pe_op op_sub (pv 3) pe_int) (fun _ _ => rfl)) pa_nil))
          (blkOk_by (own := [("_law_k", 5)]) (N := ["_law_deal_here", "_law_taken", "_law_letters", "_law_way", "_law_word_here", "_law_k", "_law_tail"]) (sc := defScope sWord) (by decide +kernel))
          (fun _ _ _ _ _ => pg_name (i := 5) scWord.nd rfl (Or.inl rfl)) (fun _ _ _ _ _ => pts_nil)
          (fun _ _ _ _ _ => pe_ix ix_str (pv 2) (pe_call GP hr (by rfl) gP kp bP .nil pass0 (pa_cons (pv 0) (pa_cons pe_int pa_nil))) (fun _ _ => rfl)))
      (pss_one (ps_set (i := 4) scWord.nd rfl (.inl rfl) (pe_op op_add_str (pe_ix ix_str (pv 2) (pe_call GP hr (by rfl) gP kp bP .nil pass0 (pa_cons (pv 0) (pa_cons pe_int pa_nil))) (fun _ _ => rfl)) (pe_join pe_str (pv 6)))))) pss_nil)
    (pss_cons (ps_for PassesOwn.never rfl (pi_range1 rfl T.range (pa_cons (pe_op op_add (pe_callB call_len_seq (by rfl) T.len PySem.boot_len (pa_cons (pv 1) pa_nil)) pe_int) pa_nil)) (pg_name (i := 5) scWord.nd rfl (.inl rfl))
      (pss_cons (ps_if (pt_cmpR op_notIn_seq (pv 4) (pv 1) (by rfl)) (pss_one (ps_ret (pv 4))) pss_nil)
      (pss_one (ps_set (i := 4) scWord.nd rfl (.inl rfl) (pe_op op_add_str pe_str (pe_callTy call_str_int (by rfl) T.str boot_str (pa_cons (pv 5) pa_nil)))))))
    (pss_one (ps_ret (pv 4)))))), ?_⟩
  refine ⟨.ref p, rfl, p, 4, rfl, hD, by decide, by decide, fun d1 H1 l1 u1 D1 b1 => ?_⟩
  have q1 : H1 q = some (.lst (ts.map V.str)) := b1 q _ nqp hq
  refine ⟨(by show 7 ≤ sizeLine; decide), fun L nL => ?_⟩
  have nLp : L ≠ p := by
    obtain ⟨_, _, _, e, _⟩ := D1
    exact fun e2 => by rw [e2, e] at nL; cases nL
  have s1 : Same H1 (upd H1 L (.lst [V.str "kind", .str "make", .str "a", .str "b", .str "ab", .str "one", .str "x0"])) := same_new nL
  refine ⟨.ref p, rfl, p, 7, rfl, D1.keep s1, by decide, by decide, fun d2 H2 l2 u2 D2 b2 => ?_⟩
  have L2 : H2 L = some (.lst [V.str "kind", .str "make", .str "a", .str "b", .str "ab", .str "one", .str "x0"]) := b2 L _ nLp upd_same
  have q2 : H2 q = some (.lst (ts.map V.str)) := b2 q _ nqp (s1 q _ q1)
  have B2 : Sb p H H2 := b1.trans ((Sb.of s1).trans b2)
  obtain ⟨z0, e0, h0⟩ : ∃ z, ([V.str "kind", .str "make", .str "a", .str "b", .str "ab", .str "one", .str "x0"])[d2.toNat]? = some (V.str z) ∧ nmS z = true := by
    have hd : d2.toNat < words7.length := by show d2.toNat < 7; omega
    refine ⟨words7[d2.toNat], ?_, words7_nm _ (List.getElem_mem hd)⟩
    show (words7.map V.str)[d2.toNat]? = _
    rw [List.getElem?_map, List.getElem?_eq_getElem hd]
    rfl
  refine ⟨L, _, d2, .str z0, rfl, rfl, SqL.of L2, at_of (j := d2.toNat) (by omega) e0, V.int d1, .str z0, rfl, ?_⟩
  dsimp only
  refine seq_join (fun σ H3 => ∃ (z : Str) (o5 o6 : Option V), σ = [some (.ref p), some (.ref q), some (.str signs), some (.int d1), some (.str z), o5, o6] ∧ nmS z = true ∧ DealAt H3 p ∧ Sb p H H3) ?_ fun rest => ?_
  · rintro σ H3 ⟨z, o5, o6, rfl, hz, D3, B3⟩
    have q3 := B3 q _ nqp hq
    refine ⟨.ref q, rfl, q, ts.map V.str, rfl, .inl (SqL.of q3), _, _, rfl, rfl, _, rfl, ?_, ?_, ?_⟩
    · rw [List.length_map]; omega
    · rw [List.length_map]; omega
    have en : (((ts.map V.str).length : Int) + 1).toNat = ts.length + 1 := by rw [List.length_map]; omega
    rw [en]
    refine for_range (n := ts.length + 1) (fun i σ H' => ∃ (z : Str) (o5 : Option V), σ = [some (.ref p), some (.ref q), some (.str signs), some (.int d1), some (.str z), o5, o6] ∧ nmS z = true ∧ H' = H3 ∧ (i = 0 ∨ z = wk (i - 1)) ∧ ∀ j, j + 1 < i → wk j ∈ ts)
      ⟨z, o5, rfl, hz, rfl, .inl rfl, fun j h => by omega⟩ ?_ ?_
    · rintro i σ H' hi ⟨z, o5, rfl, hz, rfl, hw, hj⟩
      refine ⟨.str z, rfl, .ref q, rfl, q, ts.map V.str, rfl, .inl (SqL.of q3), rfl, all_flat ts, _, rfl, ?_⟩
      rw [inV_str]
      by_cases hm : z ∈ ts
      · rw [decide_eq_true hm]
        have hi2 : i < 50 := by omega
        have n3 : (Str.ofString (toString (i : Int))).length ≤ 3 := (wk_len ⟨i, hi2⟩).2
        refine iteF ⟨_, rfl, _, rfl, ?_, _, _, rfl, rfl, ?_, wk i, some (.int (0 + (i : Int))), ?_, wk_nm ⟨i, hi2⟩, rfl, .inr rfl, fun j h => ?_⟩
        · have : ((0 : Int) + i).natAbs = i := by omega
          rw [this]
          exact Nat.lt_of_le_of_lt (Nat.log2_le_self i) (by omega)
        · rw [Int.zero_add]
          exact Nat.le_of_lt (small1000 (by show 1 + _ ≤ 1000; omega))
        · rw [Int.zero_add]
          rfl
        · by_cases e : j + 1 < i
          · exact hj j e
          · have e2 : j = i - 1 := by omega
            subst e2
            rcases hw with h0 | hw
            · omega
            · rw [← hw]; exact hm
      · rw [decide_eq_false hm]
        exact iteT ⟨.str z, rfl, k z _ hz hm D3 B3⟩
    · rintro σ H' ⟨z, o5, rfl, hz, rfl, hw, hj⟩
      have ez : z = wk ts.length := by
        rcases hw with h | h
        · omega
        · exact h
      subst ez
      exact ⟨_, rfl, k _ _ hz (wk_new hl fun j h => hj j (by omega)) D3 B3⟩
  refine ⟨_, rfl, _, _, rfl, rfl, _, rfl, ite2 (fun e => ?_) (fun e => ?_)⟩
  · have hd1 : 0 < d1 := of_decide_eq_true e
    -- the range's length
    refine ⟨(by show 3 ≤ sizeLine; decide), fun M nM => ?_⟩
    have nMp : M ≠ p := by
      obtain ⟨_, _, _, e, _⟩ := D2
      exact fun e2 => by rw [e2, e] at nM; cases nM
    have s3 : Same H2 (upd H2 M (.lst [V.int 1, .int 2, .int 7])) := same_new nM
    obtain ⟨n, en, hn⟩ : ∃ n : Nat, ([V.int 1, .int 2, .int 7])[(d1 - 1).toNat]? = some (V.int n) ∧ n ≤ 7 := by
      have : d1 = 1 ∨ d1 = 2 ∨ d1 = 3 := by omega
      rcases this with rfl | rfl | rfl
      · exact ⟨1, rfl, by omega⟩
      · exact ⟨2, rfl, by omega⟩
      · exact ⟨7, rfl, by omega⟩
    refine ⟨.int d1, rfl, _, _, rfl, rfl, M, _, d1 - 1, .int n, rfl, rfl, SqL.of upd_same, at_of (j := (d1 - 1).toNat) (by omega) en, _, rfl, by omega, by omega, fun D nD => ?_⟩
    have nDp : D ≠ p := by
      obtain ⟨_, _, _, e, _⟩ := D2
      exact fun e2 => by rw [e2, s3 _ _ e] at nD; cases nD
    have B3 : Sb p H (upd (upd H2 M (.lst [V.int 1, .int 2, .int 7])) D (.lst [])) := B2.trans ((Sb.of s3).trans (.new nD))
    refine lc_rangeY (n := n) (fun i H4 => ∃ cs : List Nat, DealAt H4 p ∧ Sb p H H4 ∧ H4 D = some (.lst ((cs.map fun c => (⟨#[c]⟩ : Str)).map V.str)) ∧ cs.length = i ∧ ∀ c ∈ cs, inN c = true) (fun _ => rfl)
      ⟨[], (D2.keep s3).keep (same_new nD), B3, upd_same, rfl, fun c h => by cases h⟩ ?_ ?_
    · rintro i H4 hi ⟨cs, D4, B4, e4, l4, n4⟩
      refine ⟨.str signs, rfl, .ref p, rfl, p, 36, rfl, D4, by decide, by decide, fun d5 H5 l5 u5 D5 b5 => ?_⟩
      obtain ⟨c, ec, nc⟩ := sign_N (d := d5.toNat) (by omega)
      have e5 := b5 D _ nDp e4
      refine ⟨signs, d5, c, rfl, rfl, by decide +kernel, by rw [show d5 = ((d5.toNat : Nat) : Int) by omega]; exact atI_nat ec, _, e5, ?_, cs ++ [c], ?_, ?_, ?_, ?_, ?_⟩
      · rw [List.length_map, List.length_map]
        exact small1000 (by omega)
      · obtain ⟨x, y, u, e, l⟩ := D5
        exact ⟨x, y, u, by rw [upd_ne nDp.symm]; exact e, l⟩
      · intro b o n e
        by_cases eb : b = D
        · subst eb
          exact absurd (B2.trans (Sb.of s3) b o n e) (by rw [nD]; simp)
        · rw [upd_ne eb]
          exact b5 b o n (B4 b o n e)
      · rw [upd_same, List.map_append, List.map_append]
        rfl
      · rw [List.length_append, l4]
        rfl
      · intro x hx
        rcases List.mem_append.mp hx with h | h
        · exact n4 x h
        · rw [List.mem_singleton.mp h]; exact nc
    · rintro H4 ⟨cs, D4, B4, e4, l4, n4⟩
      refine ⟨.str signs, rfl, .ref p, rfl, p, 26, rfl, D4, by decide, by decide, fun d5 H5 l5 u5 D5 b5 => ?_⟩
      obtain ⟨c, ec, nc⟩ := sign_L ⟨d5.toNat, by omega⟩
      have e5 := b5 D _ nDp e4
      refine ⟨signs, d5, c, rfl, rfl, by decide +kernel, by rw [show d5 = ((d5.toNat : Nat) : Int) by omega]; exact atI_nat ec, ⟨_, rfl⟩, .ref D, rfl, _, D, _, rfl, rfl, .inl (SqL.of e5), ?_, _, _, rfl, rfl, ?_, ?_⟩
      · rw [ones_sum, List.length_map]
        show cs.length + cs.length * 0 ≤ 16777216
        omega
      · have := len_list (Txt.join (Str.ofString "") (cs.map fun c => (⟨#[c]⟩ : Str)))
        rw [join_signs] at this
        rw [← this]
        exact Nat.le_of_lt (small1000 (by show 1 + _ ≤ 1000; omega))
      · refine rest _ _ ⟨_, _, _, rfl, nm_of (c := c) (r := cs) ?_ nc n4 (by omega), D5, B4.trans b5⟩
        rw [str_app, join_signs]
        rfl
  · exact rest _ _ ⟨z0, none, none, rfl, h0, D2, B2⟩
end
end Kx
namespace Kx
open PySem PySem.Spec PyProof.Rows L2 Gd
abbrev sThing : Stmt := topS 11
theorem scThing : FnScope ["_law_deal_here", "_law_word_here", "_law_way", "_law_at"] ["_law_deal_here"] (defScope sThing) := ⟨rfl, rfl, rfl, by decide +kernel, rfl, by decide +kernel, by decide +kernel⟩
theorem cutS_len (z : Str) (lo hi : Option Int) : (cutS z lo hi).length ≤ z.length := by
  rw [← len_list, ← len_list]
  unfold cutS
  simp only [List.toList_toArray]
  rw [List.length_take, List.length_drop]
  omega
/-- what is no text -/
inductive Odd (H : Hp) : V → Prop where
  | non : Odd H .non
  | bl (b : Bool) : Odd H (.bl b)
  | int (i : Int) : Odd H (.int i)
  | lst {a : Addr} {xs : List V} (e : H a = some (.lst xs)) : Odd H (.ref a)
  | tup {a : Addr} {xs : List V} (e : H a = some (.tup xs)) : Odd H (.ref a)
  | dK {a : Addr} {kvs : List (Key × V)} (e : H a = some (.dK kvs)) : Odd H (.ref a)
theorem Odd.keep {H H' : Hp} {v : V} (h : Odd H v) (s : Same H H') : Odd H' v := by
  cases h with
  | non => exact .non
  | bl b => exact .bl b
  | int i => exact .int i
  | lst e => exact .lst (s _ _ e)
  | tup e => exact .tup (s _ _ e)
  | dK e => exact .dK (s _ _ e)
theorem Odd.ty {K : PySem.W.Frag} {H : Hp} {v : V} (h : Odd H v) : ∃ t, TyX K H v t ∧ PySem.W.kitOne K t (.type "str") = some false := by
  cases h with
  | non => exact ⟨_, .base .non, kit_ty (by decide +kernel)⟩
  | bl b => exact ⟨_, .base (.bl b), kit_ty (by decide +kernel)⟩
  | int i => exact ⟨_, .base (.int i), kit_ty (by decide +kernel)⟩
  | lst e => exact ⟨_, .base (.lst e), kit_ty (by decide +kernel)⟩
  | tup e => exact ⟨_, .base (.tup e), kit_ty (by decide +kernel)⟩
  | dK e => exact ⟨_, .base (.dK e), kit_ty (by decide +kernel)⟩
def Thing (H : Hp) (v : V) : Prop := (∃ z, v = .str z ∧ z.length ≤ 1000) ∨ Odd H v
section
variable {P : Program} {w : World} {K : PySem.W.Frag} {mg : Str → Option Value} {base : Heap}
def spThing : Sp := fun vs H Q _ => ∃ p : Addr, vs = [.ref p] ∧ DealAt H p ∧ ∀ (v : V) (H' : Hp), Thing H' v → DealAt H' p → Sb p H H' → Q v H'
theorem ok_thing {f fp fw : Addr} {fd fdp fdw : FuncData} (F : Fun K "_law_thing" "_law_thing" sThing f fd) (ml : mg "len" = none) (GP : FnOk P w K mg base CX0 1 fp fdp ["_law_deal_here", "_law_many"] spPick) (kp : PySem.W.keepIn K (.ref fp) = true)
    (bP : Binds K fdp ["_law_deal_here", "_law_many"] []) (gP : mg "_law_pick" = some (.ref fp)) (GW : FnOk P w K mg base CX0 2 fw fdw ["_law_deal_here", "_law_taken"] spWord) (kw : PySem.W.keepIn K (.ref fw) = true)
    (bW : Binds K fdw ["_law_deal_here", "_law_taken"] []) (gW : mg "_law_word" = some (.ref fw)) : FnOk P w K mg base CX0 3 f fd ["_law_deal_here"] spThing := by
  refine F.ok scThing (fun vs H Q E h => ?_) (fun cv A ou s H vs Q E hr h => ?_)
  · obtain ⟨p, rfl, _⟩ := h
    rfl
  obtain ⟨p, rfl, hD, k⟩ := h
  have hr1 : Room 1 _ := hr.mono (by decide)
  refine ⟨_, pss_cons (ps_par (i := 1) (j := 2) (by rfl) scThing.nd rfl rfl (by decide) rfl rfl
      (pa_cons (pe_call GW hr (by rfl) gW kw bW .nil pass0 (pa_cons (pv 0) (pa_cons (pe_lst pa_nil) pa_nil)))
      (pa_cons (pe_call GP hr1 (by rfl) gP kp bP .nil pass0 (pa_cons (pv 0) (pa_cons pe_int pa_nil))) pa_nil)) (by rfl))
    (pss_cons (ps_if (pt_cmpR op_eq (pv 2) pe_int (nomark _))
      (pss_one (ps_ret (pe_ix ix_list (pe_lst (pa_cons pe_non (pa_cons pe_bl (pa_cons pe_int (pa_cons (pe_tup (pa_cons (pv 1) pa_nil)) (pa_cons (pe_lst (pa_cons (pv 1) pa_nil)) (pa_cons pe_dnewK
          (pa_cons (pe_op op_pow pe_int pe_int) (pa_cons pe_str (pa_cons pe_str (pa_cons (pe_tup pa_nil) pa_nil)))))))))))
        (pe_call GP hr1 (by rfl) gP kp bP .nil pass0 (pa_cons (pv 0) (pa_cons pe_int pa_nil))) (fun _ _ => rfl)))) pss_nil)
    (pss_cons (ps_if (pt_cmpR op_eq (pv 2) pe_int (nomark _))
      (pss_one (ps_ret (pe_op op_add_str (pv 1) (pe_slice sl_str pe_str po_none (po_some (pe_call GP hr1 (by rfl) gP kp bP .nil pass0 (pa_cons (pv 0) (pa_cons pe_int pa_nil)))))))) pss_nil)
    (pss_cons (ps_if (pt_cmpR op_eq (pv 2) pe_int (nomark _))
      (pss_cons (ps_set (i := 3) scThing.nd rfl (.inl rfl) (pe_call GP hr1 (by rfl) gP kp bP .nil pass0 (pa_cons (pv 0) (pa_cons (pe_op op_add (pe_callB call_len_str (by rfl) ml PySem.boot_len (pa_cons (pv 1) pa_nil)) pe_int) pa_nil))))
      (pss_one (ps_ret (pe_op op_add_str (pe_op op_add_str (pe_slice sl_str (pv 1) po_none (po_some (pv 3))) (pe_ix ix_list (pe_lst (pa_cons pe_str (pa_cons pe_str (pa_cons pe_str (pa_cons pe_str (pa_cons pe_str (pa_cons pe_str (pa_cons pe_str (pa_cons pe_str pa_nil)))))))))
        (pe_call GP hr1 (by rfl) gP kp bP .nil pass0 (pa_cons (pv 0) (pa_cons pe_int pa_nil))) (fun _ _ => rfl))) (pe_slice sl_str (pv 1) (po_some (pv 3)) po_none))))) pss_nil)
    (pss_one (ps_ret (pe_ifExp (pt_cmpR op_eq (pv 2) pe_int (nomark _)) (pe_op op_add_str (pe_ix ix_str pe_str (pe_call GP hr1 (by rfl) gP kp bP .nil pass0 (pa_cons (pv 0) (pa_cons pe_int pa_nil))) (fun _ _ => rfl)) (pe_slice sl_str (pv 1) (po_some pe_int) po_none)) (pv 1))))))), ?_⟩
  refine ⟨.ref p, rfl, Nat.zero_le _, fun q nq => ?_⟩
  have nqp : q ≠ p := by
    obtain ⟨_, _, _, e, _⟩ := hD
    exact fun e2 => by rw [e2, e] at nq; cases nq
  refine ⟨p, q, [], rfl, hD.keep (same_new nq), upd_same, nqp, Nat.zero_le _, fun z H1 hz _ D1 b1 => ?_⟩
  have zl := nm_len hz
  have B1 : Sb p H H1 := (Sb.new nq).trans b1
  refine ⟨.ref p, rfl, p, 6, rfl, D1, by decide, by decide, fun d2 H2 l2 u2 D2 b2 => ?_⟩
  have B2 := B1.trans b2
  refine ⟨.str z, .int d2, rfl, ?_⟩
  refine ⟨.int d2, rfl, rfl, _, rfl, ite2 (fun e => ?_) (fun e => ?_)⟩
  · -- the things of other kinds
    refine ⟨.str z, rfl, (by show 1 ≤ sizeLine; decide), fun t nt => ⟨.str z, rfl, (by show 1 ≤ sizeLine; decide), fun l nl => fun d nd => ⟨_, _, rfl, rfl, ⟨by decide, by decide, by decide⟩, (by show 0 ≤ sizeLine; decide), fun u nu => ⟨(by show 10 ≤ sizeLine; decide), fun L nL => ?_⟩⟩⟩⟩
    have ne : ∀ {x : Addr} {H3 : Hp}, DealAt H3 p → H3 x = none → x ≠ p := by
      rintro x H3 ⟨_, _, _, e, _⟩ n e2
      rw [e2, e] at n
      cases n
    have st := same_new (o := .tup [.str z]) nt
    have Dt := D2.keep st
    have sl := same_new (o := .lst [.str z]) nl
    have Dl := Dt.keep sl
    have sd := same_new (o := .dK []) nd
    have Dd := Dl.keep sd
    have su := same_new (o := .tup []) nu
    have Du := Dd.keep su
    have sL := same_new (o := .lst [V.non, .bl true, .int 0, .ref t, .ref l, .ref d, .int (10 ^ (39 : Int).toNat), .str "", .str " ", .ref u]) nL
    refine ⟨.ref p, rfl, p, 10, rfl, Du.keep sL, by decide, by decide, fun d3 H3 l3 u3 D3 b3 => ?_⟩
    have eL := b3 L _ (ne Du nL) upd_same
    have eu : Odd H3 (.ref u) := .tup (b3 u _ (ne Dd nu) (sL _ _ upd_same))
    have ed : Odd H3 (.ref d) := .dK (b3 d _ (ne Dl nd) (sL _ _ (su _ _ upd_same)))
    have el : Odd H3 (.ref l) := .lst (b3 l _ (ne Dt nl) (sL _ _ (su _ _ (sd _ _ upd_same))))
    have et : Odd H3 (.ref t) := .tup (b3 t _ (ne D2 nt) (sL _ _ (su _ _ (sd _ _ (sl _ _ upd_same)))))
    have B3 : Sb p H H3 := B2.trans ((Sb.of st).trans ((Sb.of sl).trans ((Sb.of sd).trans ((Sb.of su).trans ((Sb.of sL).trans b3)))))
    have item : ∃ v, ([V.non, .bl true, .int 0, .ref t, .ref l, .ref d, .int (10 ^ (39 : Int).toNat), .str "", .str " ", .ref u])[d3.toNat]? = some v ∧ Thing H3 v := by
      have : d3.toNat < 10 := by omega
      match d3.toNat, this with
      | 0, _ => exact ⟨_, rfl, .inr .non⟩
      | 1, _ => exact ⟨_, rfl, .inr (.bl _)⟩
      | 2, _ => exact ⟨_, rfl, .inr (.int _)⟩
      | 3, _ => exact ⟨_, rfl, .inr et⟩
      | 4, _ => exact ⟨_, rfl, .inr el⟩
      | 5, _ => exact ⟨_, rfl, .inr ed⟩
      | 6, _ => exact ⟨_, rfl, .inr (.int _)⟩
      | 7, _ => exact ⟨_, rfl, .inl ⟨_, rfl, by decide +kernel⟩⟩
      | 8, _ => exact ⟨_, rfl, .inl ⟨_, rfl, by decide +kernel⟩⟩
      | 9, _ => exact ⟨_, rfl, .inr eu⟩
    obtain ⟨v, ev, tv⟩ := item
    exact ⟨L, _, d3, v, rfl, rfl, SqL.of eL, at_of (j := d3.toNat) (by omega) ev, k v H3 tv D3 B3⟩
  refine ⟨.int d2, rfl, rfl, _, rfl, ite2 (fun e => ?_) (fun e => ?_)⟩
  · refine ⟨.str z, rfl, .ref p, rfl, p, 10, rfl, D2, by decide, by decide, fun d3 H3 l3 u3 D3 b3 => ?_⟩
    have cl := cutS_len (Str.ofString "abcdefghij") none (some d3)
    have hl : (Str.ofString "abcdefghij").length = 10 := by decide +kernel
    refine ⟨d3, rfl, _, rfl, by decide +kernel, _, _, rfl, rfl, Nat.le_of_lt (small1000 (by omega)), k _ H3 (.inl ⟨_, rfl, ?_⟩) D3 (B2.trans b3)⟩
    rw [Str.length_append]
    omega
  refine ⟨.int d2, rfl, rfl, _, rfl, ite2 (fun e => ?_) (fun e => ?_)⟩
  · refine ⟨.ref p, rfl, .str z, rfl, z, rfl, Nat.le_of_lt (small1000 (by omega)), _, _, rfl, rfl, p, _, rfl, D2, by omega, by omega, fun d3 H3 l3 u3 D3 b3 => ?_⟩
    refine ⟨.str z, rfl, .int d3, rfl, d3, rfl, z, rfl, Nat.le_of_lt (small1000 (by omega)), (by show 8 ≤ sizeLine; decide), fun L nL => ?_⟩
    have nLp : L ≠ p := by
      obtain ⟨_, _, _, e, _⟩ := D3
      exact fun e2 => by rw [e2, e] at nL; cases nL
    have sL := same_new (o := .lst [V.str "A", .str "_", .str "-", .str " ", .str "\n", .str "~", .str "Z", .str "."]) nL
    refine ⟨.ref p, rfl, p, 8, rfl, D3.keep sL, by decide, by decide, fun d4 H4 l4 u4 D4 b4 => ?_⟩
    have eL := b4 L _ nLp upd_same
    have item : ∃ y : Str, ([V.str "A", .str "_", .str "-", .str " ", .str "\n", .str "~", .str "Z", .str "."])[d4.toNat]? = some (.str y) ∧ y.length ≤ 1 := by
      have : d4.toNat < 8 := by omega
      match d4.toNat, this with
      | 0, _ => exact ⟨_, rfl, by decide +kernel⟩
      | 1, _ => exact ⟨_, rfl, by decide +kernel⟩
      | 2, _ => exact ⟨_, rfl, by decide +kernel⟩
      | 3, _ => exact ⟨_, rfl, by decide +kernel⟩
      | 4, _ => exact ⟨_, rfl, by decide +kernel⟩
      | 5, _ => exact ⟨_, rfl, by decide +kernel⟩
      | 6, _ => exact ⟨_, rfl, by decide +kernel⟩
      | 7, _ => exact ⟨_, rfl, by decide +kernel⟩
    obtain ⟨y, ey, ly⟩ := item
    have c1 := cutS_len z none (some d3)
    have c2 := cutS_len z (some d3) none
    refine ⟨L, _, d4, .str y, rfl, rfl, SqL.of eL, at_of (j := d4.toNat) (by omega) ey, _, _, rfl, rfl, Nat.le_of_lt (small1000 (by omega)), .str z, rfl, .int d3, rfl, d3, rfl, z, rfl, Nat.le_of_lt (small1000 (by omega)), _, _, rfl, rfl, ?_,
      k _ H4 (.inl ⟨_, rfl, ?_⟩) D4 (B2.trans (b3.trans ((Sb.of sL).trans b4)))⟩
    · rw [Str.length_append]
      exact Nat.le_of_lt (small1000 (by omega))
    · rw [Str.length_append, Str.length_append]
      omega
  refine ⟨.int d2, rfl, rfl, _, rfl, ite2 (fun e => ?_) (fun e => ?_)⟩
  · refine ⟨.ref p, rfl, p, 10, rfl, D2, by decide, by decide, fun d3 H3 l3 u3 D3 b3 => ?_⟩
    have hd : d3.toNat < digs.cps.toList.length := by rw [show digs.cps.toList.length = 10 by decide +kernel]; omega
    have c2 := cutS_len z (some 1) none
    refine ⟨digs, d3, _, rfl, rfl, by decide +kernel, by rw [show d3 = ((d3.toNat : Nat) : Int) by omega]; exact atI_nat (List.getElem?_eq_getElem hd), .str z, rfl, 1, rfl, z, rfl, Nat.le_of_lt (small1000 (by omega)), _, _, rfl, rfl, ?_, k _ H3 (.inl ⟨_, rfl, ?_⟩) D3 (B2.trans b3)⟩
    · show 1 + _ ≤ sizeLine
      exact Nat.le_of_lt (small1000 (by omega))
    · rw [Str.length_append]
      show 1 + _ ≤ 1000
      omega
  · exact ⟨.str z, rfl, k _ H2 (.inl ⟨z, rfl, by omega⟩) D2 B2⟩
end
end Kx
namespace Kx
open PySem PySem.Spec PyProof.Rows L2 Gd
abbrev sRight : Stmt := topS 12
abbrev sLaw : Stmt := topS 13
theorem scRight : FnScope ["_law_deal_here", "_law_turn", "_law_thing_here"] ["_law_deal_here"] (defScope sRight) := ⟨rfl, rfl, rfl, by decide +kernel, rfl, by decide +kernel, by decide +kernel⟩
theorem scLaw : FnScope ["_law_cells", "_law_k"] ["_law_cells"] (defScope sLaw) := ⟨rfl, rfl, rfl, by decide +kernel, rfl, by decide +kernel, by decide +kernel⟩
def nmV : V → Bool
  | .str z => nmS z
  | _ => false
theorem Thing.keep {H H' : Hp} {v : V} (h : Thing H v) (s : Same H H') : Thing H' v := by
  rcases h with h | h
  · exact .inl h
  · exact .inr (h.keep s)
theorem is_any {K : PySem.W.Frag} {H : Hp} {v : V} {Q : VK} {E : XK} (h : Thing H v) (q : ∀ H', Same H H' → Q (.bl (nmV v)) H') : spIs K [v] H Q E := by
  refine ⟨v, rfl, ?_⟩
  rcases h with ⟨z, rfl, hz⟩ | h
  · exact .inl ⟨z, rfl, hz, q⟩
  · obtain ⟨t, ty, ek⟩ := h.ty (K := K)
    refine .inr ⟨t, ty, ek, ?_⟩
    have q0 := q H fun _ _ e => e
    cases h <;> exact q0
theorem two_ok (b : Bool) : (PyData.list [.bool b, .bool b]).showable = true ∧ (PyData.list [.bool b, .bool b]).hasDict = false ∧ (PyData.list [.bool b, .bool b]).depth ≤ 60 ∧ (PyData.list [.bool b, .bool b]).shown.length ≤ 1000 := by
  cases b <;> decide +kernel
theorem kbinds1 {K : PySem.W.Frag} {x qn y : Str} {st : Stmt} {f : Addr} {fd : FuncData} (F : Fun K x qn st f fd)
    (h1 : ∀ (kV doc pm : Value) (an : Option Addr) (cdv ct u : Value), bindArgs (PySem.W.fnOf x qn (defArgs st) (defBody st) (defScope st) .none kV doc pm an cdv ct) ⟨[u], []⟩ = pure [(y, u)])
    (h2 : ∀ (kV doc pm : Value) (an : Option Addr) (cdv ct u : Value), bindArgs (PySem.W.fnOf x qn (defArgs st) (defBody st) (defScope st) .none kV doc pm an cdv ct) ⟨[], [(y, u)]⟩ = pure [(y, u)]) :
    KBinds K fd [y] [y] (fun us ws => us ++ ws) (fun vs zs => vs ++ zs) := by
  obtain ⟨oc, od, kV, doc, pm, an, cdv, ct, osl, rfl, lk, hcd⟩ := F.ex
  refine ⟨fun s us ws _ hl => ?_, fun r z => r.append z⟩
  match us, ws, hl with
  | [u], [], _ => exact .of_eq (h1 _ _ _ _ _ _ u)
  | [], [u], _ => exact .of_eq (h2 _ _ _ _ _ _ u)
  | [], [], hl => simp at hl
  | _ :: _ :: _, _, hl => simp at hl
  | [_], _ :: _, hl => simp at hl
  | [], _ :: _ :: _, hl => simp at hl
section
variable {P : Program} {w : World} {K : PySem.W.Frag} {mg : Str → Option Value} {base : Heap}
def spRight : Sp := fun vs H Q _ => ∃ p : Addr, vs = [.ref p] ∧ DealAt H p ∧ ∀ H', Sb p H H' → Q (.bl true) H'
theorem ok_right {f ft fi fl : Addr} {fd fdt fdi fdl : FuncData} (F : Fun K "_law_right" "_law_right" sRight f fd) (mr : mg "range" = none) (mp : mg "repr" = none)
    (GT : FnOk P w K mg base CX0 3 ft fdt ["_law_deal_here"] spThing) (kt : PySem.W.keepIn K (.ref ft) = true) (bT : Binds K fdt ["_law_deal_here"] []) (gT : mg "_law_thing" = some (.ref ft))
    (GI : FnOk P w K mg base CX0 1 fi fdi ["value"] (spIs K)) (ki : PySem.W.keepIn K (.ref fi) = true) (bI : Binds K fdi ["value"] []) (kbI : KBinds K fdi ["value"] ["value"] (fun us ws => us ++ ws) (fun vs zs => vs ++ zs)) (gI : mg "is_name" = some (.ref fi))
    (GL : FnOk P w K mg base CX0 1 fl fdl ["_law_thing_here"] (spIs K)) (kl : PySem.W.keepIn K (.ref fl) = true) (bL : Binds K fdl ["_law_thing_here"] []) (gL : mg "_law_is_name" = some (.ref fl)) :
    Pr P w K mg base CX0 4 f fd ["_law_deal_here"] spRight := by
  refine okG F scRight (fun vs H Q E h => ?_) (fun cv A ou s H vs Q E hG hr h => ?_)
  · obtain ⟨p, rfl, _⟩ := h
    rfl
  obtain ⟨p, rfl, hD, k⟩ := h
  have hr1 : Room 1 (A.deeper (envOfC "_law_right" (defScope sRight) s.heap.objs.size f cv)) := hr.mono (by decide)
  have hu := hr.units
  refine ⟨_, pss_cons (ps_for PassesOwn.never rfl (pi_range1 rfl mr (pa_cons pe_int pa_nil)) (pg_name (i := 1) scRight.nd rfl (.inl rfl))
      (pss_cons (ps_set (i := 2) scRight.nd rfl (.inl rfl) (pe_call GT hr (by rfl) gT kt bT .nil pass0 (pa_cons (pv 0) pa_nil)))
      (pss_one (ps_if (pt_cmpR op_ne (pe_callB (call_show hG hu) (by rfl) mp boot_repr (pa_cons (pe_lst (pa_cons (pe_call GI hr1 (by rfl) gI ki bI .nil pass0 (pa_cons (pv 2) pa_nil)) (pa_cons (pe_callGK0 (.of GI) hG hr1 (by rfl) gI ki kbI pass0 (pk_cons (pv 2) pk_nil)) pa_nil))) pa_nil))
          (pe_callB (call_show hG hu) (by rfl) mp boot_repr (pa_cons (pe_op op_rep (pe_lst (pa_cons (pe_call GL hr1 (by rfl) gL kl bL .nil pass0 (pa_cons (pv 2) pa_nil)) pa_nil)) pe_int) pa_nil)) (nomark _))
        (pss_one (ps_ret pe_bl)) pss_nil))))
    (pss_one (ps_ret pe_bl)), ?_⟩
  refine ⟨12, rfl, by decide, by decide, for_range (n := 12) (fun i σ H' => ∃ o1 o2 : Option V, σ = [some (.ref p), o1, o2] ∧ DealAt H' p ∧ Sb p H H') ⟨none, none, rfl, hD, Sb.refl⟩ ?_ ?_⟩
  · rintro i σ H1 hi ⟨o1, o2, rfl, D1, b1⟩
    refine ⟨.ref p, rfl, p, rfl, D1, fun v H2 tv D2 b2 => ?_⟩
    refine ⟨v, rfl, ?_⟩
    dsimp only [tNil]
    refine is_any tv fun H3 s3 => ?_
    refine ⟨v, rfl, ?_⟩
    dsimp only [tNil]
    refine is_any (tv.keep s3) fun H4 s4 => ⟨(by show 2 ≤ sizeLine; decide), fun L nL => ?_⟩
    have t2 := two_ok (nmV v)
    refine ⟨L, .list [.bool (nmV v), .bool (nmV v)], rfl, .lst (SqL.of upd_same) (.cons (.bl _) (.cons (.bl _) .nil)), t2.1, t2.2.1, t2.2.2.1, Nat.le_of_lt (small1000 t2.2.2.2), ?_⟩
    refine ⟨v, rfl, ?_⟩
    dsimp only [tNil]
    refine is_any (((tv.keep s3).keep s4).keep (same_new nL)) fun H5 s5 => ⟨(by show 1 ≤ sizeLine; decide), fun M nM => ?_⟩
    refine ⟨_, _, _, rfl, rfl, upd_same, by decide, by decide, (by show 1 * 2 ≤ sizeLine; decide), fun R nR => ?_⟩
    refine ⟨R, .list [.bool (nmV v), .bool (nmV v)], rfl, .lst (SqL.of upd_same) (.cons (.bl _) (.cons (.bl _) .nil)), t2.1, t2.2.1, t2.2.2.1, Nat.le_of_lt (small1000 t2.2.2.2), ?_⟩
    refine ⟨rfl, _, rfl, ?_⟩
    rw [decide_eq_true rfl]
    have s6 : Same H2 (upd (upd H5 M (.lst [.bl (nmV v)])) R (.lst [.bl (nmV v), .bl (nmV v)])) := ((s3.trans s4).trans ((same_new nL).trans s5)).trans ((same_new nM).trans (same_new nR))
    exact iteF ⟨_, _, rfl, D2.keep s6, b1.trans (b2.trans (.of s6))⟩
  · rintro σ H' ⟨o1, o2, rfl, D1, b1⟩
    exact k H' b1
end
end Kx
namespace Kx
open PySem PySem.Spec PyProof.Rows L2 Gd
section
variable {P : Program} {w : World} {K : PySem.W.Frag} {mg : Str → Option Value} {base : Heap}
def spLaw (K : PySem.W.Frag) : Sp := fun vs H Q _ => ∃ (a : Addr) (ns : List Int), vs = [.ref a] ∧ SqL K H a (ns.map V.int) ∧ ns.length ≤ 63 ∧ ∀ H', Q (.bl true) H'
theorem ok_law {f fn fe fr : Addr} {fd fdn fde fdr : FuncData} (F : Fun K "law" "law" sLaw f fd) (ml : mg "len" = none) (mr : mg "range" = none) (ma : mg "all" = none) (mx : mg "max" = none) (mn : mg "min" = none)
    (GN : FnOk P w K mg base CX0 1 fn fdn ["_law_cells", "_law_k"] (spNum K)) (kn : PySem.W.keepIn K (.ref fn) = true) (bN : Binds K fdn ["_law_cells", "_law_k"] []) (gN : mg "_law_number" = some (.ref fn))
    (GE : FnOk P w K mg base CX0 1 fe fde ["_law_number_here"] spDeal) (ke : PySem.W.keepIn K (.ref fe) = true) (bE : Binds K fde ["_law_number_here"] []) (gE : mg "_law_deal" = some (.ref fe))
    (GR : Pr P w K mg base CX0 4 fr fdr ["_law_deal_here"] spRight) (kr : PySem.W.keepIn K (.ref fr) = true) (bR : Binds K fdr ["_law_deal_here"] []) (gR : mg "_law_right" = some (.ref fr)) :
    Pr P w K mg base CX0 5 f fd ["_law_cells"] (spLaw K) := by
  refine okG F scLaw (fun vs H Q E h => ?_) (fun cv A ou s H vs Q E hG hr h => ?_)
  · obtain ⟨a, ns, rfl, _⟩ := h
    rfl
  obtain ⟨a, ns, rfl, hS, hl, k⟩ := h
  have hr1 : Room 1 (A.deeper (envOfC "law" (defScope sLaw) s.heap.objs.size f cv)) := hr.mono (by decide)
  refine ⟨_, pss_one (ps_ret (pe_callB (cr_all rfl) (by rfl) ma boot_all (pa_cons (pe_lc (own := [("_law_k", 1)]) (g := gName 1) (tt := tYes) rfl scLaw.nd
      (pi_range1 rfl mr (pa_cons (pe_callB (call_max2 rfl) (by rfl) mx boot_max (pa_cons pe_int (pa_cons (pe_callB (call_min2 rfl) (by rfl) mn boot_min (pa_cons (pe_callB call_len_seq (by rfl) ml PySem.boot_len (pa_cons (pv 0) pa_nil)) (pa_cons pe_int pa_nil))) pa_nil))) pa_nil))
      (blkOk_by (own := [("_law_k", 1)]) (N := ["_law_cells", "_law_k"]) (sc := defScope sLaw) (by decide +kernel))
      (fun _ _ _ _ _ => pg_name (i := 1) scLaw.nd rfl (Or.inl rfl)) (fun _ _ _ _ _ => pts_nil)
      (fun _ _ _ _ _ => pe_callG GR hG hr (by rfl) gR kr bR .nil pass0 (pa_cons (pe_call GE hr1 (by rfl) gE ke bE .nil pass0 (pa_cons (pe_call GN hr1 (by rfl) gN kn bN .nil pass0 (pa_cons (pv 0) (pa_cons (pv 1) pa_nil))) pa_nil)) pa_nil))) pa_nil))), ?_⟩
  refine ⟨.ref a, rfl, a, ns.map V.int, rfl, .inl hS, _, _, rfl, _, _, rfl, _, rfl, ?_, ?_, fun D nD => ?_⟩
  · split <;> split <;> omega
  · rw [List.length_map]
    split <;> split <;> omega
  refine lc_rangeY (fun i H4 => Same H H4 ∧ H4 D = some (.lst ((List.replicate i true).map V.bl)) ∧ i ≤ 63) (fun _ => rfl) ⟨same_new nD, upd_same, by omega⟩ ?_ ?_
  · rintro i H4 hi ⟨s4, e4, _⟩
    have hi5 : i < 63 := by
      rw [List.length_map] at hi
      split at hi <;> (first | (split at hi <;> omega) | omega)
    refine ⟨.ref a, rfl, .int (0 + (i : Int)), rfl, a, ns, i, ?_, s4.seq hS, hl, fun z H5 s5 => ?_⟩
    · rw [Int.zero_add]
      rfl
    refine ⟨z, rfl, fun p H6 s6 np D6 => ?_⟩
    have e6 := s6 _ _ (s5 _ _ e4)
    have nDp : D ≠ p := fun e => by rw [← e, s5 _ _ e4] at np; cases np
    refine ⟨p, rfl, D6, fun H7 b7 => ?_⟩
    have e7 := b7 D _ nDp e6
    refine ⟨_, e7, ?_, ?_, ?_, by omega⟩
    · rw [List.length_map, List.length_replicate]
      exact small1000 (by omega)
    · intro b o e
      have e5 := s5 b o (s4 b o e)
      have nb : b ≠ p := fun q => by rw [← q, e5] at np; cases np
      rw [upd_ne (ne_of_none e nD)]
      exact b7 b o nb (s6 b o e5)
    · rw [upd_same, List.replicate_succ', List.map_append]
      rfl
  · rintro H4 ⟨s4, e4, _⟩
    refine ⟨D, _, rfl, SqL.of e4, ?_⟩
    have : (List.replicate (((if (if (5 : Int) < ((ns.map V.int).length : Int) then (5 : Int) else ((ns.map V.int).length : Int)) > 2 then (if (5 : Int) < ((ns.map V.int).length : Int) then (5 : Int) else ((ns.map V.int).length : Int)) else 2) : Int).toNat) true).all id = true := by
      rw [List.all_eq_true]
      intro x hx
      rw [(List.mem_replicate.mp hx).2]
      rfl
    rw [this]
    exact k _
end
/-! ### what the top has written; the law's own head -/
theorem all_mk {l : PySem.W.OpenLaw} {w : World} {K : PySem.W.Frag} {h : Heap} {mg : Str → Option Value} {fa f4 f6 f7 f8 f9 f10 f11 f12 f13 : Addr} (X : K.In h) (G : h.Ns mainGlobals mg) (hfa : mg "law" = some (.ref fa))
    {od4 an4 od6 an6 od7 an7 od8 an8 od9 an9 od10 an10 od11 an11 od12 an12 od13 an13 : Option Addr} {sl4 sl6 sl7 sl8 sl9 sl10 sl11 sl12 sl13 : Array (Option Value)}
    {oc4 kV4 dc4 pm4 cd4 ct4 oc6 kV6 dc6 pm6 cd6 ct6 oc7 kV7 dc7 pm7 cd7 ct7 oc8 kV8 dc8 pm8 cd8 ct8 oc9 kV9 dc9 pm9 cd9 ct9 oc10 kV10 dc10 pm10 cd10 ct10 oc11 kV11 dc11 pm11 cd11 ct11 oc12 kV12 dc12 pm12 cd12 ct12 oc13 kV13 dc13 pm13 cd13 ct13 : Value} {tk1 tk2 tk3 : Tok}
    (a4 : PySem.W.nsIn K mainGlobals "is_name" = some (some (.ref f4))) (l4 : K.lookup f4 = some ⟨oc4, od4, .func (PySem.W.fnOf "is_name" "is_name" (defArgs sIs) (defBody sIs) (defScope sIs) .none kV4 dc4 pm4 an4 cd4 ct4), sl4⟩) (c4 : PySem.W.codeIn K cd4 "is_name" = true) (k4 : PySem.W.keepIn K (.ref f4) = true)
    (a6 : PySem.W.nsIn K mainGlobals "_law_number" = some (some (.ref f6))) (l6 : K.lookup f6 = some ⟨oc6, od6, .func (PySem.W.fnOf "_law_number" "_law_number" (defArgs sNum) (defBody sNum) (defScope sNum) .none kV6 dc6 pm6 an6 cd6 ct6), sl6⟩) (c6 : PySem.W.codeIn K cd6 "_law_number" = true) (k6 : PySem.W.keepIn K (.ref f6) = true)
    (a7 : PySem.W.nsIn K mainGlobals "_law_deal" = some (some (.ref f7))) (l7 : K.lookup f7 = some ⟨oc7, od7, .func (PySem.W.fnOf "_law_deal" "_law_deal" (defArgs sDeal) (defBody sDeal) (defScope sDeal) .none kV7 dc7 pm7 an7 cd7 ct7), sl7⟩) (c7 : PySem.W.codeIn K cd7 "_law_deal" = true) (k7 : PySem.W.keepIn K (.ref f7) = true)
    (a8 : PySem.W.nsIn K mainGlobals "_law_pick" = some (some (.ref f8))) (l8 : K.lookup f8 = some ⟨oc8, od8, .func (PySem.W.fnOf "_law_pick" "_law_pick" (defArgs sPick) (defBody sPick) (defScope sPick) .none kV8 dc8 pm8 an8 cd8 ct8), sl8⟩) (c8 : PySem.W.codeIn K cd8 "_law_pick" = true) (k8 : PySem.W.keepIn K (.ref f8) = true)
    (a9 : PySem.W.nsIn K mainGlobals "_law_word" = some (some (.ref f9))) (l9 : K.lookup f9 = some ⟨oc9, od9, .func (PySem.W.fnOf "_law_word" "_law_word" (defArgs sWord) (defBody sWord) (defScope sWord) .none kV9 dc9 pm9 an9 cd9 ct9), sl9⟩) (c9 : PySem.W.codeIn K cd9 "_law_word" = true) (k9 : PySem.W.keepIn K (.ref f9) = true)
    (a10 : PySem.W.nsIn K mainGlobals "_law_is_name" = some (some (.ref f10))) (l10 : K.lookup f10 = some ⟨oc10, od10, .func (PySem.W.fnOf "_law_is_name" "_law_is_name" (defArgs sLis) (defBody sLis) (defScope sLis) .none kV10 dc10 pm10 an10 cd10 ct10), sl10⟩) (c10 : PySem.W.codeIn K cd10 "_law_is_name" = true) (k10 : PySem.W.keepIn K (.ref f10) = true)
    (a11 : PySem.W.nsIn K mainGlobals "_law_thing" = some (some (.ref f11))) (l11 : K.lookup f11 = some ⟨oc11, od11, .func (PySem.W.fnOf "_law_thing" "_law_thing" (defArgs sThing) (defBody sThing) (defScope sThing) .none kV11 dc11 pm11 an11 cd11 ct11), sl11⟩) (c11 : PySem.W.codeIn K cd11 "_law_thing" = true) (k11 : PySem.W.keepIn K (.ref f11) = true)
    (a12 : PySem.W.nsIn K mainGlobals "_law_right" = some (some (.ref f12))) (l12 : K.lookup f12 = some ⟨oc12, od12, .func (PySem.W.fnOf "_law_right" "_law_right" (defArgs sRight) (defBody sRight) (defScope sRight) .none kV12 dc12 pm12 an12 cd12 ct12), sl12⟩) (c12 : PySem.W.codeIn K cd12 "_law_right" = true) (k12 : PySem.W.keepIn K (.ref f12) = true)
    (a13 : PySem.W.nsIn K mainGlobals "law" = some (some (.ref f13))) (l13 : K.lookup f13 = some ⟨oc13, od13, .func (PySem.W.fnOf "law" "law" (defArgs sLaw) (defBody sLaw) (defScope sLaw) .none kV13 dc13 pm13 an13 cd13 ct13), sl13⟩) (c13 : PySem.W.codeIn K cd13 "law" = true) (k13 : PySem.W.keepIn K (.ref f13) = true)
    (g1 : PySem.W.nsIn K mainGlobals "LETTERS" = some (some (.str lets tk1))) (g2 : PySem.W.nsIn K mainGlobals "NAME_SIGNS" = some (some (.str signs tk2))) (g3 : PySem.W.nsIn K mainGlobals "LONGEST_NAME" = some (some (.int 8 tk3)))
    (z1 : PySem.W.nsIn K mainGlobals "len" = some none) (z2 : PySem.W.nsIn K mainGlobals "int" = some none) (z3 : PySem.W.nsIn K mainGlobals "abs" = some none) (z4 : PySem.W.nsIn K mainGlobals "str" = some none) (z5 : PySem.W.nsIn K mainGlobals "range" = some none)
    (z6 : PySem.W.nsIn K mainGlobals "isinstance" = some none) (z7 : PySem.W.nsIn K mainGlobals "all" = some none) (z8 : PySem.W.nsIn K mainGlobals "repr" = some none) (z9 : PySem.W.nsIn K mainGlobals "max" = some none) (z10 : PySem.W.nsIn K mainGlobals "min" = some none) :
    ∃ fd : FuncData, (∀ (s : Shared) (v : Value), BindsTo s fd ⟨[v], []⟩ [("_law_cells", v)]) ∧ ∀ base : Heap, K.In base → base.Ns mainGlobals mg → Pr l.prog w K mg base CX0 5 fa fd ["_law_cells"] (spLaw K) := by
  have e := hfa.symm.trans (PySem.W.mg_of X G a13)
  cases e
  have F4 := fun_mk (st := sIs) l4 c4 k4
  have F6 := fun_mk (st := sNum) l6 c6 k6
  have F7 := fun_mk (st := sDeal) l7 c7 k7
  have F8 := fun_mk (st := sPick) l8 c8 k8
  have F9 := fun_mk (st := sWord) l9 c9 k9
  have F10 := fun_mk (st := sLis) l10 c10 k10
  have F11 := fun_mk (st := sThing) l11 c11 k11
  have F12 := fun_mk (st := sRight) l12 c12 k12
  have F13 := fun_mk (st := sLaw) l13 c13 k13
  have b4 := F4.binds (ps := ["value"]) fun _ _ _ _ _ _ us hl => match us, hl with | [_], _ => rfl
  have kb4 := kbinds1 (y := "value") F4 (fun _ _ _ _ _ _ _ => rfl) (fun _ _ _ _ _ _ _ => rfl)
  have b6 := F6.binds (ps := ["_law_cells", "_law_k"]) fun _ _ _ _ _ _ us hl => match us, hl with | [_, _], _ => rfl
  have b7 := F7.binds (ps := ["_law_number_here"]) fun _ _ _ _ _ _ us hl => match us, hl with | [_], _ => rfl
  have b8 := F8.binds (ps := ["_law_deal_here", "_law_many"]) fun _ _ _ _ _ _ us hl => match us, hl with | [_, _], _ => rfl
  have b9 := F9.binds (ps := ["_law_deal_here", "_law_taken"]) fun _ _ _ _ _ _ us hl => match us, hl with | [_, _], _ => rfl
  have b10 := F10.binds (ps := ["_law_thing_here"]) fun _ _ _ _ _ _ us hl => match us, hl with | [_], _ => rfl
  have b11 := F11.binds (ps := ["_law_deal_here"]) fun _ _ _ _ _ _ us hl => match us, hl with | [_], _ => rfl
  have b12 := F12.binds (ps := ["_law_deal_here"]) fun _ _ _ _ _ _ us hl => match us, hl with | [_], _ => rfl
  have nlen := PySem.W.mg_none_of X G z1
  have nint := PySem.W.mg_none_of X G z2
  have nabs := PySem.W.mg_none_of X G z3
  have nstr := PySem.W.mg_none_of X G z4
  have nrange := PySem.W.mg_none_of X G z5
  have nisi := PySem.W.mg_none_of X G z6
  have nall := PySem.W.mg_none_of X G z7
  have nrepr := PySem.W.mg_none_of X G z8
  have nmax := PySem.W.mg_none_of X G z9
  have nmin := PySem.W.mg_none_of X G z10
  have TI : TI0 mg := ⟨nisi, nstr, nlen, nall, ⟨_, PySem.W.mg_of X G g1⟩, ⟨_, PySem.W.mg_of X G g2⟩, ⟨_, PySem.W.mg_of X G g3⟩⟩
  have TW : TW0 mg := ⟨nlen, nstr, nrange⟩
  refine ⟨PySem.W.fnOf "law" "law" (defArgs sLaw) (defBody sLaw) (defScope sLaw) .none kV13 dc13 pm13 an13 cd13 ct13, fun s v => .of_eq rfl, fun base _ _ => ?_⟩
  have GI : FnOk l.prog w K mg base CX0 1 f4 _ ["value"] (spIs K) := ok_is F4 TI
  have GN : FnOk l.prog w K mg base CX0 1 f6 _ ["_law_cells", "_law_k"] (spNum K) := ok_num F6 nlen nint
  have GE : FnOk l.prog w K mg base CX0 1 f7 _ ["_law_number_here"] spDeal := ok_deal F7 nabs nint
  have GP : FnOk l.prog w K mg base CX0 1 f8 _ ["_law_deal_here", "_law_many"] spPick := ok_pick F8 nint
  have GW : FnOk l.prog w K mg base CX0 2 f9 _ ["_law_deal_here", "_law_taken"] spWord := ok_word F9 TW GP F8.kp b8 (PySem.W.mg_of X G a8)
  have GL : FnOk l.prog w K mg base CX0 1 f10 _ ["_law_thing_here"] (spIs K) := ok_lis F10 TI
  have GT : FnOk l.prog w K mg base CX0 3 f11 _ ["_law_deal_here"] spThing := ok_thing F11 nlen GP F8.kp b8 (PySem.W.mg_of X G a8) GW F9.kp b9 (PySem.W.mg_of X G a9)
  have GR : Pr l.prog w K mg base CX0 4 f12 _ ["_law_deal_here"] spRight := ok_right F12 nrange nrepr GT F11.kp b11 (PySem.W.mg_of X G a11) GI F4.kp b4 kb4 (PySem.W.mg_of X G a4) GL F10.kp b10 (PySem.W.mg_of X G a10)
  exact ok_law F13 nlen nrange nall nmax nmin GN F6.kp b6 (PySem.W.mg_of X G a6) GE F7.kp b7 (PySem.W.mg_of X G a7) GR F12.kp b12 (PySem.W.mg_of X G a12)
end Kx
open PySem PySem.W PyProof.Rows
set_option maxHeartbeats 0 in
theorem PySem.Challenge.cw_fivetrees_k01_names_holds : PySem.Challenge.rw_fivetrees_k01_names.Holds := by
  w_on; o_law; k_head; (case hw => w_witness2)
  k_fill
  refine Gd.walk_go (l := PySem.Challenge.rw_fivetrees_k01_names) (n := 63) (k := 5) (x := "_law_cells") (sp := Kx.spLaw) rfl (by decide) rfl ⟨rfl, by decide, by decide⟩ (fun w h Y => PySem.W.kIn_of Y) ?F (fun _ _ a ns hl hS => ⟨a, ns, rfl, hS, hl, fun _ => rfl⟩)
  case F =>
    intro w mg fa h KX G hmg
    refine' Kx.all_mk KX G hmg ?a4 ?l4 ?c4 ?k4 ?a6 ?l6 ?c6 ?k6 ?a7 ?l7 ?c7 ?k7 ?a8 ?l8 ?c8 ?k8 ?a9 ?l9 ?c9 ?k9 ?a10 ?l10 ?c10 ?k10 ?a11 ?l11 ?c11 ?k11 ?a12 ?l12 ?c12 ?k12 ?a13 ?l13 ?c13 ?k13 ?g1 ?g2 ?g3 ?z1 ?z2 ?z3 ?z4 ?z5 ?z6 ?z7 ?z8 ?z9 ?z10
    (case a4 => k_is); (case l4 => k_is); (case c4 => k_is); (case k4 => k_is)
    (case a6 => k_is); (case l6 => k_is); (case c6 => k_is); (case k6 => k_is)
    (case a7 => k_is); (case l7 => k_is); (case c7 => k_is); (case k7 => k_is)
    (case a8 => k_is); (case l8 => k_is); (case c8 => k_is); (case k8 => k_is)
    (case a9 => k_is); (case l9 => k_is); (case c9 => k_is); (case k9 => k_is)
    (case a10 => k_is); (case l10 => k_is); (case c10 => k_is); (case k10 => k_is)
    (case a11 => k_is); (case l11 => k_is); (case c11 => k_is); (case k11 => k_is)
    (case a12 => k_is); (case l12 => k_is); (case c12 => k_is); (case k12 => k_is)
    (case a13 => k_is); (case l13 => k_is); (case c13 => k_is); (case k13 => k_is)
    (case g1 => k_is); (case g2 => k_is); (case g3 => k_is)
    (case z1 => k_is); (case z2 => k_is); (case z3 => k_is); (case z4 => k_is); (case z5 => k_is); (case z6 => k_is); (case z7 => k_is); (case z8 => k_is); (case z9 => k_is); (case z10 => k_is)
