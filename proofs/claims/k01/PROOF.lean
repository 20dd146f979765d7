import PyProof.Rows.All
import Wide.All
import OpenK.AllK
import Wide.FinOn
import HandS.ForMost
import HandS.ForExc
import HandS.Wide
import HandS.WideBits
import HandS.IsInst
import HandS.Evl
import HandS.More
import HandS.HotCalls
import HandS.ExcCtx
import PySem.Challenge.RW_bucketfall_k01_lengths
set_option Elab.async false
set_option linter.all false
set_option maxRecDepth 100000
set_option maxHeartbeats 4000000
/-! Prelude: a def of the text and its promise in one bundle; promises of three shapes; what they evaluate to. -/
namespace BF
open PySem L2 Evl
section
variable {X : Cx}
theorem pe_const_int {x : Str} {n : Int} {pos : Pos} (hg : Gl X x) (h : ∃ t, X.mg x = some (.int n t)) (hd : (x == ("__debug__" : Str)) = false := by decide) : PE X (.Name x pos) (tC (.int n)) := by
  obtain ⟨t, h⟩ := h
  exact pe_glob hg h ⟨t, rfl⟩ hd
theorem pe_const_str {x : Str} {n : Str} {pos : Pos} (hg : Gl X x) (h : ∃ t, X.mg x = some (.str n t)) (hd : (x == ("__debug__" : Str)) = false := by decide) : PE X (.Name x pos) (tC (.str n)) := by
  obtain ⟨t, h⟩ := h
  exact pe_glob hg h ⟨t, rfl⟩ hd
end
/-- the def x of the text stands where the module's name x points -/
structure DefAt (K : PySem.W.Frag) (mg : Str → Option Value) (x : Str) (st : Stmt) (ps : List Str) : Prop where
  ex : ∃ f fd, Fun K x x st f fd ∧ mg x = some (.ref f) ∧ ∀ us : List Value, us.length = ps.length → bindArgs fd ⟨us, []⟩ = pure (ps.zip us)
theorem def_mk {K : PySem.W.Frag} {h : Heap} {mg : Str → Option Value} {x : Str} {st : Stmt} {ps : List Str} {f : Addr} {oc : Value} {od an : Option Addr} {osl : Array (Option Value)} {kV doc pm cdv ct : Value} (X : K.In h) (G : h.Ns mainGlobals mg)
    (a : PySem.W.nsIn K mainGlobals x = some (some (.ref f))) (l : K.lookup f = some ⟨oc, od, .func (PySem.W.fnOf x x (defArgs st) (defBody st) (defScope st) .none kV doc pm an cdv ct), osl⟩) (c : PySem.W.codeIn K cdv x = true) (k : PySem.W.keepIn K (.ref f) = true)
    (b : ∀ (kV doc pm : Value) (an : Option Addr) (cdv ct : Value) (us : List Value), us.length = ps.length → bindArgs (PySem.W.fnOf x x (defArgs st) (defBody st) (defScope st) .none kV doc pm an cdv ct) ⟨us, []⟩ = pure (ps.zip us)) : DefAt K mg x st ps :=
  ⟨f, _, fun_mk l c k, PySem.W.mg_of X G a, b _ _ _ _ _ _⟩
theorem const_mk {K : PySem.W.Frag} {h : Heap} {mg : Str → Option Value} {x : Str} {v : Value} {n : Int} (X : K.In h) (G : h.Ns mainGlobals mg) (a : PySem.W.nsIn K mainGlobals x = some (some v)) (r : RelV (.int n) v) : ∃ t, mg x = some (.int n t) := by
  obtain ⟨t, e⟩ := r
  exact ⟨t, e ▸ PySem.W.mg_of X G a⟩
theorem constS_mk {K : PySem.W.Frag} {h : Heap} {mg : Str → Option Value} {x : Str} {v : Value} {n : Str} (X : K.In h) (G : h.Ns mainGlobals mg) (a : PySem.W.nsIn K mainGlobals x = some (some v)) (r : RelV (.str n) v) : ∃ t, mg x = some (.str n t) := by
  obtain ⟨t, e⟩ := r
  exact ⟨t, e ▸ PySem.W.mg_of X G a⟩
/-- the def x keeps the promise sp -/
structure Own (P : Program) (w : World) (K : PySem.W.Frag) (mg : Str → Option Value) (base : Heap) (x : Str) (k : Nat) (ps : List Str) (sp : Sp) : Prop where
  ex : ∃ f fd, FnOk P w K mg base (L2N.CX P w) k f fd ps sp ∧ mg x = some (.ref f) ∧ PySem.W.keepIn K (.ref f) = true ∧ Binds K fd ps []
section
variable {P : Program} {w : World} {K : PySem.W.Frag} {mg : Str → Option Value} {base : Heap}
theorem okN {x qual : Str} {st : Stmt} {f : Addr} {fd : FuncData} {N ps : List Str} {k : Nat} {sp : Sp} (F : Fun K x qual st f fd) (S : FnScope N ps (defScope st)) (len : ∀ vs H Q E, sp vs H Q E → vs.length = ps.length)
    (hbody : ∀ (cdv : Value) (A : Around) (outer : List Env) (s : Shared) (H : Hp) (vs : List V) (Q : VK) (E : XK), Room k (A.deeper (PyProof.Rows.envOfC qual (defScope st) s.heap.objs.size f cdv)) → sp vs H Q E →
      ∃ t, PSs (cxOf (L2N.CX P w) P w K mg base N qual (defScope st) f cdv A outer s H E) (defBody st) t ∧ t { nx := fun _ H' => Q .non H', rt := Q } (start N vs) H) : FnOk P w K mg base (L2N.CX P w) (k + 1) f fd ps sp := by
  obtain ⟨oc, od, kV, doc, pm, an, cdv, ct, osl, rfl, lk, hcd⟩ := F.ex
  exact fn_of lk hcd S len fun A outer s H vs Q E hr hsp => hbody cdv A outer s H vs Q E hr hsp
theorem own_of {x : Str} {st : Stmt} {N ps : List Str} {k : Nat} {sp : Sp} (d : DefAt K mg x st ps) (S : FnScope N ps (defScope st)) (len : ∀ vs H Q E, sp vs H Q E → vs.length = ps.length)
    (hbody : ∀ (f : Addr) (cdv : Value) (A : Around) (outer : List Env) (s : Shared) (H : Hp) (vs : List V) (Q : VK) (E : XK), Room k (A.deeper (PyProof.Rows.envOfC x (defScope st) s.heap.objs.size f cdv)) → sp vs H Q E →
      ∃ t, PSs (cxOf (L2N.CX P w) P w K mg base N x (defScope st) f cdv A outer s H E) (defBody st) t ∧ t { nx := fun _ H' => Q .non H', rt := Q } (start N vs) H) : Own P w K mg base x (k + 1) ps sp := by
  obtain ⟨f, fd, F, hm, hb⟩ := d.ex
  exact ⟨f, fd, okN F S len (hbody f), hm, F.kp, .all hb⟩
theorem tk_out {N : List Str} {qual : Str} {scope : Scope} {f : Addr} {cdv : Value} {A : Around} {outer : List Env} {s : Shared} {H : Hp} {E : XK} :
    L2N.Takes (cxOf (L2N.CX P w) P w K mg base N qual scope f cdv A outer s H E) (fun cls d _ H => E cls d H) := L2N.takes_of rfl rfl rfl rfl
theorem ps_out {N : List Str} {qual : Str} {scope : Scope} {f : Addr} {cdv : Value} {A : Around} {outer : List Env} {s : Shared} {H : Hp} {E : XK} :
    Passes (L2N.CX P w) (cxOf (L2N.CX P w) P w K mg base N qual scope f cdv A outer s H E) E := L2N.passes_call (L2N.takes_of rfl rfl rfl rfl) (fun _ _ _ _ h => h)
theorem passN {X : Cx} : Passes (L2N.CX X.prog X.w) X E0 := fun _ _ _ _ _ _ _ h => by
  obtain ⟨_, _, _, _, _, _, _, _, _, _, _, _, z⟩ := h
  exact z.elim
theorem tk_none {X : Cx} : L2N.Takes X (fun _ _ _ _ => False) := fun _ _ x => by
  obtain ⟨_, _, _, _, _, _, _, _, _, _, _, _, _, _, _, _, z⟩ := x
  exact z.elim
theorem pw {N : List Str} {qual : Str} {scope : Scope} {f : Addr} {cdv : Value} {A : Around} {outer : List Env} {s : Shared} {H : Hp} {E : XK} :
    PassesOwn (model P w) (cxOf (L2N.CX P w) P w K mg base N qual scope f cdv A outer s H E).A (cxOf (L2N.CX P w) P w K mg base N qual scope f cdv A outer s H E).env (cxOf (L2N.CX P w) P w K mg base N qual scope f cdv A outer s H E).xe := passes_of rfl
end
section
variable {X : Cx} {x : Str} {k j : Nat} {ps : List Str} {sp : Sp} {E : XK} {p pos : Pos} {e : Expr} {es : List Expr} {t : TA}
theorem pe_own (O : Own X.prog X.w X.K X.mg X.base x k ps sp) (hr : Room j X.A) (hk : k ≤ j) (hx : Passes (L2N.CX X.prog X.w) X E) (ha : PA X (e :: es) t) (hg : Gl X x := by rfl)
    (hdb : (x == ("__debug__" : Str)) = false := by decide) (he : starEach (e :: es) X.env = (false, eval e X.env) :: starEach es X.env := by rfl) (hpl : (backTo pos (starEach es X.env)).any (·.1) = false := by rfl) :
    PE X (.Call (.Name x p) (e :: es) [] pos) (tCall sp [] E t) := by
  obtain ⟨f, fd, F, hm, hkp, hb⟩ := O.ex
  exact pe_call F (hr.mono hk) hg hm hkp hb .nil hx ha hdb he hpl
/-- within a try -/
theorem pe_ownT {W : WX} (O : Own X.prog X.w X.K X.mg X.base x k ps sp) (hr : Room j X.A) (hk : k ≤ j) (tk : L2N.Takes X W) (ha : PA X (e :: es) t) (hg : Gl X x := by rfl)
    (hdb : (x == ("__debug__" : Str)) = false := by decide) (he : starEach (e :: es) X.env = (false, eval e X.env) :: starEach es X.env := by rfl) (hpl : (backTo pos (starEach es X.env)).any (·.1) = false := by rfl) :
    PE X (.Call (.Name x p) (e :: es) [] pos) (tCallS sp (WE W) t) := by
  obtain ⟨f, fd, F, hm, hkp, hb⟩ := O.ex
  exact pe_callS F (hr.mono hk) hg hm hkp hb (fun σ => L2N.passAt tk σ) ha hdb he hpl
end
/-! ### errors of the program -/
structure ErrAt (K : PySem.W.Frag) (mg : Str → Option Value) (x : Str) (C : Addr) : Prop where
  g : mg x = some (.ref C)
  x' : PySem.W.excIn K C [.type "ValueError", .type "Exception", .type "BaseException", .type "object"] "ValueError.__new__" = true
  k : PySem.W.keepIn K (.ref C) = true
  b : PySem.W.subIn K (.ref C) (.type "BaseException") = some true
  t : PySem.W.typeIn K (.ref C) = some (.type "type")
section
variable {X : Cx} {W : WX} {C : Addr} {x m : Str} {j : Nat} {p p2 pos pos2 : Pos}
def tOwnRaise (W : WX) (C : Addr) : TS := fun _ σ H => W (.ref C) none σ H
theorem ps_own_raise (T : ErrAt X.K X.mg x C) (tk : L2N.Takes X W) (hc : X.calm = true := by rfl) (hg : Gl X x := by rfl) (hdb : (x == ("__debug__" : Str)) = false := by decide) :
    PS X (.Raise (some (.Call (.Name x p) [.Constant (.str m) j p2] [] pos)) none pos2) (tOwnRaise W C) :=
  L2N.ps_raise hc tk (L2N.pmk_own PySem.F.excBase_ValueError T.x' T.g T.k (raises_own T.b T.t) hg hdb)
end
theorem noCX (P : Program) (w : World) (H : Hp) (s : Shared) (e : Value) (s' : Shared) : L2N.CX P w [] H s (fun _ _ _ => False) e s' → False := fun h => by
  obtain ⟨_, _, _, _, _, _, _, _, _, _, _, _, z⟩ := h
  exact z
/-! ### promises -/
/-- what it gives, all as it was but for new objects -/
def spD (D : List V → Hp → V → Prop) : Sp := fun vs H Q _ => ∃ z, D vs H z ∧ RetV z H Q
/-- the same, or an error of the class at c -/
def spX (D : List V → Hp → V → Prop) (R : List V → Hp → Addr → Prop) : Sp := fun vs H Q E => (∃ z, D vs H z ∧ RetV z H Q) ∨ (∃ c, R vs H c ∧ ∀ H1, Ex H H1 → E (.ref c) none H1)
/-- a new list -/
def spL (D : List V → Hp → List V → Prop) : Sp := fun vs H Q _ => ∃ xs, D vs H xs ∧ RetL xs H Q
section
variable {K : PySem.W.Frag} {σ : L2.St} {H H' : Hp} {ta : TA} {te : TE} {vs xs : List V} {z x y : V} {D : List V → Hp → V → Prop} {R : List V → Hp → Addr → Prop} {E : XK}
theorem ev_D (h : EvA ta σ H vs) (hD : ∀ H1, Ex H H1 → D vs H1 z) : Ev (tCall (spD D) [] E ta) σ H z := fun H1 e Q q => h H1 e _ fun H2 e2 => by
  show spD D (vs ++ []) H2 Q E
  rw [List.append_nil]
  exact ⟨z, hD H2 (e.trans e2), fun H3 e3 => q H3 (e2.trans e3)⟩
theorem ev_X (h : EvA ta σ H vs) (hD : ∀ H1, Ex H H1 → D vs H1 z) : Ev (tCall (spX D R) [] E ta) σ H z := fun H1 e Q q => h H1 e _ fun H2 e2 => by
  show spX D R (vs ++ []) H2 Q E
  rw [List.append_nil]
  exact Or.inl ⟨z, hD H2 (e.trans e2), fun H3 e3 => q H3 (e2.trans e3)⟩
theorem el_L {D : List V → Hp → List V → Prop} (h : EvA ta σ H vs) (hD : ∀ H1, Ex H H1 → D vs H1 xs) : EvL (tCall (spL D) [] E ta) σ H xs := fun H1 e Q q => h H1 e _ fun H2 e2 => by
  show spL D (vs ++ []) H2 Q E
  rw [List.append_nil]
  exact ⟨xs, hD H2 (e.trans e2), fun p H3 hp e3 h3 => q p H3 (fresh_back e2 hp) (e2.trans e3) h3⟩
/-- f(..) as a statement, f refuses -/
theorem s_err {C : Addr} {D' : Ends} (h : EvA ta σ H vs) (hR : ∀ H1, Ex H H1 → R vs H1 C) (k : ∀ H1, Ex H H1 → E (.ref C) none H1) : tDrop (tCall (spX D R) [] E ta) D' σ H := h H (Ex.refl H) _ fun H2 e2 => by
  show spX D R (vs ++ []) H2 _ E
  rw [List.append_nil]
  exact Or.inr ⟨C, hR H2 e2, fun H3 e3 => k H3 (e2.trans e3)⟩
/-- a call that refuses, as an expression -/
theorem e_err {C : Addr} (h : EvA ta σ H vs) (hR : ∀ H1, Ex H H1 → R vs H1 C) (k : ∀ H1, Ex H H1 → E (.ref C) none H1) (Q : VK) : tCall (spX D R) [] E ta σ H Q := h H (Ex.refl H) _ fun H2 e2 => by
  show spX D R (vs ++ []) H2 _ E
  rw [List.append_nil]
  exact Or.inr ⟨C, hR H2 e2, fun H3 e3 => k H3 (e2.trans e3)⟩
/-- within a try: it gives; it refuses -/
theorem ev_XS {W : WX} (h : EvA ta σ H vs) (hD : ∀ H1, Ex H H1 → D vs H1 z) : Ev (tCallS (spX D R) (WE W) ta) σ H z := fun H1 e Q q => h H1 e _ fun H2 e2 => Or.inl ⟨z, hD H2 (e.trans e2), fun H3 e3 => q H3 (e2.trans e3)⟩
theorem e_errS {W : WX} {C : Addr} (h : EvA ta σ H vs) (hR : ∀ H1, Ex H H1 → R vs H1 C) (k : ∀ H1, Ex H H1 → W (.ref C) none σ H1) (Q : VK) : tCallS (spX D R) (WE W) ta σ H Q := h H (Ex.refl H) _ fun H2 e2 => Or.inr ⟨C, hR H2 e2, fun H3 e3 => k H3 (e2.trans e3)⟩
/-- some value of a kind -/
def spN (Pre : List V → Hp → Prop) (Post : V → Prop) : Sp := fun vs H Q _ => Pre vs H ∧ ∀ z, Post z → RetV z H Q
theorem q_asgN {Pre : List V → Hp → Prop} {Post : V → Prop} {i : Nat} {tz : TS} {D' : Ends} (h : EvA ta σ H vs) (hP : ∀ H1, Ex H H1 → Pre vs H1) (k : ∀ z, Post z → ∀ H1, Ex H H1 → tz D' (σ.set i (some z)) H1) :
    tSeq (tAsg (tCall (spN Pre Post) [] E ta) (gName i)) tz D' σ H := h H (Ex.refl H) _ fun H2 e2 => by
  show spN Pre Post (vs ++ []) H2 _ E
  rw [List.append_nil]
  exact ⟨hP H2 e2, fun z hz H3 e3 => k z hz H3 (e2.trans e3)⟩
/-! ### built-ins -/
theorem eu_divmod {i j : Int} (h : EvA ta σ H [.int i, .int j]) (hc : CDivP i j) : EvU (tCB (fun xs H Q => ∃ i j, xs = [.int i, .int j] ∧ CDivP i j ∧ ∀ p, H p = none → Q (.ref p) (upd H p (.tup [.int (i / j), .int (i % j)]))) ta) σ H [.int (i / j), .int (i % j)] := fun H1 e Q q =>
  h H1 e _ fun H2 e2 => ⟨i, j, rfl, hc, fun p hp => q p _ (fresh_back e2 hp) (e2.trans (Ex.new hp)) upd_same⟩
theorem ev_isi {c : V} {t u : Value} {b : Bool} (h : EvA ta σ H [x, c]) (hc : ClsV c u) (hx : ∀ H1, Ex H H1 → TyX K H1 x t) (hb : PySem.W.kitOne K t u = some b) : Ev (tCB (rIsi K) ta) σ H (.bl b) := fun H1 e Q q =>
  h H1 e _ fun H2 e2 => ⟨x, c, t, u, b, rfl, hc, hx H2 (e.trans e2), hb, q H2 e2⟩
theorem s_asgT2 {i j : Nat} {D' : Ends} (h : EvU te σ H [x, y]) (k : ∀ H1, Ex H H1 → D'.nx ((σ.set i (some x)).set j (some y)) H1) : tAsg te (gTup K 2 (gCons (gName i) (gCons (gName j) gNil))) D' σ H :=
  h H (Ex.refl H) _ fun p H1 _ e hp => ⟨p, [x, y], rfl, st_of hp, rfl, x, [y], rfl, y, [], rfl, rfl, k H1 e⟩
theorem q_asgT2 {i j : Nat} {D' : Ends} {tz : TS} (h : EvU te σ H [x, y]) (k : ∀ H1, Ex H H1 → tz D' ((σ.set i (some x)).set j (some y)) H1) : tSeq (tAsg te (gTup K 2 (gCons (gName i) (gCons (gName j) gNil)))) tz D' σ H := s_asgT2 (D' := { D' with nx := tz D' }) h k
theorem ix_ev {v : V} {i : Int} {tb tl : TE} (hl : EvL tl σ H xs) (hb : ∀ H1, Ex H H1 → Ev tb σ H1 (.int i)) (ha : atI xs i = some v) : Ev (tOp (rIxL K) tl tb) σ H v :=
  ev_opL1 hl hb fun _ _ hp _ => rv_ixL (sq_of hp) ha
end
/-! ### displays of tuples -/
/-- refs of tuples that hold these -/
def Tups (H : Hp) : List V → List (List V) → Prop
  | [], [] => True
  | v :: r, xs :: rs => (∃ p, v = .ref p ∧ H p = some (.tup xs)) ∧ Tups H r rs
  | _, _ => False
theorem Tups.mono {H H' : Hp} (e : Ex H H') : ∀ {vs : List V} {xss : List (List V)}, Tups H vs xss → Tups H' vs xss
  | [], [], _ => True.intro
  | _ :: _, _ :: _, ⟨⟨p, e1, h⟩, t⟩ => ⟨⟨p, e1, e _ _ h⟩, Tups.mono e t⟩
  | [], _ :: _, h => h.elim
  | _ :: _, [], h => h.elim
def EvTs (ta : TA) (σ : L2.St) (H : Hp) (xss : List (List V)) : Prop := ∀ H1, Ex H H1 → ∀ Q : List V → Hp → Prop, (∀ ps H2, Ex H1 H2 → Tups H2 ps xss → ps.length = xss.length → Q ps H2) → ta σ H1 Q
section
variable {K : PySem.W.Frag} {σ : L2.St} {H : Hp} {ta : TA} {te : TE} {xs : List V} {xss : List (List V)}
theorem ets_nil : EvTs tNil σ H [] := fun H1 _ _ q => q [] H1 (Ex.refl H1) True.intro rfl
theorem ets_cons (h : EvU te σ H xs) (hr : EvTs ta σ H xss) : EvTs (tCons te ta) σ H (xs :: xss) := fun H1 e Q q =>
  h H1 e _ fun p H2 _ e2 hp => hr H2 (e.trans e2) _ fun ps H3 e3 t hl => q (.ref p :: ps) H3 (e2.trans e3) ⟨⟨p, rfl, e3 _ _ hp⟩, t⟩ (by rw [List.length_cons, List.length_cons, hl])
theorem q_asgTs {i : Nat} {D' : Ends} {tz : TS} (h : EvTs ta σ H xss) (hz : xss.length ≤ 100000) (k : ∀ l ps H1, H l = none → Ex H H1 → H1 l = some (.lst ps) → Tups H1 ps xss → tz D' (σ.set i (some (.ref l))) H1) : tSeq (tAsg (tLst ta) (gName i)) tz D' σ H :=
  h H (Ex.refl H) _ fun ps H2 e2 t hl => ⟨sz_of (by rw [hl]; exact hz), fun l nl => k l ps _ (fresh_back e2 nl) (e2.trans (Ex.new nl)) upd_same (t.mono (Ex.new nl))⟩
end
/-! ### int facts for the wide rules -/
theorem big_mod {i j : Int} {n : Nat} (h0 : 0 < j) (h : j.natAbs ≤ 2 ^ n) : (i % j).natAbs < 2 ^ n := by
  have h1 := Int.emod_nonneg i (show j ≠ 0 by omega)
  have h2 := Int.emod_lt_of_pos i h0
  omega
/-! ### the walk of an expression -/
local macro_rules | `(tactic| walk_at "ev") => `(tactic| first
  | exact ev_var rfl
  | exact ev_c
  | exact rv_I0
  | exact ea_nil
  | (apply ea_cons <;> walk_at "ev")
  | (apply ev_op <;> walk_at "ev")
  | (apply rv_I)
  | (exact rv_eq rfl)
  | (apply et_test <;> walk_at "ev")
  | skip)
example {σ : L2.St} {H : Hp} : Ev (tOp (rI0 fun i j => .int (i + j)) (tVar 0) (tC (.int 3))) [some (.int 2)] H (.int 5) := by
  apply ev_is
  · walk_at "ev"
  · rfl
end BF

/-! Figures of a number: plain Lean. -/
namespace BF
/-- the figures, the last one first -/
def digs (b n : Nat) : List Nat := if h : n = 0 ∨ b < 2 then [] else (n % b) :: digs b (n / b)
termination_by n
decreasing_by exact Nat.div_lt_self (by omega) (by omega)
theorem digs_zero (b : Nat) : digs b 0 = [] := by
  unfold digs
  rw [dif_pos (Or.inl rfl)]
theorem digs_pos {b n : Nat} (hb : 2 ≤ b) (hn : 0 < n) : digs b n = (n % b) :: digs b (n / b) := by
  conv => lhs; unfold digs
  rw [dif_neg (by omega)]
theorem digs_len {b : Nat} (hb : 2 ≤ b) : ∀ (m n : Nat), n < 2 ^ m → (digs b n).length ≤ m
  | 0, n, h => by
    have h0 : n = 0 := by simpa using h
    subst h0
    rw [digs_zero]
    exact Nat.le_refl _
  | m + 1, n, h => by
    by_cases hn : n = 0
    · subst hn
      rw [digs_zero]
      exact Nat.zero_le _
    · rw [digs_pos hb (by omega), List.length_cons]
      have h2 : n / b < 2 ^ m := by
        have h3 : n / b ≤ n / 2 := Nat.div_le_div_left hb (by omega)
        have h4 : n / 2 < 2 ^ m := Nat.div_lt_of_lt_mul (by rw [Nat.pow_succ] at h; omega)
        omega
      have := digs_len hb m (n / b) h2
      omega
theorem div_lt_pow {b n m : Nat} (h : n < 2 ^ m) : n / b < 2 ^ m := Nat.lt_of_le_of_lt (Nat.div_le_self n b) h
/-! Where two numbers part. -/
def partAt (b x y : Nat) : Nat := if h : x = y ∨ b < 2 then 0 else partAt b (x / b) (y / b) + 1
termination_by x + y
decreasing_by
  have h1 : x / b ≤ x := Nat.div_le_self x b
  have h2 : y / b ≤ y := Nat.div_le_self y b
  by_cases hx : x = 0
  · have h3 : y / b < y := Nat.div_lt_self (by omega) (by omega)
    omega
  · have h3 : x / b < x := Nat.div_lt_self (by omega) (by omega)
    omega
theorem partAt_eq (b x : Nat) : partAt b x x = 0 := by
  unfold partAt
  rw [dif_pos (Or.inl rfl)]
theorem partAt_ne {b x y : Nat} (hb : 2 ≤ b) (h : x ≠ y) : partAt b x y = partAt b (x / b) (y / b) + 1 := by
  conv => lhs; unfold partAt
  rw [dif_neg (by omega)]
theorem div_sum_lt {b x y : Nat} (hb : 2 ≤ b) (h : x ≠ y) : x / b + y / b < x + y := by
  have h1 : x / b ≤ x := Nat.div_le_self x b
  have h2 : y / b ≤ y := Nat.div_le_self y b
  by_cases hx : x = 0
  · have h3 : y / b < y := Nat.div_lt_self (by omega) (by omega)
    omega
  · have h3 : x / b < x := Nat.div_lt_self (by omega) (by omega)
    omega
theorem partAt_comm {b : Nat} (hb : 2 ≤ b) : ∀ (m x y : Nat), x + y ≤ m → partAt b x y = partAt b y x
  | 0, x, y, h => by
    have e1 : x = 0 := by omega
    have e2 : y = 0 := by omega
    subst e1 e2
    rfl
  | m + 1, x, y, h => by
    by_cases e : x = y
    · subst e
      rfl
    · rw [partAt_ne hb e, partAt_ne hb (Ne.symm e), partAt_comm hb m (x / b) (y / b) (by have := div_sum_lt hb e; omega)]
/-! More of figures. -/
theorem digs_lt {b : Nat} (hb : 2 ≤ b) : ∀ (m n : Nat), n ≤ m → ∀ d ∈ digs b n, d < b
  | 0, n, h, d, hd => by
    have e : n = 0 := by omega
    subst e
    rw [digs_zero] at hd
    cases hd
  | m + 1, n, h, d, hd => by
    by_cases hn : n = 0
    · subst hn
      rw [digs_zero] at hd
      cases hd
    · rw [digs_pos hb (by omega)] at hd
      rcases List.mem_cons.mp hd with e | hd
      · rw [e]
        exact Nat.mod_lt n (by omega)
      · exact digs_lt hb m (n / b) (by have := Nat.div_lt_self (show 0 < n by omega) (show 1 < b by omega); omega) d hd
/-- the first figure is no nought -/
theorem digs_last {b : Nat} (hb : 2 ≤ b) : ∀ (m n : Nat), n ≤ m → 0 < n → ∃ M d, digs b n = M ++ [d] ∧ d ≠ 0
  | 0, n, h, hn => by omega
  | m + 1, n, h, hn => by
    by_cases hq : n / b = 0
    · refine ⟨[], n % b, ?_, ?_⟩
      · rw [digs_pos hb hn, hq, digs_zero]
        rfl
      · have := Nat.div_add_mod n b
        rw [hq, Nat.mul_zero, Nat.zero_add] at this
        omega
    · obtain ⟨M, d, e, hd⟩ := digs_last hb m (n / b) (by have := Nat.div_lt_self hn (show 1 < b by omega); omega) (Nat.pos_of_ne_zero hq)
      exact ⟨(n % b) :: M, d, by rw [digs_pos hb hn, e] <;> rfl, hd⟩
end BF

namespace BF
open PySem L2 Evl
/-! ### the text by places -/
def topS (i : Nat) : Stmt := PySem.Challenge.pw_bucketfall_k01_lengths.main.body.getD i (.Pass ⟨0, 0, 0, 0⟩)
abbrev s_check_base : Stmt := topS 7
theorem sc_check_base : FnScope ["base"] ["base"] (defScope s_check_base) := ⟨rfl, rfl, rfl, by decide +kernel, rfl, by decide +kernel, by decide +kernel⟩
abbrev s_check_number : Stmt := topS 8
theorem sc_check_number : FnScope ["number"] ["number"] (defScope s_check_number) := ⟨rfl, rfl, rfl, by decide +kernel, rfl, by decide +kernel, by decide +kernel⟩
abbrev s_figures_of : Stmt := topS 9
theorem sc_figures_of : FnScope ["number", "base", "found", "figure"] ["number", "base"] (defScope s_figures_of) := ⟨rfl, rfl, rfl, by decide +kernel, rfl, by decide +kernel, by decide +kernel⟩
abbrev s_length : Stmt := topS 10
theorem sc_length : FnScope ["number", "base"] ["number", "base"] (defScope s_length) := ⟨rfl, rfl, rfl, by decide +kernel, rfl, by decide +kernel, by decide +kernel⟩
abbrev s__law_cell_at : Stmt := topS 12
theorem sc__law_cell_at : FnScope ["_law_script", "_law_k"] ["_law_script", "_law_k"] (defScope s__law_cell_at) := ⟨rfl, rfl, rfl, by decide +kernel, rfl, by decide +kernel, by decide +kernel⟩
abbrev s__law_whole : Stmt := topS 13
theorem sc__law_whole : FnScope ["_law_found"] ["_law_found"] (defScope s__law_whole) := ⟨rfl, rfl, rfl, by decide +kernel, rfl, by decide +kernel, by decide +kernel⟩
abbrev s__law_power : Stmt := topS 14
theorem sc__law_power : FnScope ["_law_base", "_law_many", "_law_made", "_law_k"] ["_law_base", "_law_many"] (defScope s__law_power) := ⟨rfl, rfl, rfl, by decide +kernel, rfl, by decide +kernel, by decide +kernel⟩
abbrev s__law_far_by : Stmt := topS 15
theorem sc__law_far_by : FnScope ["_law_cell", "_law_more"] ["_law_cell"] (defScope s__law_far_by) := ⟨rfl, rfl, rfl, by decide +kernel, rfl, by decide +kernel, by decide +kernel⟩
abbrev s__law_number_by : Stmt := topS 16
theorem sc__law_number_by : FnScope ["_law_cell", "_law_way"] ["_law_cell", "_law_way"] (defScope s__law_number_by) := ⟨rfl, rfl, rfl, by decide +kernel, rfl, by decide +kernel, by decide +kernel⟩
abbrev s_law : Stmt := topS 17
theorem sc_law : FnScope ["_law_script", "_law_base", "_law_number", "_law_due", "_law_left", "_law_found"] ["_law_script"] (defScope s_law) := ⟨rfl, rfl, rfl, by decide +kernel, rfl, by decide +kernel, by decide +kernel⟩
/-- what the top has written -/
structure Txt (K : PySem.W.Frag) (mg : Str → Option Value) (NB NN FE LA BA ST : Addr) : Prop where
  e_FallError : ErrAt K mg "FallError" FE
  e_NoBase : ErrAt K mg "NoBase" NB
  e_NoNumber : ErrAt K mg "NoNumber" NN
  g_LEAST_BASE : ∃ t, mg "LEAST_BASE" = some (.int 2 t)
  g_MOST_BASE : ∃ t, mg "MOST_BASE" = some (.int 16 t)
  b_divmod : mg "divmod" = none
  b_len : mg "len" = none
  b_isinstance : mg "isinstance" = none
  b_int : mg "int" = none
  b_bool : mg "bool" = none
  b_range : mg "range" = none
  d_check_base : DefAt K mg "check_base" s_check_base ["base"]
  d_check_number : DefAt K mg "check_number" s_check_number ["number"]
  d_figures_of : DefAt K mg "figures_of" s_figures_of ["number", "base"]
  d_length : DefAt K mg "length" s_length ["number", "base"]
  d__law_cell_at : DefAt K mg "_law_cell_at" s__law_cell_at ["_law_script", "_law_k"]
  d__law_whole : DefAt K mg "_law_whole" s__law_whole ["_law_found"]
  d__law_power : DefAt K mg "_law_power" s__law_power ["_law_base", "_law_many"]
  d__law_far_by : DefAt K mg "_law_far_by" s__law_far_by ["_law_cell"]
  d__law_number_by : DefAt K mg "_law_number_by" s__law_number_by ["_law_cell", "_law_way"]
section
variable {P : Program} {w : World} {K : PySem.W.Frag} {mg : Str → Option Value} {base : Heap} {NB NN FE LA BA ST : Addr}
/-! ### check_base -/
def D_check_base : List V → Hp → V → Prop := fun vs _ z => ∃ b : Int, vs = [.int b] ∧ 2 ≤ b ∧ b ≤ 16 ∧ z = .non
def R_check_base (NB : Addr) : List V → Hp → Addr → Prop := fun vs _ c => ∃ b : Int, vs = [.int b] ∧ (b < 2 ∨ 16 < b) ∧ c = NB
theorem O_check_base (T : Txt K mg NB NN FE LA BA ST) : Own P w K mg base "check_base" 1 ["base"] (spX D_check_base (R_check_base NB)) := by
  refine own_of T.d_check_base sc_check_base (fun vs H Q E h => ?_) (fun f cdv A outer s H vs Q E hr h => ⟨_, (pss_one (ps_if (PW.pt (pw_or (pt_cmpR op_lt (pv 0) (pe_const_int rfl T.g_LEAST_BASE) (nomark _)) (pw_or1 (pt_cmpR op_gt (pv 0) (pe_const_int rfl T.g_MOST_BASE) (nomark _)))))
    (pss_one (ps_own_raise T.e_NoBase tk_out))
    pss_nil)), ?_⟩)
  · rcases h with ⟨z, ⟨b, rfl, _⟩, _⟩ | ⟨c, ⟨b, rfl, _⟩, _⟩ <;> rfl
  · have he : ∀ b : Int, EvT (tOr (tTest (tOp (rI0 fun i j => .bl (decide (i < j))) (tVar 0) (tC (.int 2)))) (tTest (tOp (rI0 fun i j => .bl (decide (j < i))) (tVar 0) (tC (.int 16))))) (start ["base"] [.int b]) H (decide (b < 2) || decide (16 < b)) := fun b =>
      et_or (et_test (ev_op (ev_var rfl) ev_c rv_I0)) fun _ => et_test (ev_op (ev_var rfl) ev_c rv_I0)
    rcases h with ⟨z, ⟨b, rfl, h1, h2, rfl⟩, k⟩ | ⟨c, ⟨b, rfl, h1, rfl⟩, k⟩
    · refine s_if (he b) (fun hb => ?_) (fun _ H1 e1 => k H1 e1)
      have : ¬ (b < 2) := by omega
      have : ¬ (16 < b) := by omega
      simp_all
    · refine s_if (he b) (fun _ H1 e1 => k H1 e1) (fun hb => ?_)
      rw [Bool.or_eq_false_iff] at hb
      have := of_decide_eq_false hb.1
      have := of_decide_eq_false hb.2
      omega
/-! ### check_number -/
def D_check_number : List V → Hp → V → Prop := fun vs _ z => ∃ n : Int, vs = [.int n] ∧ 0 ≤ n ∧ z = .non
def R_check_number (NN : Addr) : List V → Hp → Addr → Prop := fun vs _ c => ∃ n : Int, vs = [.int n] ∧ n < 0 ∧ c = NN
theorem O_check_number (T : Txt K mg NB NN FE LA BA ST) : Own P w K mg base "check_number" 1 ["number"] (spX D_check_number (R_check_number NN)) := by
  refine own_of T.d_check_number sc_check_number (fun vs H Q E h => ?_) (fun f cdv A outer s H vs Q E hr h => ⟨_, (pss_one (ps_if (pt_cmpR op_lt (pv 0) pe_int (nomark _))
    (pss_one (ps_own_raise T.e_NoNumber tk_out))
    pss_nil)), ?_⟩)
  · rcases h with ⟨z, ⟨b, rfl, _⟩, _⟩ | ⟨c, ⟨b, rfl, _⟩, _⟩ <;> rfl
  · rcases h with ⟨z, ⟨b, rfl, h1, rfl⟩, k⟩ | ⟨c, ⟨b, rfl, h1, rfl⟩, k⟩
    · refine s_if (et_test (ev_op (ev_var rfl) ev_c rv_I0)) (fun hb => ?_) (fun _ H1 e1 => k H1 e1)
      have := of_decide_eq_true hb
      omega
    · refine s_if (et_test (ev_op (ev_var rfl) ev_c rv_I0)) (fun _ H1 e1 => k H1 e1) (fun hb => ?_)
      have := of_decide_eq_false hb
      omega
/-! ### figures_of -/
abbrev figsV (b n : Nat) : List V := (digs b n).map fun (d : Nat) => V.int (d : Int)
def D_figures_of : List V → Hp → List V → Prop := fun vs _ xs => ∃ n b : Nat, vs = [.int (n : Int), .int (b : Int)] ∧ 2 ≤ b ∧ b ≤ 16 ∧ n < 2 ^ 3000 ∧ xs = figsV b n
theorem O_figures_of (T : Txt K mg NB NN FE LA BA ST) : Own P w K mg base "figures_of" 1 ["number", "base"] (spL D_figures_of) := by
  refine own_of T.d_figures_of sc_figures_of (fun vs H Q E h => ?_) (fun f cdv A outer s H vs Q E hr h => ⟨_, (pss_cons (ps_set (i := 2) sc_figures_of.nd rfl (Or.inl rfl) (pe_lst pa_nil))
    (pss_cons (ps_while pw (pt_cmpR op_gt (pv 0) pe_int (nomark _))
    (pss_cons (ps_asg (pe_callB call_divmodW (by rfl) T.b_divmod (by decide +kernel) (pa_cons (pv 0) (pa_cons (pv 1) pa_nil))) (pg_tup rfl (pgs_cons (pg_name (i := 0) sc_figures_of.nd rfl (.inl rfl)) (pgs_cons (pg_name (i := 3) sc_figures_of.nd rfl (.inl rfl)) pgs_nil))))
    (pss_one (ps_expr (pe_bm PySem.F.plainAttrs_list PySem.F.slot_list_append PySem.F.type_list_append mt_append (pv 2) (pa_cons (pv 3) pa_nil))))))
    (pss_one (ps_ret (pv 2))))), ?_⟩)
  · obtain ⟨xs, ⟨n, b, rfl, _⟩, _⟩ := h
    rfl
  · obtain ⟨xs, ⟨n, b, rfl, hb, hb2, hn, rfl⟩, k⟩ := h
    refine q_asgL (el_lst ea_nil (Nat.zero_le _)) fun p H1 hp e1 hL => ?_
    refine q_while (fun m σ' H' => ∃ (acc : List Nat) (fig : Option V), σ' = [some (.int ((m : Nat) : Int)), some (.int (b : Int)), some (.ref p), fig] ∧ H' p = some (.lst (acc.map fun (d : Nat) => V.int (d : Int))) ∧ Ex H H' ∧ acc ++ digs b m = digs b n ∧ m ≤ n) n
      ⟨[], none, rfl, hL, e1, rfl, Nat.le_refl _⟩ ?_
    rintro m σ' H' ⟨acc, fig, rfl, hL, e, hd, hm⟩
    refine ⟨decide ((0 : Int) < (m : Int)), et_test (ev_op (ev_var rfl) ev_c rv_I0), fun ht H2 e2 => ?_, fun ht H2 e2 => ?_⟩
    · have hm0 : 0 < m := by
        have := of_decide_eq_true ht
        omega
      refine ⟨fun σ2 H2 => ∃ m', m' < m ∧ ∃ (acc : List Nat) (fig : Option V), σ2 = [some (.int ((m' : Nat) : Int)), some (.int (b : Int)), some (.ref p), fig] ∧ H2 p = some (.lst (acc.map fun (d : Nat) => V.int (d : Int))) ∧ Ex H H2 ∧ acc ++ digs b m' = digs b n ∧ m' ≤ n, fun _ _ h => h, ?_⟩
      have hdiv : CDivP ((m : Nat) : Int) ((b : Nat) : Int) := by
        refine divp_ok (by omega) ?_
        have h1 : Builtin.Int.intBits ((m : Nat) : Int) ≤ 3000 := PyProof.Rows.intBits_le (by rw [Int.natAbs_natCast]; exact Nat.lt_of_le_of_lt hm hn)
        omega
      refine q_asgT2 (eu_divmod (ea_cons (ev_var rfl) (ea_cons (ev_var rfl) ea_nil)) hdiv) fun H3 e3 => ?_
      have hacc : acc.length ≤ 3000 := by
        have h1 := congrArg List.length hd
        rw [List.length_append] at h1
        have h2 := digs_len hb 3000 n hn
        omega
      refine s_app (l := p) (xs := acc.map fun (d : Nat) => V.int (d : Int)) (e3 _ _ (e2 _ _ hL)) (ev_var rfl) (ev_var rfl) (by rw [List.length_map]; omega) fun H4 e4 => ?_
      refine ⟨m / b, Nat.div_lt_self hm0 (by omega), acc ++ [m % b], _, rfl, ?_, Ex.mut (((e.trans e2).trans e3).trans e4) hp, ?_, Nat.le_trans (Nat.div_le_self _ _) hm⟩
      · rw [upd_same, List.map_append]
        rfl
      · rw [← hd, digs_pos hb hm0, List.append_assoc]
        rfl
    · have hm0 : m = 0 := by
        have := of_decide_eq_false ht
        omega
      subst hm0
      rw [digs_zero, List.append_nil] at hd
      subst hd
      exact s_ret (ev_var rfl) fun H4 e4 => k p H4 hp ((e.trans e2).trans e4) (e4 _ _ (e2 _ _ hL))
/-! ### length -/
def D_length : List V → Hp → V → Prop := fun vs _ z => ∃ n b : Nat, vs = [.int (n : Int), .int (b : Int)] ∧ 2 ≤ b ∧ b ≤ 16 ∧ n < 2 ^ 3000 ∧ z = .int ((digs b n).length : Int)
def R_length (NB NN : Addr) : List V → Hp → Addr → Prop := fun vs _ c => ∃ n b : Int, vs = [.int n, .int b] ∧ (((b < 2 ∨ 16 < b) ∧ c = NB) ∨ (2 ≤ b ∧ b ≤ 16 ∧ n < 0 ∧ c = NN))
theorem O_length (T : Txt K mg NB NN FE LA BA ST) : Own P w K mg base "length" 2 ["number", "base"] (spX D_length (R_length NB NN)) := by
  have O_check_base := O_check_base (P := P) (w := w) (base := base) T
  have O_check_number := O_check_number (P := P) (w := w) (base := base) T
  have O_figures_of := O_figures_of (P := P) (w := w) (base := base) T
  refine own_of T.d_length sc_length (fun vs H Q E h => ?_) (fun f cdv A outer s H vs Q E hr h => ⟨_, (pss_cons (ps_expr (pe_own O_check_base hr (by decide) ps_out (pa_cons (pv 1) pa_nil)))
    (pss_cons (ps_expr (pe_own O_check_number hr (by decide) ps_out (pa_cons (pv 0) pa_nil)))
    (pss_one (ps_ret (pe_callB call_len_seq (by rfl) T.b_len PySem.boot_len (pa_cons (pe_own O_figures_of hr (by decide) passN (pa_cons (pv 0) (pa_cons (pv 1) pa_nil))) pa_nil)))))), ?_⟩)
  · rcases h with ⟨z, ⟨n, b, rfl, _⟩, _⟩ | ⟨c, ⟨n, b, rfl, _⟩, _⟩ <;> rfl
  · rcases h with ⟨z, ⟨n, b, rfl, hb, hb2, hn, rfl⟩, k⟩ | ⟨c, ⟨n, b, rfl, ⟨hb, rfl⟩ | ⟨hb, hb2, hn, rfl⟩⟩, k⟩
    · refine q_drop (ev_X (ea_cons (ev_var rfl) ea_nil) fun _ _ => ⟨_, rfl, by omega, by omega, rfl⟩) fun H1 e1 => ?_
      refine q_drop (ev_X (ea_cons (ev_var rfl) ea_nil) fun _ _ => ⟨_, rfl, by omega, rfl⟩) fun H2 e2 => ?_
      refine s_ret (ev_lenN (el_L (ea_cons (ev_var rfl) (ea_cons (ev_var rfl) ea_nil)) fun _ _ => ⟨n, b, rfl, hb, hb2, hn, rfl⟩)) fun H3 e3 => ?_
      rw [List.length_map]
      exact k H3 ((e1.trans e2).trans e3)
    · exact s_err (ea_cons (ev_var rfl) ea_nil) (fun _ _ => ⟨_, rfl, hb, rfl⟩) k
    · refine q_drop (ev_X (ea_cons (ev_var rfl) ea_nil) fun _ _ => ⟨_, rfl, by omega, by omega, rfl⟩) fun H1 e1 => ?_
      exact s_err (ea_cons (ev_var rfl) ea_nil) (fun _ _ => ⟨_, rfl, hn, rfl⟩) fun H2 e2 => k H2 (e1.trans e2)
/-! ### _law_cell_at -/
def D_cell (K : PySem.W.Frag) : List V → Hp → V → Prop := fun vs H z => ∃ (a : Addr) (ns : List Int) (k : Int), vs = [.ref a, .int k] ∧ 0 ≤ k ∧ SqL K H a (ns.map V.int) ∧ z = .int (L2.cellOf ns k.toNat)
theorem O__law_cell_at (T : Txt K mg NB NN FE LA BA ST) : Own P w K mg base "_law_cell_at" 1 ["_law_script", "_law_k"] (spD (D_cell K)) := by
  refine own_of T.d__law_cell_at sc__law_cell_at (fun vs H Q E h => ?_) (fun f cdv A outer s H vs Q E hr h => ⟨_, (pss_cons (ps_if (pt_cmpR op_lt (pv 1) (pe_callB call_len_seq (by rfl) T.b_len PySem.boot_len (pa_cons (pv 0) pa_nil)) (nomark _))
    (pss_one (ps_ret (pe_ix ix_list (pv 0) (pv 1) (fun _ _ => rfl))))
    pss_nil)
    (pss_one (ps_ret pe_int))), ?_⟩)
  · obtain ⟨z, ⟨a, ns, k, rfl, _⟩, _⟩ := h
    rfl
  · obtain ⟨z, ⟨a, ns, k, rfl, hk, hS, rfl⟩, q⟩ := h
    obtain ⟨j, rfl⟩ := Int.eq_ofNat_of_zero_le hk
    rw [Int.toNat_natCast] at q
    refine q_when (et_test (ev_op (ev_var rfl) (ev_len (ev_var rfl) hS) rv_I0)) (fun hb H1 e1 => ?_) (fun hb H1 e1 => ?_)
    · have h1 := of_decide_eq_true hb
      rw [List.length_map] at h1
      refine s_ret (ev_op (ev_var rfl) (ev_var rfl) (rv_ixL (ex_l e1 hS) (atI_cell (by omega)))) fun H2 e2 => q H2 (e1.trans e2)
    · have h1 := of_decide_eq_false hb
      rw [List.length_map] at h1
      rw [cell_out (by omega)] at q
      exact s_ret ev_c fun H2 e2 => q H2 (e1.trans e2)
theorem ev_cell {σ : L2.St} {H : Hp} {ta : TA} {E : XK} {a : Addr} {ns : List Int} {k : Int} (hS : SqL K H a (ns.map V.int)) (h : EvA ta σ H [.ref a, .int k]) (hk : 0 ≤ k) : Ev (tCall (spD (D_cell K)) [] E ta) σ H (.int (L2.cellOf ns k.toNat)) :=
  ev_D h fun H1 e1 => ⟨a, ns, k, rfl, hk, ex_l e1 hS, rfl⟩
/-! ### _law_whole -/
def D_whole : List V → Hp → V → Prop := fun vs _ z => ∃ n : Int, vs = [.int n] ∧ z = .bl true
theorem O__law_whole (T : Txt K mg NB NN FE LA BA ST) : Own P w K mg base "_law_whole" 1 ["_law_found"] (spD D_whole) := by
  refine own_of T.d__law_whole sc__law_whole (fun vs H Q E h => ?_) (fun f cdv A outer s H vs Q E hr h => ⟨_, (pss_one (ps_ret (pe_and (pe_callB call_isi (by rfl) T.b_isinstance (by decide +kernel) (pa_cons (pv 0) (pa_cons (pe_bltn (v := .ty "int") rfl T.b_int (by decide +kernel) rfl) pa_nil))) (pe_one (pe_not (pe_callB call_isi (by rfl) T.b_isinstance (by decide +kernel) (pa_cons (pv 0) (pa_cons (pe_bltn (v := .ty "bool") rfl T.b_bool (by decide +kernel) rfl) pa_nil)))))))), ?_⟩)
  · obtain ⟨z, ⟨n, rfl, _⟩, _⟩ := h
    rfl
  · obtain ⟨z, ⟨n, rfl, rfl⟩, q⟩ := h
    refine s_ret (v := .bl true) (ev_is (v := .bl (true && !false)) (ev_andV (ev_isi (x := .int n) (c := .ty "int") (ea_cons (ev_var rfl) (ea_cons ev_c ea_nil)) (.ty "int") (fun _ _ => .base (.int n)) (kit_ty (b := "int") (by decide +kernel))) fun _ => ev_notV (ev_isi (x := .int n) (c := .ty "bool") (ea_cons (ev_var rfl) (ea_cons ev_c ea_nil)) (.ty "bool") (fun _ _ => .base (.int n)) (kit_ty (b := "bool") (by decide +kernel)))) rfl) q
/-! ### _law_power -/
def D_power : List V → Hp → V → Prop := fun vs _ z => ∃ b k : Nat, vs = [.int (b : Int), .int (k : Int)] ∧ b ≤ 16 ∧ k ≤ 64 ∧ z = .int ((b ^ k : Nat) : Int)
theorem O__law_power (T : Txt K mg NB NN FE LA BA ST) : Own P w K mg base "_law_power" 1 ["_law_base", "_law_many"] (spD D_power) := by
  refine own_of T.d__law_power sc__law_power (fun vs H Q E h => ?_) (fun f cdv A outer s H vs Q E hr h => ⟨_, (pss_cons (ps_set (i := 2) sc__law_power.nd rfl (Or.inl rfl) pe_int)
    (pss_cons (ps_for pw rfl (pi_range1 (by rfl) T.b_range (pa_cons (pv 1) pa_nil)) (pg_name (i := 3) sc__law_power.nd rfl (.inl rfl))
    (pss_one (ps_set (i := 2) sc__law_power.nd rfl (Or.inl rfl) (pe_op op_mulW (pv 2) (pv 0)))))
    (pss_one (ps_ret (pv 2))))), ?_⟩)
  · obtain ⟨z, ⟨b, k, rfl, _⟩, _⟩ := h
    rfl
  · obtain ⟨z, ⟨b, k, rfl, hb, hk, rfl⟩, q⟩ := h
    refine q_asg ev_c fun H1 e1 => ?_
    refine q_forR1 (n := (k : Int)) (ea_cons (ev_var rfl) ea_nil) (by omega) (fun i σ' H' => Ex H H' ∧ i ≤ k ∧ ∃ v : Option V, σ' = [some (.int (b : Int)), some (.int (k : Int)), some (.int ((b ^ i : Nat) : Int)), v]) (fun H2 e2 => ⟨e1.trans e2, Nat.zero_le _, none, rfl⟩) ?_ ?_
    · rintro i σ' H' hi ⟨e, hik, v, rfl⟩
      have hlt : b ^ i < 2 ^ (4 * 64 + 1) := by
        have h1 : b ^ i ≤ 16 ^ i := Nat.pow_le_pow_left hb i
        have h2 : 16 ^ i ≤ 16 ^ 64 := Nat.pow_le_pow_right (by decide) (by omega)
        have h3 : 16 ^ 64 < 2 ^ (4 * 64 + 1) := by decide
        omega
      refine s_asg (ev_op (ev_var rfl) (ev_var rfl) (rv_I (wide_mul (a := 4 * 64 + 1) (b := 5) (by rw [Int.natAbs_natCast]; exact hlt) (by rw [Int.natAbs_natCast]; exact Nat.lt_of_le_of_lt hb (by decide)) (by decide) (by decide) (by decide)))) fun H2 e2 => ?_
      refine ⟨e.trans e2, by omega, some (.int (i : Int)), ?_⟩
      rw [Nat.pow_succ, Int.natCast_mul]
      rfl
    · rintro σ' H' ⟨e, _, v, rfl⟩
      rw [Int.toNat_natCast]
      exact s_ret (ev_var rfl) fun H2 e2 => q H2 (e.trans e2)
/-! ### _law_far_by -/
def farPick (c : Int) : Int := if c % 4 = 0 then 10 ^ 60 else if c % 4 = 1 then 10 ^ 60 * 10 ^ 60 else if c % 4 = 2 then 10 ^ 60 * 10 ^ 60 * 10 ^ 60 else 10 ^ 60 * 10 ^ 60 * 10 ^ 60 * 10 ^ 9
def farBy (c : Int) : Int := (1 + c % 10 ^ 60) * farPick c + c % 10 ^ 64
theorem farPick_pos (c : Int) : 0 ≤ farPick c := by
  unfold farPick
  split
  · decide
  · split
    · decide
    · split
      · decide
      · decide
theorem farPick_big (c : Int) : (farPick c).natAbs < 2 ^ 640 := by
  unfold farPick
  split
  · decide
  · split
    · decide
    · split
      · decide
      · decide
theorem mod_big (c : Int) {j : Int} {n : Nat} (h0 : 0 < j) (h : j.natAbs < 2 ^ n) : 0 ≤ c % j ∧ (c % j).natAbs < 2 ^ n := by
  have h1 := Int.emod_nonneg c (show j ≠ 0 by omega)
  have h2 := Int.emod_lt_of_pos c h0
  exact ⟨h1, by omega⟩
theorem big_add {i j : Int} {n : Nat} (h1 : i.natAbs < 2 ^ n) (h2 : j.natAbs < 2 ^ n) : (i + j).natAbs < 2 ^ (n + 1) := by
  rw [Nat.pow_succ]
  omega
theorem one_mod_big (c : Int) : 0 ≤ 1 + c % 10 ^ 60 ∧ (1 + c % 10 ^ 60).natAbs < 2 ^ 201 := by
  have h := mod_big c (j := 10 ^ 60) (n := 200) (by decide) (by decide)
  exact ⟨by omega, big_add (i := 1) (by decide) h.2⟩
theorem farBy_big (c : Int) : 0 ≤ farBy c ∧ (farBy c).natAbs < 2 ^ 842 := by
  have h1 := one_mod_big c
  have h2 := wide_lt h1.2 (farPick_big c)
  have h3 := mod_big c (j := 10 ^ 64) (n := 841) (by decide) (by decide)
  have h4 := Int.mul_nonneg h1.1 (farPick_pos c)
  unfold farBy
  exact ⟨by omega, big_add h2 h3.2⟩
def D_far_by : List V → Hp → V → Prop := fun vs _ z => ∃ c : Int, vs = [.int c] ∧ z = .int (farBy c)
theorem ev_pow10 {σ : L2.St} {H : Hp} {k : Int} (n : Nat) (h : k = (n : Int)) (hn : n ≤ 64) : Ev (tOp (rI CPow fun i j => .int (i ^ j.toNat)) (tC (.int 10)) (tC (.int k))) σ H (.int (10 ^ n)) := by
  subst h
  exact ev_op ev_c ev_c (rv_I (g := fun i j => .int (i ^ j.toNat)) (i := 10) (j := (n : Int)) ⟨by omega, by omega, by decide⟩)
theorem O__law_far_by (T : Txt K mg NB NN FE LA BA ST) : Own P w K mg base "_law_far_by" 1 ["_law_cell"] (spD D_far_by) := by
  refine own_of T.d__law_far_by sc__law_far_by (fun vs H Q E h => ?_) (fun f cdv A outer s H vs Q E hr h => ⟨_, (pss_cons (ps_set (i := 1) sc__law_far_by.nd rfl (Or.inl rfl) (pe_op op_mulW (pe_op op_mulW (pe_op op_pow pe_int pe_int) (pe_op op_pow pe_int pe_int)) (pe_op op_pow pe_int pe_int)))
    (pss_one (ps_ret (pe_op op_add (pe_op op_mulW (pe_op op_add pe_int (pe_op op_mod (pv 0) (pe_op op_pow pe_int pe_int))) (pe_ix ix_list (pe_lst (pa_cons (pe_op op_pow pe_int pe_int) (pa_cons (pe_op op_mulW (pe_op op_pow pe_int pe_int) (pe_op op_pow pe_int pe_int)) (pa_cons (pv 1) (pa_cons (pe_op op_mulW (pv 1) (pe_op op_pow pe_int pe_int)) pa_nil))))) (pe_op op_mod (pv 0) pe_int) (fun _ _ => rfl))) (pe_op op_mod (pv 0) (pe_op op_pow pe_int pe_int)))))), ?_⟩)
  · obtain ⟨z, ⟨b, rfl, _⟩, _⟩ := h
    rfl
  · obtain ⟨z, ⟨c, rfl, rfl⟩, q⟩ := h
    have e60 : ∀ {σ : L2.St} {H : Hp}, Ev (tOp (rI CPow fun i j => .int (i ^ j.toNat)) (tC (.int 10)) (tC (.int 60))) σ H (.int (10 ^ 60)) := ev_pow10 60 rfl (by decide)
    have b60 : ((10 : Int) ^ 60).natAbs < 2 ^ 200 := by decide
    have b120 : ((10 : Int) ^ 60 * 10 ^ 60).natAbs < 2 ^ 400 := by decide
    have b180 : ((10 : Int) ^ 60 * 10 ^ 60 * 10 ^ 60).natAbs < 2 ^ 600 := by decide
    have e120 : ∀ {σ : L2.St} {H : Hp}, Ev (tOp (rI CMulW fun i j => .int (i * j)) (tOp (rI CPow fun i j => .int (i ^ j.toNat)) (tC (.int 10)) (tC (.int 60))) (tOp (rI CPow fun i j => .int (i ^ j.toNat)) (tC (.int 10)) (tC (.int 60)))) σ H (.int (10 ^ 60 * 10 ^ 60)) :=
      ev_op e60 e60 (rv_I (g := fun i j => .int (i * j)) (wide_mul b60 b60 (by decide) (by decide) (by decide)))
    refine q_asg (ev_op e120 e60 (rv_I (g := fun i j => .int (i * j)) (wide_mul b120 b60 (by decide) (by decide) (by decide)))) fun H1 e1 => ?_
    have hat : atI [V.int (10 ^ 60), V.int (10 ^ 60 * 10 ^ 60), V.int (10 ^ 60 * 10 ^ 60 * 10 ^ 60), V.int (10 ^ 60 * 10 ^ 60 * 10 ^ 60 * 10 ^ 9)] (c % 4) = some (.int (farPick c)) := by
      have h4 : c % 4 = 0 ∨ c % 4 = 1 ∨ c % 4 = 2 ∨ c % 4 = 3 := by omega
      unfold farPick
      rcases h4 with h | h | h | h <;> rw [h] <;> rfl
    refine s_ret (v := .int (farBy c)) ?_ fun H2 e2 => q H2 (e1.trans e2)
    refine ev_op (x := .int ((1 + c % 10 ^ 60) * farPick c)) (y := .int (c % 10 ^ 64)) ?_ ?_ rv_I0
    · refine ev_op (x := .int (1 + c % 10 ^ 60)) (y := .int (farPick c)) ?_ ?_ (rv_I (g := fun i j => .int (i * j)) (wide_mul (one_mod_big c).2 (farPick_big c) (by decide) (by decide) (by decide)))
      · exact ev_op ev_c (ev_op (ev_var rfl) e60 (rv_I (g := fun i j => .int (i % j)) (by decide))) rv_I0
      · refine ix_ev (el_lst (ea_cons e60 (ea_cons e120 (ea_cons (ev_var rfl) (ea_cons (ev_op (ev_var rfl) (ev_pow10 9 rfl (by decide)) (rv_I (g := fun i j => .int (i * j)) (wide_mul b180 (b := 40) (by decide) (by decide) (by decide) (by decide)))) ea_nil)))) (by decide)) (fun _ _ => ev_op (ev_var rfl) ev_c (rv_I (g := fun i j => .int (i % j)) (by decide))) hat
    · exact ev_op (ev_var rfl) (ev_pow10 64 rfl (by decide)) (rv_I (g := fun i j => .int (i % j)) (by decide))
/-! ### _law_number_by -/
def numBy (c w : Int) : Int := if w % 5 = 0 then c % 12 else if w % 5 = 1 then c % 1000 else if w % 5 = 2 then c % 10 ^ 12 else if w % 5 = 3 then c % 10 ^ 60 else farBy c
theorem numBy_big (c w : Int) : 0 ≤ numBy c w ∧ (numBy c w).natAbs < 2 ^ 842 := by
  unfold numBy
  split
  · exact mod_big c (by decide) (by decide)
  · split
    · exact mod_big c (by decide) (by decide)
    · split
      · exact mod_big c (by decide) (by decide)
      · split
        · exact mod_big c (by decide) (by decide)
        · exact farBy_big c
def D_number_by : List V → Hp → V → Prop := fun vs _ z => ∃ c w : Int, vs = [.int c, .int w] ∧ z = .int (numBy c w)
theorem O__law_number_by (T : Txt K mg NB NN FE LA BA ST) : Own P w K mg base "_law_number_by" 2 ["_law_cell", "_law_way"] (spD D_number_by) := by
  have O__law_far_by := O__law_far_by (P := P) (w := w) (base := base) T
  refine own_of T.d__law_number_by sc__law_number_by (fun vs H Q E h => ?_) (fun f cdv A outer s H vs Q E hr h => ⟨_, (pss_cons (ps_if (pt_cmpR op_eq (pe_op op_mod (pv 1) pe_int) pe_int (nomark _))
    (pss_one (ps_ret (pe_op op_mod (pv 0) pe_int)))
    pss_nil)
    (pss_cons (ps_if (pt_cmpR op_eq (pe_op op_mod (pv 1) pe_int) pe_int (nomark _))
    (pss_one (ps_ret (pe_op op_mod (pv 0) pe_int)))
    pss_nil)
    (pss_cons (ps_if (pt_cmpR op_eq (pe_op op_mod (pv 1) pe_int) pe_int (nomark _))
    (pss_one (ps_ret (pe_op op_mod (pv 0) (pe_op op_pow pe_int pe_int))))
    pss_nil)
    (pss_cons (ps_if (pt_cmpR op_eq (pe_op op_mod (pv 1) pe_int) pe_int (nomark _))
    (pss_one (ps_ret (pe_op op_mod (pv 0) (pe_op op_pow pe_int pe_int))))
    pss_nil)
    (pss_one (ps_ret (pe_own O__law_far_by hr (by decide) passN (pa_cons (pv 0) pa_nil)))))))), ?_⟩)
  · obtain ⟨z, ⟨c, w, rfl, _⟩, _⟩ := h
    rfl
  · obtain ⟨z, ⟨c, w, rfl, rfl⟩, q⟩ := h
    have hi : ∀ {b : Bool} {i : Int}, decide (V.int (w % 5) = V.int i) = b → b = decide (w % 5 = i) := by
      intro b i h
      rw [← h]
      by_cases hh : w % 5 = i <;> simp [hh]
    have nb : ∀ {b : Bool} {i : Int}, b = decide (w % 5 = i) → b = true → w % 5 = i := fun h hb => by rw [h] at hb; exact of_decide_eq_true hb
    have nf : ∀ {b : Bool} {i : Int}, b = decide (w % 5 = i) → b = false → ¬ w % 5 = i := fun h hb => by rw [h] at hb; exact of_decide_eq_false hb
    have tst : ∀ {σ : L2.St} {H : Hp} (i : Int), σ[1]? = some (some (.int w)) → EvT (tTest (tOp rEq (tOp (rI (fun _ j => 0 < j) fun i j => .int (i % j)) (tVar 1) (tC (.int 5))) (tC (.int i)))) σ H (decide (w % 5 = i)) := fun {σ H} i hσ =>
      et_is (et_test (ev_op (ev_op (ev_var hσ) ev_c (rv_I (g := fun i j => .int (i % j)) (by decide))) ev_c (rv_eq rfl))) (by by_cases hh : w % 5 = i <;> simp [hh])
    unfold numBy at q
    refine q_when (tst 0 rfl) (fun hb H1 e1 => ?_) (fun hb H1 e1 => ?_)
    · rw [if_pos (of_decide_eq_true hb)] at q
      exact s_ret (ev_op (ev_var rfl) ev_c (rv_I (g := fun i j => .int (i % j)) (by decide))) fun H2 e2 => q H2 (e1.trans e2)
    · rw [if_neg (of_decide_eq_false hb)] at q
      refine q_when (tst 1 rfl) (fun hb H2 e2 => ?_) (fun hb H2 e2 => ?_)
      · rw [if_pos (of_decide_eq_true hb)] at q
        exact s_ret (ev_op (ev_var rfl) ev_c (rv_I (g := fun i j => .int (i % j)) (by decide))) fun H3 e3 => q H3 ((e1.trans e2).trans e3)
      · rw [if_neg (of_decide_eq_false hb)] at q
        refine q_when (tst 2 rfl) (fun hb H3 e3 => ?_) (fun hb H3 e3 => ?_)
        · rw [if_pos (of_decide_eq_true hb)] at q
          exact s_ret (ev_op (ev_var rfl) (ev_pow10 12 rfl (by decide)) (rv_I (g := fun i j => .int (i % j)) (by decide))) fun H4 e4 => q H4 (((e1.trans e2).trans e3).trans e4)
        · rw [if_neg (of_decide_eq_false hb)] at q
          refine q_when (tst 3 rfl) (fun hb H4 e4 => ?_) (fun hb H4 e4 => ?_)
          · rw [if_pos (of_decide_eq_true hb)] at q
            exact s_ret (ev_op (ev_var rfl) (ev_pow10 60 rfl (by decide)) (rv_I (g := fun i j => .int (i % j)) (by decide))) fun H5 e5 => q H5 ((((e1.trans e2).trans e3).trans e4).trans e5)
          · rw [if_neg (of_decide_eq_false hb)] at q
            exact s_ret (ev_D (ea_cons (ev_var rfl) ea_nil) fun _ _ => ⟨c, rfl, rfl⟩) fun H5 e5 => q H5 ((((e1.trans e2).trans e3).trans e4).trans e5)
def spLaw (K : PySem.W.Frag) : Sp := fun vs H Q _ => ∃ (a : Addr) (ns : List Int), vs = [.ref a] ∧ SqL K H a (ns.map V.int) ∧ ns.length ≤ 63 ∧ ∀ H', Q (.bl true) H'
theorem ok_law (T : Txt K mg NB NN FE LA BA ST) {fa : Addr} {fd : FuncData} (F : Fun K "law" "law" s_law fa fd) : FnOk P w K mg base (L2N.CX P w) 3 fa fd ["_law_script"] (spLaw K) := by
  have O__law_number_by := O__law_number_by (P := P) (w := w) (base := base) T
  have O_length := O_length (P := P) (w := w) (base := base) T
  have O__law_cell_at := O__law_cell_at (P := P) (w := w) (base := base) T
  have O__law_whole := O__law_whole (P := P) (w := w) (base := base) T
  have O__law_power := O__law_power (P := P) (w := w) (base := base) T
  refine okN F sc_law (fun vs H Q E h => ?_) (fun cdv A outer s H vs Q E hr h => ⟨_, (pss_cons (ps_set (i := 1) sc_law.nd rfl (Or.inl rfl) (pe_op op_add pe_int (pe_op op_mod (pe_own O__law_cell_at hr (by decide) passN (pa_cons (pv 0) (pa_cons pe_int pa_nil))) pe_int)))
    (pss_cons (ps_set (i := 2) sc_law.nd rfl (Or.inl rfl) (pe_own O__law_number_by hr (by decide) passN (pa_cons (pe_own O__law_cell_at hr (by decide) passN (pa_cons (pv 0) (pa_cons pe_int pa_nil))) (pa_cons (pe_own O__law_cell_at hr (by decide) passN (pa_cons (pv 0) (pa_cons pe_int pa_nil))) pa_nil))))
    (pss_cons (ps_if (pt_cmpR op_eq (pe_op op_mod (pe_op op_fdivW (pe_own O__law_cell_at hr (by decide) passN (pa_cons (pv 0) (pa_cons pe_int pa_nil))) pe_int) pe_int) pe_int (nomark _))
    (pss_one (ps_set (i := 2) sc_law.nd rfl (Or.inl rfl) (pe_op op_sub (pe_own O__law_power hr (by decide) passN (pa_cons (pv 1) (pa_cons (pe_op op_mod (pe_own O__law_cell_at hr (by decide) passN (pa_cons (pv 0) (pa_cons pe_int pa_nil))) pe_int) pa_nil))) (pe_op op_mod (pe_op op_fdivW (pe_own O__law_cell_at hr (by decide) passN (pa_cons (pv 0) (pa_cons pe_int pa_nil))) pe_int) pe_int))))
    pss_nil)
    (pss_cons (ps_set (i := 3) sc_law.nd rfl (Or.inl rfl) pe_int)
    (pss_cons (ps_set (i := 4) sc_law.nd rfl (Or.inl rfl) (pv 2))
    (pss_cons (ps_while pw (pt_cmpR op_gt (pv 4) pe_int (nomark _))
    (pss_cons (ps_set (i := 4) sc_law.nd rfl (Or.inl rfl) (pe_op op_fdivW (pv 4) (pv 1)))
    (pss_one (ps_set (i := 3) sc_law.nd rfl (Or.inl rfl) (pe_op op_add (pv 3) pe_int)))))
    (pss_cons (ps_set (i := 5) sc_law.nd rfl (Or.inl rfl) (pe_own O_length hr (by decide) ps_out (pa_cons (pv 2) (pa_cons (pv 1) pa_nil))))
    (pss_one (ps_ret (pe_and (pe_own O__law_whole hr (by decide) passN (pa_cons (pv 5) pa_nil)) (pe_one (pe_cmpR op_eq (pv 5) (pv 3) (nomark _))))))))))))), ?_⟩)
  · obtain ⟨a, ns, rfl, _⟩ := h
    rfl
  · obtain ⟨a, ns, rfl, hS, hlen, k⟩ := h
    have cell : ∀ {σ : L2.St} {H1 : Hp} {i : Int} {E : XK}, Ex H H1 → σ[0]? = some (some (.ref a)) → 0 ≤ i → Ev (tCall (spD (D_cell K)) [] E (tCons (tVar 0) (tCons (tC (.int i)) tNil))) σ H1 (.int (L2.cellOf ns i.toNat)) :=
      fun e hσ hi => ev_cell (ex_l e hS) (ea_cons (ev_var hσ) (ea_cons ev_c ea_nil)) hi
    generalize hc0 : L2.cellOf ns (0 : Int).toNat = c0
    generalize hc1 : L2.cellOf ns (1 : Int).toNat = c1
    generalize hc2 : L2.cellOf ns (2 : Int).toNat = c2
    have cell0 : ∀ {σ : L2.St} {H1 : Hp} {E : XK}, Ex H H1 → σ[0]? = some (some (.ref a)) → Ev (tCall (spD (D_cell K)) [] E (tCons (tVar 0) (tCons (tC (.int 0)) tNil))) σ H1 (.int c0) := fun e hσ => hc0 ▸ cell e hσ (by decide)
    have cell1 : ∀ {σ : L2.St} {H1 : Hp} {E : XK}, Ex H H1 → σ[0]? = some (some (.ref a)) → Ev (tCall (spD (D_cell K)) [] E (tCons (tVar 0) (tCons (tC (.int 1)) tNil))) σ H1 (.int c1) := fun e hσ => hc1 ▸ cell e hσ (by decide)
    have cell2 : ∀ {σ : L2.St} {H1 : Hp} {E : XK}, Ex H H1 → σ[0]? = some (some (.ref a)) → Ev (tCall (spD (D_cell K)) [] E (tCons (tVar 0) (tCons (tC (.int 2)) tNil))) σ H1 (.int c2) := fun e hσ => hc2 ▸ cell e hσ (by decide)
    have m15 := Int.emod_nonneg c0 (show (15 : Int) ≠ 0 by decide)
    have l15 := Int.emod_lt_of_pos c0 (show (0 : Int) < 15 by decide)
    obtain ⟨b, hb⟩ : ∃ b : Nat, 2 + c0 % 15 = (b : Int) := Int.eq_ofNat_of_zero_le (by omega)
    have hb1 : 2 ≤ b := by omega
    have hb2 : b ≤ 16 := by omega
    refine q_asg (v := .int (b : Int)) (ev_is (ev_op ev_c (ev_op (cell0 (Ex.refl H) rfl) ev_c (rv_I (g := fun i j => .int (i % j)) (by decide))) rv_I0) (congrArg V.int hb)) fun H1 e1 => ?_
    refine q_asg (ev_D (ea_cons (cell1 e1 rfl) (ea_cons (cell2 e1 rfl) ea_nil)) fun _ _ => ⟨c1, c2, rfl, rfl⟩) fun H2 e2 => ?_
    have m41 := Int.emod_nonneg c1 (show (41 : Int) ≠ 0 by decide)
    have l41 := Int.emod_lt_of_pos c1 (show (0 : Int) < 41 by decide)
    obtain ⟨pw41, hp41⟩ : ∃ j : Nat, c1 % 41 = (j : Int) := Int.eq_ofNat_of_zero_le m41
    have m2 := Int.emod_nonneg (c2 / 15) (show (2 : Int) ≠ 0 by decide)
    have l2 := Int.emod_lt_of_pos (c2 / 15) (show (0 : Int) < 2 by decide)
    have hpos : 0 < b ^ pw41 := Nat.pow_pos (by omega)
    have hbig : b ^ pw41 < 2 ^ 200 := by
      have h1 : b ^ pw41 ≤ 16 ^ pw41 := Nat.pow_le_pow_left hb2 pw41
      have h2 : 16 ^ pw41 ≤ 16 ^ 41 := Nat.pow_le_pow_right (by decide) (by omega)
      have h3 : 16 ^ 41 < 2 ^ 200 := by decide
      omega
    have e12 := e1.trans e2
    -- the number
    obtain ⟨n, hn, hnb⟩ : ∃ n : Nat, (if c2 / 5 % 3 = 1 then ((b ^ pw41 : Nat) : Int) - c2 / 15 % 2 else numBy c1 c2) = (n : Int) ∧ n < 2 ^ 3000 := by
      by_cases hc : c2 / 5 % 3 = 1
      · rw [if_pos hc]
        have h2 : (2 : Nat) ^ 200 < 2 ^ 3000 := Nat.pow_lt_pow_right (by decide) (by decide)
        obtain ⟨n, hn⟩ := Int.eq_ofNat_of_zero_le (show 0 ≤ ((b ^ pw41 : Nat) : Int) - c2 / 15 % 2 by omega)
        exact ⟨n, hn, by omega⟩
      · rw [if_neg hc]
        have h1 := numBy_big c1 c2
        have h2 : (2 : Nat) ^ 842 < 2 ^ 3000 := Nat.pow_lt_pow_right (by decide) (by decide)
        obtain ⟨n, hn⟩ := Int.eq_ofNat_of_zero_le h1.1
        exact ⟨n, hn, by have := h1.2; rw [hn, Int.natAbs_natCast] at this; omega⟩
    refine q_ifAsg (b := decide (c2 / 5 % 3 = 1)) (v := .int (n : Int)) (et_is (et_test (ev_op (ev_op (ev_op (cell2 e12 rfl) ev_c (rv_I (g := fun i j => .int (i / j)) ⟨by decide, by decide⟩)) ev_c (rv_I (g := fun i j => .int (i % j)) (by decide))) ev_c (rv_eq rfl))) (by by_cases hh : c2 / 5 % 3 = 1 <;> simp [hh])) (fun ht => ?_) (fun ht => ?_) fun H3 e3 => ?_
    · have ht' := of_decide_eq_true ht
      rw [if_pos ht'] at hn
      refine ev_is (ev_op (ev_D (z := .int ((b ^ pw41 : Nat) : Int)) (ea_cons (ev_var rfl) (ea_cons (ev_op (cell1 e12 rfl) ev_c (rv_I (g := fun i j => .int (i % j)) (by decide))) ea_nil)) fun _ _ => ⟨b, pw41, by rw [hp41] <;> rfl, hb2, by omega, rfl⟩)
        (ev_op (ev_op (cell2 e12 rfl) ev_c (rv_I (g := fun i j => .int (i / j)) ⟨by decide, by decide⟩)) ev_c (rv_I (g := fun i j => .int (i % j)) (by decide))) rv_I0) ?_
      exact congrArg V.int hn
    · have ht' := of_decide_eq_false ht
      rw [if_neg ht'] at hn
      rw [hn]
      rfl
    refine q_asg ev_c fun H4 e4 => ?_
    refine q_asg (ev_var rfl) fun H5 e5 => ?_
    have e05 := ((e12.trans e3).trans e4).trans e5
    refine q_while (fun m σ' H' => Ex H H' ∧ m ≤ n ∧ ∃ due : Nat, due + (digs b m).length = (digs b n).length ∧ σ' = [some (.ref a), some (.int (b : Int)), some (.int (n : Int)), some (.int (due : Int)), some (.int (m : Int)), none]) n ⟨e05, Nat.le_refl _, 0, Nat.zero_add _, rfl⟩ ?_
    rintro m σ' H' ⟨e, hm, due, hd, rfl⟩
    refine ⟨_, et_test (ev_op (ev_var rfl) ev_c rv_I0), fun ht H6 e6 => ?_, fun ht H6 e6 => ?_⟩
    · have hm0 : 0 < m := by
        have := of_decide_eq_true ht
        omega
      refine ⟨fun σ2 H2 => ∃ m', m' < m ∧ Ex H H2 ∧ m' ≤ n ∧ ∃ due : Nat, due + (digs b m').length = (digs b n).length ∧ σ2 = [some (.ref a), some (.int (b : Int)), some (.int (n : Int)), some (.int (due : Int)), some (.int (m' : Int)), none], fun _ _ h => h, ?_⟩
      refine q_asg (ev_op (ev_var rfl) (ev_var rfl) (rv_I (g := fun i j => .int (i / j)) (wide_div (b := 5) (by omega) (by rw [Int.natAbs_natCast]; omega) (by decide) (by decide)))) fun H7 e7 => ?_
      refine s_asg (ev_op (ev_var rfl) ev_c rv_I0) fun H8 e8 => ?_
      refine ⟨m / b, Nat.div_lt_self hm0 (by omega), ((e.trans e6).trans e7).trans e8, Nat.le_trans (Nat.div_le_self _ _) hm, due + 1, ?_, rfl⟩
      rw [digs_pos hb1 hm0, List.length_cons] at hd
      omega
    · have hm0 : m = 0 := by
        have := of_decide_eq_false ht
        omega
      subst hm0
      rw [digs_zero, List.length_nil, Nat.add_zero] at hd
      refine q_asg (ev_X (ea_cons (ev_var rfl) (ea_cons (ev_var rfl) ea_nil)) fun _ _ => ⟨n, b, rfl, hb1, hb2, hnb, rfl⟩) fun H7 e7 => ?_
      refine s_ret (v := .bl true) (ev_is (ev_andV (ev_D (ea_cons (ev_var rfl) ea_nil) fun _ _ => ⟨_, rfl, rfl⟩) fun _ => ev_op (ev_var rfl) (ev_var rfl) (rv_eq rfl)) ?_) fun H8 _ => k H8
      rw [hd]
      simp
end
theorem all_mk {l : PySem.W.OpenLaw} {w : World} {K : PySem.W.Frag} {mg : Str → Option Value} {fa : Addr} (hfa : mg "law" = some (.ref fa)) {NB NN FE LA BA ST : Addr} (T : Txt K mg NB NN FE LA BA ST) (d : DefAt K mg "law" s_law ["_law_script"]) :
    ∃ fd : FuncData, (∀ (s : Shared) (v : Value), BindsTo s fd ⟨[v], []⟩ [("_law_script", v)]) ∧ ∀ base : Heap, K.In base → base.Ns mainGlobals mg → FnOk l.prog w K mg base (L2N.CX l.prog w) 3 fa fd ["_law_script"] (spLaw K) := by
  obtain ⟨f, fd, F, hm, hb⟩ := d.ex
  have e := hfa.symm.trans hm
  cases e
  exact ⟨fd, fun s v => .of_eq (hb [v] rfl), fun base _ _ => ok_law T F⟩
theorem walk {l : PySem.W.OpenLaw} {q : Program} {loose : List Str} {XP : (Str → Option Value) → Heap → Prop} {YP : World → Heap → Prop} {d : DefRec} {K : Params → PySem.W.Frag} (hn : l.most = some 63) (hdf : d.params.defaults = [])
    (hY : ∀ (w : World) (h : Heap), YP w h → (K w.params).In h)
    (F : ∀ (w : World) (mg : Str → Option Value) (fa : Addr) (h : Heap), (K w.params).In h → h.Ns mainGlobals mg → mg d.name = some (.ref fa) →
      ∃ fd : FuncData, (∀ (s : Shared) (u : Value), BindsTo s fd ⟨[u], []⟩ [("_law_script", u)]) ∧ ∀ base : Heap, (K w.params).In base → base.Ns mainGlobals mg → FnOk l.prog w (K w.params) mg base (L2N.CX l.prog w) 3 fa fd ["_law_script"] (spLaw (K w.params))) :
    PySem.W.WalkO q loose XP YP l.row.toRowW d [] (fun f vs => PySem.call f vs) :=
  L2.walk_of (n := 63) (k := 3) (x := "_law_script") (CX := fun w => L2N.CX l.prog w) (sp := fun w => spLaw (K w.params)) hn (by decide) hdf ⟨rfl, by decide, by decide⟩ hY F (fun _ _ a ns hl _ hS => ⟨a, ns, rfl, hS, hl, fun _ => rfl⟩) fun w H s e s' z => noCX l.prog w H s e s' z
end BF
open PySem PySem.W PyProof.Rows in
set_option maxRecDepth 100000 in
set_option maxHeartbeats 0 in
theorem PySem.Challenge.cw_bucketfall_k01_lengths_holds : PySem.Challenge.rw_bucketfall_k01_lengths.Holds := by
  w_on; o_law; k_head; (case hw => w_witness2)
  k_fill
  refine BF.walk (l := PySem.Challenge.rw_bucketfall_k01_lengths) rfl rfl (fun w h Y => PySem.W.kIn_of Y) ?F
  case F =>
    intro w mg fa h KX G hmg
    refine' BF.all_mk hmg (NB := ?C_NB) (NN := ?C_NN) (FE := ?C_FE) (LA := 0) (BA := 0) (ST := 0) ⟨BF.ErrAt.mk (PySem.W.mg_of KX G ?g_FallError) ?x_FallError ?k_FallError ?b_FallError ?t_FallError, BF.ErrAt.mk (PySem.W.mg_of KX G ?g_NoBase) ?x_NoBase ?k_NoBase ?b_NoBase ?t_NoBase, BF.ErrAt.mk (PySem.W.mg_of KX G ?g_NoNumber) ?x_NoNumber ?k_NoNumber ?b_NoNumber ?t_NoNumber, BF.const_mk KX G ?c_LEAST_BASE ?v_LEAST_BASE, BF.const_mk KX G ?c_MOST_BASE ?v_MOST_BASE, PySem.W.mg_none_of KX G ?z_divmod, PySem.W.mg_none_of KX G ?z_len, PySem.W.mg_none_of KX G ?z_isinstance, PySem.W.mg_none_of KX G ?z_int, PySem.W.mg_none_of KX G ?z_bool, PySem.W.mg_none_of KX G ?z_range, ?d_check_base, ?d_check_number, ?d_figures_of, ?d_length, ?d__law_cell_at, ?d__law_whole, ?d__law_power, ?d__law_far_by, ?d__law_number_by⟩ ?d_law
    (case g_FallError => k_is)
    (case x_FallError => k_exc)
    (case k_FallError => k_is)
    (case b_FallError => k_is)
    (case t_FallError => k_is)
    (case g_NoBase => k_is)
    (case x_NoBase => k_exc)
    (case k_NoBase => k_is)
    (case b_NoBase => k_is)
    (case t_NoBase => k_is)
    (case g_NoNumber => k_is)
    (case x_NoNumber => k_exc)
    (case k_NoNumber => k_is)
    (case b_NoNumber => k_is)
    (case t_NoNumber => k_is)
    (case c_LEAST_BASE => k_is)
    (case v_LEAST_BASE => exact ⟨_, rfl⟩)
    (case c_MOST_BASE => k_is)
    (case v_MOST_BASE => exact ⟨_, rfl⟩)
    (case z_divmod => k_is)
    (case z_len => k_is)
    (case z_isinstance => k_is)
    (case z_int => k_is)
    (case z_bool => k_is)
    (case z_range => k_is)
    (case d_check_base => (refine' BF.def_mk KX G ?a ?l ?c ?k ?b; (case a => k_is); (case l => k_is); (case c => k_is); (case k => k_is); (case b => exact fun _ _ _ _ _ _ us hl => match us, hl with | [_], _ => rfl)))
    (case d_check_number => (refine' BF.def_mk KX G ?a ?l ?c ?k ?b; (case a => k_is); (case l => k_is); (case c => k_is); (case k => k_is); (case b => exact fun _ _ _ _ _ _ us hl => match us, hl with | [_], _ => rfl)))
    (case d_figures_of => (refine' BF.def_mk KX G ?a ?l ?c ?k ?b; (case a => k_is); (case l => k_is); (case c => k_is); (case k => k_is); (case b => exact fun _ _ _ _ _ _ us hl => match us, hl with | [_, _], _ => rfl)))
    (case d_length => (refine' BF.def_mk KX G ?a ?l ?c ?k ?b; (case a => k_is); (case l => k_is); (case c => k_is); (case k => k_is); (case b => exact fun _ _ _ _ _ _ us hl => match us, hl with | [_, _], _ => rfl)))
    (case d__law_cell_at => (refine' BF.def_mk KX G ?a ?l ?c ?k ?b; (case a => k_is); (case l => k_is); (case c => k_is); (case k => k_is); (case b => exact fun _ _ _ _ _ _ us hl => match us, hl with | [_, _], _ => rfl)))
    (case d__law_whole => (refine' BF.def_mk KX G ?a ?l ?c ?k ?b; (case a => k_is); (case l => k_is); (case c => k_is); (case k => k_is); (case b => exact fun _ _ _ _ _ _ us hl => match us, hl with | [_], _ => rfl)))
    (case d__law_power => (refine' BF.def_mk KX G ?a ?l ?c ?k ?b; (case a => k_is); (case l => k_is); (case c => k_is); (case k => k_is); (case b => exact fun _ _ _ _ _ _ us hl => match us, hl with | [_, _], _ => rfl)))
    (case d__law_far_by => (refine' BF.def_mk KX G ?a ?l ?c ?k ?b; (case a => k_is); (case l => k_is); (case c => k_is); (case k => k_is); (case b => exact fun _ _ _ _ _ _ us hl => match us, hl with | [_], _ => rfl)))
    (case d__law_number_by => (refine' BF.def_mk KX G ?a ?l ?c ?k ?b; (case a => k_is); (case l => k_is); (case c => k_is); (case k => k_is); (case b => exact fun _ _ _ _ _ _ us hl => match us, hl with | [_, _], _ => rfl)))
    (case d_law => (refine' BF.def_mk KX G ?a ?l ?c ?k ?b; (case a => k_is); (case l => k_is); (case c => k_is); (case k => k_is); (case b => exact fun _ _ _ _ _ _ us hl => match us, hl with | [_], _ => rfl)))
#print axioms PySem.Challenge.cw_bucketfall_k01_lengths_holds

