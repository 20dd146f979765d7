import PyProof.Rows.All
import Wide.All
import OpenK.AllK
import Wide.FinOn
import HandS.ForMost
import HandS.ForExc
import HandS.Wide
import HandS.WideBits
import HandS.IsInst
import HandS.Evl
import HandS.More
import HandS.HotCalls
import HandS.ExcCtx
import HandS.Text
import HandS.Iter
import HandS.Hot
import PyProof.Rows.TupIter
import HandS.ExcIs
import PySem.Challenge.RW_bucketfall_k04_read
set_option Elab.async false
set_option linter.all false
set_option maxRecDepth 100000
set_option maxHeartbeats 4000000
/-! Prelude: a def of the text and its promise in one bundle; promises of three shapes; what they evaluate to. -/
namespace BF
open PySem L2 Evl
section
variable {X : Cx}
theorem pe_const_int {x : Str} {n : Int} {pos : Pos} (hg : Gl X x) (h : ∃ t, X.mg x = some (.int n t)) (hd : (x == ("__debug__" : Str)) = false := by decide) : PE X (.Name x pos) (tC (.int n)) := by
  obtain ⟨t, h⟩ := h
  exact pe_glob hg h ⟨t, rfl⟩ hd
theorem pe_const_str {x : Str} {n : Str} {pos : Pos} (hg : Gl X x) (h : ∃ t, X.mg x = some (.str n t)) (hd : (x == ("__debug__" : Str)) = false := by decide) : PE X (.Name x pos) (tC (.str n)) := by
  obtain ⟨t, h⟩ := h
  exact pe_glob hg h ⟨t, rfl⟩ hd
end
/-- the def x of the text stands where the module's name x points -/
structure DefAt (K : PySem.W.Frag) (mg : Str → Option Value) (x : Str) (st : Stmt) (ps : List Str) : Prop where
  ex : ∃ f fd, Fun K x x st f fd ∧ mg x = some (.ref f) ∧ ∀ us : List Value, us.length = ps.length → bindArgs fd ⟨us, []⟩ = pure (ps.zip us)
theorem def_mk {K : PySem.W.Frag} {h : Heap} {mg : Str → Option Value} {x : Str} {st : Stmt} {ps : List Str} {f : Addr} {oc : Value} {od an : Option Addr} {osl : Array (Option Value)} {kV doc pm cdv ct : Value} (X : K.In h) (G : h.Ns mainGlobals mg)
    (a : PySem.W.nsIn K mainGlobals x = some (some (.ref f))) (l : K.lookup f = some ⟨oc, od, .func (PySem.W.fnOf x x (defArgs st) (defBody st) (defScope st) .none kV doc pm an cdv ct), osl⟩) (c : PySem.W.codeIn K cdv x = true) (k : PySem.W.keepIn K (.ref f) = true)
    (b : ∀ (kV doc pm : Value) (an : Option Addr) (cdv ct : Value) (us : List Value), us.length = ps.length → bindArgs (PySem.W.fnOf x x (defArgs st) (defBody st) (defScope st) .none kV doc pm an cdv ct) ⟨us, []⟩ = pure (ps.zip us)) : DefAt K mg x st ps :=
  ⟨f, _, fun_mk l c k, PySem.W.mg_of X G a, b _ _ _ _ _ _⟩
theorem const_mk {K : PySem.W.Frag} {h : Heap} {mg : Str → Option Value} {x : Str} {v : Value} {n : Int} (X : K.In h) (G : h.Ns mainGlobals mg) (a : PySem.W.nsIn K mainGlobals x = some (some v)) (r : RelV (.int n) v) : ∃ t, mg x = some (.int n t) := by
  obtain ⟨t, e⟩ := r
  exact ⟨t, e ▸ PySem.W.mg_of X G a⟩
theorem constS_mk {K : PySem.W.Frag} {h : Heap} {mg : Str → Option Value} {x : Str} {v : Value} {n : Str} (X : K.In h) (G : h.Ns mainGlobals mg) (a : PySem.W.nsIn K mainGlobals x = some (some v)) (r : RelV (.str n) v) : ∃ t, mg x = some (.str n t) := by
  obtain ⟨t, e⟩ := r
  exact ⟨t, e ▸ PySem.W.mg_of X G a⟩
/-- the def x keeps the promise sp -/
structure Own (P : Program) (w : World) (K : PySem.W.Frag) (mg : Str → Option Value) (base : Heap) (x : Str) (k : Nat) (ps : List Str) (sp : Sp) : Prop where
  ex : ∃ f fd, FnOk P w K mg base (L2N.CX P w) k f fd ps sp ∧ mg x = some (.ref f) ∧ PySem.W.keepIn K (.ref f) = true ∧ Binds K fd ps []
section
variable {P : Program} {w : World} {K : PySem.W.Frag} {mg : Str → Option Value} {base : Heap}
theorem okN {x qual : Str} {st : Stmt} {f : Addr} {fd : FuncData} {N ps : List Str} {k : Nat} {sp : Sp} (F : Fun K x qual st f fd) (S : FnScope N ps (defScope st)) (len : ∀ vs H Q E, sp vs H Q E → vs.length = ps.length)
    (hbody : ∀ (cdv : Value) (A : Around) (outer : List Env) (s : Shared) (H : Hp) (vs : List V) (Q : VK) (E : XK), Room k (A.deeper (PyProof.Rows.envOfC qual (defScope st) s.heap.objs.size f cdv)) → sp vs H Q E →
      ∃ t, PSs (cxOf (L2N.CX P w) P w K mg base N qual (defScope st) f cdv A outer s H E) (defBody st) t ∧ t { nx := fun _ H' => Q .non H', rt := Q } (start N vs) H) : FnOk P w K mg base (L2N.CX P w) (k + 1) f fd ps sp := by
  obtain ⟨oc, od, kV, doc, pm, an, cdv, ct, osl, rfl, lk, hcd⟩ := F.ex
  exact fn_of lk hcd S len fun A outer s H vs Q E hr hsp => hbody cdv A outer s H vs Q E hr hsp
theorem own_of {x : Str} {st : Stmt} {N ps : List Str} {k : Nat} {sp : Sp} (d : DefAt K mg x st ps) (S : FnScope N ps (defScope st)) (len : ∀ vs H Q E, sp vs H Q E → vs.length = ps.length)
    (hbody : ∀ (f : Addr) (cdv : Value) (A : Around) (outer : List Env) (s : Shared) (H : Hp) (vs : List V) (Q : VK) (E : XK), Room k (A.deeper (PyProof.Rows.envOfC x (defScope st) s.heap.objs.size f cdv)) → sp vs H Q E →
      ∃ t, PSs (cxOf (L2N.CX P w) P w K mg base N x (defScope st) f cdv A outer s H E) (defBody st) t ∧ t { nx := fun _ H' => Q .non H', rt := Q } (start N vs) H) : Own P w K mg base x (k + 1) ps sp := by
  obtain ⟨f, fd, F, hm, hb⟩ := d.ex
  exact ⟨f, fd, okN F S len (hbody f), hm, F.kp, .all hb⟩
theorem tk_out {N : List Str} {qual : Str} {scope : Scope} {f : Addr} {cdv : Value} {A : Around} {outer : List Env} {s : Shared} {H : Hp} {E : XK} :
    L2N.Takes (cxOf (L2N.CX P w) P w K mg base N qual scope f cdv A outer s H E) (fun cls d _ H => E cls d H) := L2N.takes_of rfl rfl rfl rfl
theorem ps_out {N : List Str} {qual : Str} {scope : Scope} {f : Addr} {cdv : Value} {A : Around} {outer : List Env} {s : Shared} {H : Hp} {E : XK} :
    Passes (L2N.CX P w) (cxOf (L2N.CX P w) P w K mg base N qual scope f cdv A outer s H E) E := L2N.passes_call (L2N.takes_of rfl rfl rfl rfl) (fun _ _ _ _ h => h)
theorem passN {X : Cx} : Passes (L2N.CX X.prog X.w) X E0 := fun _ _ _ _ _ _ _ h => by
  obtain ⟨_, _, _, _, _, _, _, _, _, _, _, _, z⟩ := h
  exact z.elim
theorem tk_none {X : Cx} : L2N.Takes X (fun _ _ _ _ => False) := fun _ _ x => by
  obtain ⟨_, _, _, _, _, _, _, _, _, _, _, _, _, _, _, _, z⟩ := x
  exact z.elim
theorem pw {N : List Str} {qual : Str} {scope : Scope} {f : Addr} {cdv : Value} {A : Around} {outer : List Env} {s : Shared} {H : Hp} {E : XK} :
    PassesOwn (model P w) (cxOf (L2N.CX P w) P w K mg base N qual scope f cdv A outer s H E).A (cxOf (L2N.CX P w) P w K mg base N qual scope f cdv A outer s H E).env (cxOf (L2N.CX P w) P w K mg base N qual scope f cdv A outer s H E).xe := passes_of rfl
end
section
variable {X : Cx} {x : Str} {k j : Nat} {ps : List Str} {sp : Sp} {E : XK} {p pos : Pos} {e : Expr} {es : List Expr} {t : TA}
theorem pe_own (O : Own X.prog X.w X.K X.mg X.base x k ps sp) (hr : Room j X.A) (hk : k ≤ j) (hx : Passes (L2N.CX X.prog X.w) X E) (ha : PA X (e :: es) t) (hg : Gl X x := by rfl)
    (hdb : (x == ("__debug__" : Str)) = false := by decide) (he : starEach (e :: es) X.env = (false, eval e X.env) :: starEach es X.env := by rfl) (hpl : (backTo pos (starEach es X.env)).any (·.1) = false := by rfl) :
    PE X (.Call (.Name x p) (e :: es) [] pos) (tCall sp [] E t) := by
  obtain ⟨f, fd, F, hm, hkp, hb⟩ := O.ex
  exact pe_call F (hr.mono hk) hg hm hkp hb .nil hx ha hdb he hpl
/-- within a try -/
theorem pe_ownT {W : WX} (O : Own X.prog X.w X.K X.mg X.base x k ps sp) (hr : Room j X.A) (hk : k ≤ j) (tk : L2N.Takes X W) (ha : PA X (e :: es) t) (hg : Gl X x := by rfl)
    (hdb : (x == ("__debug__" : Str)) = false := by decide) (he : starEach (e :: es) X.env = (false, eval e X.env) :: starEach es X.env := by rfl) (hpl : (backTo pos (starEach es X.env)).any (·.1) = false := by rfl) :
    PE X (.Call (.Name x p) (e :: es) [] pos) (tCallS sp (WE W) t) := by
  obtain ⟨f, fd, F, hm, hkp, hb⟩ := O.ex
  exact pe_callS F (hr.mono hk) hg hm hkp hb (fun σ => L2N.passAt tk σ) ha hdb he hpl
end
/-! ### errors of the program -/
structure ErrAt (K : PySem.W.Frag) (mg : Str → Option Value) (x : Str) (C : Addr) : Prop where
  g : mg x = some (.ref C)
  x' : PySem.W.excIn K C [.type "ValueError", .type "Exception", .type "BaseException", .type "object"] "ValueError.__new__" = true
  k : PySem.W.keepIn K (.ref C) = true
  b : PySem.W.subIn K (.ref C) (.type "BaseException") = some true
  t : PySem.W.typeIn K (.ref C) = some (.type "type")
section
variable {X : Cx} {W : WX} {C : Addr} {x m : Str} {j : Nat} {p p2 pos pos2 : Pos}
def tOwnRaise (W : WX) (C : Addr) : TS := fun _ σ H => W (.ref C) none σ H
theorem ps_own_raise (T : ErrAt X.K X.mg x C) (tk : L2N.Takes X W) (hc : X.calm = true := by rfl) (hg : Gl X x := by rfl) (hdb : (x == ("__debug__" : Str)) = false := by decide) :
    PS X (.Raise (some (.Call (.Name x p) [.Constant (.str m) j p2] [] pos)) none pos2) (tOwnRaise W C) :=
  L2N.ps_raise hc tk (L2N.pmk_own PySem.F.excBase_ValueError T.x' T.g T.k (raises_own T.b T.t) hg hdb)
end
theorem noCX (P : Program) (w : World) (H : Hp) (s : Shared) (e : Value) (s' : Shared) : L2N.CX P w [] H s (fun _ _ _ => False) e s' → False := fun h => by
  obtain ⟨_, _, _, _, _, _, _, _, _, _, _, _, z⟩ := h
  exact z
/-! ### promises -/
/-- what it gives, all as it was but for new objects -/
def spD (D : List V → Hp → V → Prop) : Sp := fun vs H Q _ => ∃ z, D vs H z ∧ RetV z H Q
/-- the same, or an error of the class at c -/
def spX (D : List V → Hp → V → Prop) (R : List V → Hp → Addr → Prop) : Sp := fun vs H Q E => (∃ z, D vs H z ∧ RetV z H Q) ∨ (∃ c, R vs H c ∧ ∀ H1, Ex H H1 → E (.ref c) none H1)
/-- a new list -/
def spL (D : List V → Hp → List V → Prop) : Sp := fun vs H Q _ => ∃ xs, D vs H xs ∧ RetL xs H Q
section
variable {K : PySem.W.Frag} {σ : L2.St} {H H' : Hp} {ta : TA} {te : TE} {vs xs : List V} {z x y : V} {D : List V → Hp → V → Prop} {R : List V → Hp → Addr → Prop} {E : XK}
theorem ev_D (h : EvA ta σ H vs) (hD : ∀ H1, Ex H H1 → D vs H1 z) : Ev (tCall (spD D) [] E ta) σ H z := fun H1 e Q q => h H1 e _ fun H2 e2 => by
  show spD D (vs ++ []) H2 Q E
  rw [List.append_nil]
  exact ⟨z, hD H2 (e.trans e2), fun H3 e3 => q H3 (e2.trans e3)⟩
theorem ev_X (h : EvA ta σ H vs) (hD : ∀ H1, Ex H H1 → D vs H1 z) : Ev (tCall (spX D R) [] E ta) σ H z := fun H1 e Q q => h H1 e _ fun H2 e2 => by
  show spX D R (vs ++ []) H2 Q E
  rw [List.append_nil]
  exact Or.inl ⟨z, hD H2 (e.trans e2), fun H3 e3 => q H3 (e2.trans e3)⟩
theorem el_L {D : List V → Hp → List V → Prop} (h : EvA ta σ H vs) (hD : ∀ H1, Ex H H1 → D vs H1 xs) : EvL (tCall (spL D) [] E ta) σ H xs := fun H1 e Q q => h H1 e _ fun H2 e2 => by
  show spL D (vs ++ []) H2 Q E
  rw [List.append_nil]
  exact ⟨xs, hD H2 (e.trans e2), fun p H3 hp e3 h3 => q p H3 (fresh_back e2 hp) (e2.trans e3) h3⟩
/-- f(..) as a statement, f refuses -/
theorem s_err {C : Addr} {D' : Ends} (h : EvA ta σ H vs) (hR : ∀ H1, Ex H H1 → R vs H1 C) (k : ∀ H1, Ex H H1 → E (.ref C) none H1) : tDrop (tCall (spX D R) [] E ta) D' σ H := h H (Ex.refl H) _ fun H2 e2 => by
  show spX D R (vs ++ []) H2 _ E
  rw [List.append_nil]
  exact Or.inr ⟨C, hR H2 e2, fun H3 e3 => k H3 (e2.trans e3)⟩
/-- a call that refuses, as an expression -/
theorem e_err {C : Addr} (h : EvA ta σ H vs) (hR : ∀ H1, Ex H H1 → R vs H1 C) (k : ∀ H1, Ex H H1 → E (.ref C) none H1) (Q : VK) : tCall (spX D R) [] E ta σ H Q := h H (Ex.refl H) _ fun H2 e2 => by
  show spX D R (vs ++ []) H2 _ E
  rw [List.append_nil]
  exact Or.inr ⟨C, hR H2 e2, fun H3 e3 => k H3 (e2.trans e3)⟩
/-- within a try: it gives; it refuses -/
theorem ev_XS {W : WX} (h : EvA ta σ H vs) (hD : ∀ H1, Ex H H1 → D vs H1 z) : Ev (tCallS (spX D R) (WE W) ta) σ H z := fun H1 e Q q => h H1 e _ fun H2 e2 => Or.inl ⟨z, hD H2 (e.trans e2), fun H3 e3 => q H3 (e2.trans e3)⟩
theorem e_errS {W : WX} {C : Addr} (h : EvA ta σ H vs) (hR : ∀ H1, Ex H H1 → R vs H1 C) (k : ∀ H1, Ex H H1 → W (.ref C) none σ H1) (Q : VK) : tCallS (spX D R) (WE W) ta σ H Q := h H (Ex.refl H) _ fun H2 e2 => Or.inr ⟨C, hR H2 e2, fun H3 e3 => k H3 (e2.trans e3)⟩
/-- some value of a kind -/
def spN (Pre : List V → Hp → Prop) (Post : V → Prop) : Sp := fun vs H Q _ => Pre vs H ∧ ∀ z, Post z → RetV z H Q
theorem q_asgN {Pre : List V → Hp → Prop} {Post : V → Prop} {i : Nat} {tz : TS} {D' : Ends} (h : EvA ta σ H vs) (hP : ∀ H1, Ex H H1 → Pre vs H1) (k : ∀ z, Post z → ∀ H1, Ex H H1 → tz D' (σ.set i (some z)) H1) :
    tSeq (tAsg (tCall (spN Pre Post) [] E ta) (gName i)) tz D' σ H := h H (Ex.refl H) _ fun H2 e2 => by
  show spN Pre Post (vs ++ []) H2 _ E
  rw [List.append_nil]
  exact ⟨hP H2 e2, fun z hz H3 e3 => k z hz H3 (e2.trans e3)⟩
/-! ### built-ins -/
theorem eu_divmod {i j : Int} (h : EvA ta σ H [.int i, .int j]) (hc : CDivP i j) : EvU (tCB (fun xs H Q => ∃ i j, xs = [.int i, .int j] ∧ CDivP i j ∧ ∀ p, H p = none → Q (.ref p) (upd H p (.tup [.int (i / j), .int (i % j)]))) ta) σ H [.int (i / j), .int (i % j)] := fun H1 e Q q =>
  h H1 e _ fun H2 e2 => ⟨i, j, rfl, hc, fun p hp => q p _ (fresh_back e2 hp) (e2.trans (Ex.new hp)) upd_same⟩
theorem ev_isi {c : V} {t u : Value} {b : Bool} (h : EvA ta σ H [x, c]) (hc : ClsV c u) (hx : ∀ H1, Ex H H1 → TyX K H1 x t) (hb : PySem.W.kitOne K t u = some b) : Ev (tCB (rIsi K) ta) σ H (.bl b) := fun H1 e Q q =>
  h H1 e _ fun H2 e2 => ⟨x, c, t, u, b, rfl, hc, hx H2 (e.trans e2), hb, q H2 e2⟩
theorem s_asgT2 {i j : Nat} {D' : Ends} (h : EvU te σ H [x, y]) (k : ∀ H1, Ex H H1 → D'.nx ((σ.set i (some x)).set j (some y)) H1) : tAsg te (gTup K 2 (gCons (gName i) (gCons (gName j) gNil))) D' σ H :=
  h H (Ex.refl H) _ fun p H1 _ e hp => ⟨p, [x, y], rfl, st_of hp, rfl, x, [y], rfl, y, [], rfl, rfl, k H1 e⟩
theorem q_asgT2 {i j : Nat} {D' : Ends} {tz : TS} (h : EvU te σ H [x, y]) (k : ∀ H1, Ex H H1 → tz D' ((σ.set i (some x)).set j (some y)) H1) : tSeq (tAsg te (gTup K 2 (gCons (gName i) (gCons (gName j) gNil)))) tz D' σ H := s_asgT2 (D' := { D' with nx := tz D' }) h k
theorem ix_ev {v : V} {i : Int} {tb tl : TE} (hl : EvL tl σ H xs) (hb : ∀ H1, Ex H H1 → Ev tb σ H1 (.int i)) (ha : atI xs i = some v) : Ev (tOp (rIxL K) tl tb) σ H v :=
  ev_opL1 hl hb fun _ _ hp _ => rv_ixL (sq_of hp) ha
end
/-! ### displays of tuples -/
/-- refs of tuples that hold these -/
def Tups (H : Hp) : List V → List (List V) → Prop
  | [], [] => True
  | v :: r, xs :: rs => (∃ p, v = .ref p ∧ H p = some (.tup xs)) ∧ Tups H r rs
  | _, _ => False
theorem Tups.mono {H H' : Hp} (e : Ex H H') : ∀ {vs : List V} {xss : List (List V)}, Tups H vs xss → Tups H' vs xss
  | [], [], _ => True.intro
  | _ :: _, _ :: _, ⟨⟨p, e1, h⟩, t⟩ => ⟨⟨p, e1, e _ _ h⟩, Tups.mono e t⟩
  | [], _ :: _, h => h.elim
  | _ :: _, [], h => h.elim
def EvTs (ta : TA) (σ : L2.St) (H : Hp) (xss : List (List V)) : Prop := ∀ H1, Ex H H1 → ∀ Q : List V → Hp → Prop, (∀ ps H2, Ex H1 H2 → Tups H2 ps xss → ps.length = xss.length → Q ps H2) → ta σ H1 Q
section
variable {K : PySem.W.Frag} {σ : L2.St} {H : Hp} {ta : TA} {te : TE} {xs : List V} {xss : List (List V)}
theorem ets_nil : EvTs tNil σ H [] := fun H1 _ _ q => q [] H1 (Ex.refl H1) True.intro rfl
theorem ets_cons (h : EvU te σ H xs) (hr : EvTs ta σ H xss) : EvTs (tCons te ta) σ H (xs :: xss) := fun H1 e Q q =>
  h H1 e _ fun p H2 _ e2 hp => hr H2 (e.trans e2) _ fun ps H3 e3 t hl => q (.ref p :: ps) H3 (e2.trans e3) ⟨⟨p, rfl, e3 _ _ hp⟩, t⟩ (by rw [List.length_cons, List.length_cons, hl])
theorem q_asgTs {i : Nat} {D' : Ends} {tz : TS} (h : EvTs ta σ H xss) (hz : xss.length ≤ 100000) (k : ∀ l ps H1, H l = none → Ex H H1 → H1 l = some (.lst ps) → Tups H1 ps xss → tz D' (σ.set i (some (.ref l))) H1) : tSeq (tAsg (tLst ta) (gName i)) tz D' σ H :=
  h H (Ex.refl H) _ fun ps H2 e2 t hl => ⟨sz_of (by rw [hl]; exact hz), fun l nl => k l ps _ (fresh_back e2 nl) (e2.trans (Ex.new nl)) upd_same (t.mono (Ex.new nl))⟩
end
/-! ### int facts for the wide rules -/
theorem big_mod {i j : Int} {n : Nat} (h0 : 0 < j) (h : j.natAbs ≤ 2 ^ n) : (i % j).natAbs < 2 ^ n := by
  have h1 := Int.emod_nonneg i (show j ≠ 0 by omega)
  have h2 := Int.emod_lt_of_pos i h0
  omega
/-! ### the walk of an expression -/
local macro_rules | `(tactic| walk_at "ev") => `(tactic| first
  | exact ev_var rfl
  | exact ev_c
  | exact rv_I0
  | exact ea_nil
  | (apply ea_cons <;> walk_at "ev")
  | (apply ev_op <;> walk_at "ev")
  | (apply rv_I)
  | (exact rv_eq rfl)
  | (apply et_test <;> walk_at "ev")
  | skip)
example {σ : L2.St} {H : Hp} : Ev (tOp (rI0 fun i j => .int (i + j)) (tVar 0) (tC (.int 3))) [some (.int 2)] H (.int 5) := by
  apply ev_is
  · walk_at "ev"
  · rfl
end BF

/-! Figures of a number: plain Lean. -/
namespace BF
/-- the figures, the last one first -/
def digs (b n : Nat) : List Nat := if h : n = 0 ∨ b < 2 then [] else (n % b) :: digs b (n / b)
termination_by n
decreasing_by exact Nat.div_lt_self (by omega) (by omega)
theorem digs_zero (b : Nat) : digs b 0 = [] := by
  unfold digs
  rw [dif_pos (Or.inl rfl)]
theorem digs_pos {b n : Nat} (hb : 2 ≤ b) (hn : 0 < n) : digs b n = (n % b) :: digs b (n / b) := by
  conv => lhs; unfold digs
  rw [dif_neg (by omega)]
theorem digs_len {b : Nat} (hb : 2 ≤ b) : ∀ (m n : Nat), n < 2 ^ m → (digs b n).length ≤ m
  | 0, n, h => by
    have h0 : n = 0 := by simpa using h
    subst h0
    rw [digs_zero]
    exact Nat.le_refl _
  | m + 1, n, h => by
    by_cases hn : n = 0
    · subst hn
      rw [digs_zero]
      exact Nat.zero_le _
    · rw [digs_pos hb (by omega), List.length_cons]
      have h2 : n / b < 2 ^ m := by
        have h3 : n / b ≤ n / 2 := Nat.div_le_div_left hb (by omega)
        have h4 : n / 2 < 2 ^ m := Nat.div_lt_of_lt_mul (by rw [Nat.pow_succ] at h; omega)
        omega
      have := digs_len hb m (n / b) h2
      omega
theorem div_lt_pow {b n m : Nat} (h : n < 2 ^ m) : n / b < 2 ^ m := Nat.lt_of_le_of_lt (Nat.div_le_self n b) h
/-! Where two numbers part. -/
def partAt (b x y : Nat) : Nat := if h : x = y ∨ b < 2 then 0 else partAt b (x / b) (y / b) + 1
termination_by x + y
decreasing_by
  have h1 : x / b ≤ x := Nat.div_le_self x b
  have h2 : y / b ≤ y := Nat.div_le_self y b
  by_cases hx : x = 0
  · have h3 : y / b < y := Nat.div_lt_self (by omega) (by omega)
    omega
  · have h3 : x / b < x := Nat.div_lt_self (by omega) (by omega)
    omega
theorem partAt_eq (b x : Nat) : partAt b x x = 0 := by
  unfold partAt
  rw [dif_pos (Or.inl rfl)]
theorem partAt_ne {b x y : Nat} (hb : 2 ≤ b) (h : x ≠ y) : partAt b x y = partAt b (x / b) (y / b) + 1 := by
  conv => lhs; unfold partAt
  rw [dif_neg (by omega)]
theorem div_sum_lt {b x y : Nat} (hb : 2 ≤ b) (h : x ≠ y) : x / b + y / b < x + y := by
  have h1 : x / b ≤ x := Nat.div_le_self x b
  have h2 : y / b ≤ y := Nat.div_le_self y b
  by_cases hx : x = 0
  · have h3 : y / b < y := Nat.div_lt_self (by omega) (by omega)
    omega
  · have h3 : x / b < x := Nat.div_lt_self (by omega) (by omega)
    omega
theorem partAt_comm {b : Nat} (hb : 2 ≤ b) : ∀ (m x y : Nat), x + y ≤ m → partAt b x y = partAt b y x
  | 0, x, y, h => by
    have e1 : x = 0 := by omega
    have e2 : y = 0 := by omega
    subst e1 e2
    rfl
  | m + 1, x, y, h => by
    by_cases e : x = y
    · subst e
      rfl
    · rw [partAt_ne hb e, partAt_ne hb (Ne.symm e), partAt_comm hb m (x / b) (y / b) (by have := div_sum_lt hb e; omega)]
/-! More of figures. -/
theorem digs_lt {b : Nat} (hb : 2 ≤ b) : ∀ (m n : Nat), n ≤ m → ∀ d ∈ digs b n, d < b
  | 0, n, h, d, hd => by
    have e : n = 0 := by omega
    subst e
    rw [digs_zero] at hd
    cases hd
  | m + 1, n, h, d, hd => by
    by_cases hn : n = 0
    · subst hn
      rw [digs_zero] at hd
      cases hd
    · rw [digs_pos hb (by omega)] at hd
      rcases List.mem_cons.mp hd with e | hd
      · rw [e]
        exact Nat.mod_lt n (by omega)
      · exact digs_lt hb m (n / b) (by have := Nat.div_lt_self (show 0 < n by omega) (show 1 < b by omega); omega) d hd
/-- the first figure is no nought -/
theorem digs_last {b : Nat} (hb : 2 ≤ b) : ∀ (m n : Nat), n ≤ m → 0 < n → ∃ M d, digs b n = M ++ [d] ∧ d ≠ 0
  | 0, n, h, hn => by omega
  | m + 1, n, h, hn => by
    by_cases hq : n / b = 0
    · refine ⟨[], n % b, ?_, ?_⟩
      · rw [digs_pos hb hn, hq, digs_zero]
        rfl
      · have := Nat.div_add_mod n b
        rw [hq, Nat.mul_zero, Nat.zero_add] at this
        omega
    · obtain ⟨M, d, e, hd⟩ := digs_last hb m (n / b) (by have := Nat.div_lt_self hn (show 1 < b by omega); omega) (Nat.pos_of_ne_zero hq)
      exact ⟨(n % b) :: M, d, by rw [digs_pos hb hn, e] <;> rfl, hd⟩
end BF

/-! Texts: a sign found in a text, texts of single signs joined, figures as signs. -/
namespace BF
open PySem L2 Evl
/-! ### one sign found -/
theorem at_one {x : Str} {c i : Nat} : PySem.StrLaws.At x ⟨#[c]⟩ x.length i ↔ x.cps.toList[i]? = some c := by
  have hx : x.length = x.cps.toList.length := by simp [Str.length]
  have h1 : (⟨#[c]⟩ : Str).length = 1 := rfl
  have h2 : (⟨#[c]⟩ : Str).cps.toList = [c] := rfl
  unfold PySem.StrLaws.At
  rw [PySem.StrLaws.subAt_eq, h1, h2]
  constructor
  · intro h
    have h3 := eq_of_beq h.2
    have hi : i < x.cps.toList.length := by omega
    rw [List.drop_eq_getElem_cons hi, List.take_succ_cons, List.take_zero] at h3
    injection h3 with h3 _
    rw [List.getElem?_eq_getElem hi, h3]
  · intro h
    obtain ⟨hi, e⟩ := List.getElem?_eq_some_iff.mp h
    refine ⟨by omega, ?_⟩
    rw [List.drop_eq_getElem_cons hi, List.take_succ_cons, List.take_zero, e]
    exact beq_self_eq_true _
theorem find_hit {x : Str} {c i : Nat} (h : x.cps.toList[i]? = some c) (hn : ∀ k, k < i → x.cps.toList[k]? ≠ some c) : Txt.find x ⟨#[c]⟩ = (i : Int) := by
  unfold Txt.find
  rcases PySem.StrLaws.occ_head x ⟨#[c]⟩ 1 (Nat.le_refl _) with ⟨_, h2⟩ | ⟨j, r, e, h1, h2⟩
  · exact absurd (at_one.mpr h) (h2 i)
  · rw [e]
    have h3 := at_one.mp h1
    have h4 : ¬ j < i := fun q => hn j q h3
    have h5 : ¬ i < j := fun q => h2 i q (at_one.mpr h)
    have h6 : j = i := by omega
    rw [h6]
theorem find_miss {x : Str} {c : Nat} (h : c ∉ x.cps.toList) : Txt.find x ⟨#[c]⟩ = -1 := by
  unfold Txt.find
  rcases PySem.StrLaws.occ_head x ⟨#[c]⟩ 1 (Nat.le_refl _) with ⟨e, _⟩ | ⟨j, r, e, h1, h2⟩
  · rw [e]
  · exact absurd (List.mem_of_getElem? (at_one.mp h1)) h
/-- the sixteen signs -/
def signs16 : Str := "0123456789abcdef"
theorem signs16_codes : signs16.cps.toList = [48, 49, 50, 51, 52, 53, 54, 55, 56, 57, 97, 98, 99, 100, 101, 102] := by decide +kernel
/-- the figure of a sign, -1 where it is none -/
def figI (c : Nat) : Int := if 48 ≤ c ∧ c ≤ 57 then (c : Int) - 48 else if 97 ≤ c ∧ c ≤ 102 then (c : Int) - 87 else -1
theorem find_fig (c : Nat) : Txt.find signs16 ⟨#[c]⟩ = figI c := by
  by_cases h : c ∈ signs16.cps.toList
  · have h1 := h
    rw [signs16_codes] at h1
    have key : ∀ i : Nat, signs16.cps.toList[i]? = some c → (∀ k, k < i → signs16.cps.toList[k]? ≠ some c) → (i : Int) = figI c → Txt.find signs16 ⟨#[c]⟩ = figI c := fun i a b e => (find_hit a b).trans e
    simp only [List.mem_cons, List.not_mem_nil, or_false] at h1
    rcases h1 with rfl | rfl | rfl | rfl | rfl | rfl | rfl | rfl | rfl | rfl | rfl | rfl | rfl | rfl | rfl | rfl
    · exact key 0 (by rw [signs16_codes] <;> rfl) (by rw [signs16_codes]; decide) (by decide)
    · exact key 1 (by rw [signs16_codes] <;> rfl) (by rw [signs16_codes]; decide) (by decide)
    · exact key 2 (by rw [signs16_codes] <;> rfl) (by rw [signs16_codes]; decide) (by decide)
    · exact key 3 (by rw [signs16_codes] <;> rfl) (by rw [signs16_codes]; decide) (by decide)
    · exact key 4 (by rw [signs16_codes] <;> rfl) (by rw [signs16_codes]; decide) (by decide)
    · exact key 5 (by rw [signs16_codes] <;> rfl) (by rw [signs16_codes]; decide) (by decide)
    · exact key 6 (by rw [signs16_codes] <;> rfl) (by rw [signs16_codes]; decide) (by decide)
    · exact key 7 (by rw [signs16_codes] <;> rfl) (by rw [signs16_codes]; decide) (by decide)
    · exact key 8 (by rw [signs16_codes] <;> rfl) (by rw [signs16_codes]; decide) (by decide)
    · exact key 9 (by rw [signs16_codes] <;> rfl) (by rw [signs16_codes]; decide) (by decide)
    · exact key 10 (by rw [signs16_codes] <;> rfl) (by rw [signs16_codes]; decide) (by decide)
    · exact key 11 (by rw [signs16_codes] <;> rfl) (by rw [signs16_codes]; decide) (by decide)
    · exact key 12 (by rw [signs16_codes] <;> rfl) (by rw [signs16_codes]; decide) (by decide)
    · exact key 13 (by rw [signs16_codes] <;> rfl) (by rw [signs16_codes]; decide) (by decide)
    · exact key 14 (by rw [signs16_codes] <;> rfl) (by rw [signs16_codes]; decide) (by decide)
    · exact key 15 (by rw [signs16_codes] <;> rfl) (by rw [signs16_codes]; decide) (by decide)
  · rw [find_miss h]
    rw [signs16_codes] at h
    simp only [List.mem_cons, List.not_mem_nil, or_false, not_or] at h
    unfold figI
    rw [if_neg (by omega), if_neg (by omega)]
/-- the sign of a figure -/
def sgn (d : Nat) : Nat := if d < 10 then 48 + d else 87 + d
theorem sgn_at {d : Nat} (h : d < 16) : signs16.cps.toList[d]? = some (sgn d) := by
  rw [signs16_codes]
  have hd : d = 0 ∨ d = 1 ∨ d = 2 ∨ d = 3 ∨ d = 4 ∨ d = 5 ∨ d = 6 ∨ d = 7 ∨ d = 8 ∨ d = 9 ∨ d = 10 ∨ d = 11 ∨ d = 12 ∨ d = 13 ∨ d = 14 ∨ d = 15 := by omega
  rcases hd with rfl | rfl | rfl | rfl | rfl | rfl | rfl | rfl | rfl | rfl | rfl | rfl | rfl | rfl | rfl | rfl <;> rfl
theorem fig_sgn {d : Nat} (h : d < 16) : figI (sgn d) = (d : Int) := by
  unfold sgn figI
  split
  · rw [if_pos (by omega)]
    omega
  · rw [if_neg (by omega), if_pos (by omega)]
    omega
theorem sgn_zero {d : Nat} (h : sgn d = 48) : d = 0 := by
  unfold sgn at h
  split at h <;> omega
/-- a text of these signs -/
abbrev txt (L : List Nat) : Str := ⟨L.toArray⟩
theorem txt_len (L : List Nat) : (txt L).length = L.length := by simp [Str.length]
theorem txt_codes (L : List Nat) : (txt L).cps.toList = L := by simp
theorem txt_inj {L M : List Nat} (h : txt L = txt M) : L = M := by
  have := congrArg (fun z : Str => z.cps.toList) h
  simpa using this
theorem txt_of (z : Str) : z = txt z.cps.toList := by
  cases z with
  | mk c => simp
/-- texts of single signs, joined -/
theorem join_ones (L : List Nat) : Txt.join (Str.ofString "") (L.map fun c => (⟨#[c]⟩ : Str)) = txt L := by
  have h0 : (Str.ofString "").cps = #[] := by decide +kernel
  rw [TL.join_eq]
  have key : ∀ M : List Nat, TL.tl (Str.join (Str.ofString "") (M.map fun c => (⟨#[c]⟩ : Str))) = M := by
    intro M
    rw [TL.tl_join]
    have h1 : TL.tl (Str.ofString "") = [] := by decide +kernel
    rw [h1, List.map_map]
    induction M with
    | nil => rfl
    | cons c r ih =>
      cases r with
      | nil => rfl
      | cons d r' =>
        show [c] ++ [] ++ TL.joinL [] (List.map (TL.tl ∘ fun c => (⟨#[c]⟩ : Str)) (d :: r')) = _
        rw [ih]
        rfl
  exact TL.ext_tl (by rw [key] <;> simp [TL.tl])
theorem ones_len (L : List Nat) : ((L.map fun c => (⟨#[c]⟩ : Str)).map (·.length)).sum = L.length := by
  induction L with
  | nil => rfl
  | cons c r ih =>
    rw [List.map_cons, List.map_cons, List.sum_cons, ih, List.length_cons]
    show 1 + r.length = r.length + 1
    omega
/-! ### what a text is worth -/
def valN (b : Nat) (L : List Nat) : Nat := L.foldl (fun m c => m * b + (figI c).toNat) 0
/-- all signs are figures of the base -/
def Figs (b : Nat) (L : List Nat) : Prop := ∀ c ∈ L, 0 ≤ figI c ∧ figI c < (b : Int)
theorem valN_snoc (b : Nat) (L : List Nat) (c : Nat) : valN b (L ++ [c]) = valN b L * b + (figI c).toNat := by
  unfold valN
  rw [List.foldl_append]
  rfl
theorem valN_lt {b : Nat} (hb : 2 ≤ b) (hb2 : b ≤ 16) : ∀ (n : Nat) (L : List Nat), L.length = n → Figs b L → valN b L < 2 ^ (4 * n + 1)
  | 0, L, h, _ => by
    have e : L = [] := List.eq_nil_of_length_eq_zero h
    subst e
    show 0 < 2
    omega
  | n + 1, L, h, hf => by
    rcases List.eq_nil_or_concat L with e | ⟨M, c, e⟩
    · subst e
      simp at h
    · rw [List.concat_eq_append] at e
      subst e
      rw [List.length_append, List.length_singleton] at h
      have ih := valN_lt hb hb2 n M (by omega) fun d hd => hf d (List.mem_append_left _ hd)
      have hc := hf c (List.mem_append_right _ List.mem_cons_self)
      rw [valN_snoc]
      have h1 : valN b M * b ≤ valN b M * 16 := Nat.mul_le_mul_left _ hb2
      have h2 : (figI c).toNat < 16 := by omega
      have h3 : (2 : Nat) ^ (4 * (n + 1) + 1) = 2 ^ (4 * n + 1) * 16 := by
        rw [show 4 * (n + 1) + 1 = (4 * n + 1) + 4 by omega, Nat.pow_add]
      omega
section
variable {K : PySem.W.Frag} {σ : L2.St} {H H' : Hp} {ta tb te tl : TE} {xs : List V}
theorem ev_find {a b : Str} (ha : Ev ta σ H (.str a)) (hb : Ev tb σ H (.str b)) : Ev (tM1 (fun x xs H Q => ∃ a b, x = .str a ∧ xs = [.str b] ∧ Q (.int (Txt.find a b)) H) ta tb) σ H (.int (Txt.find a b)) := fun H1 e Q q =>
  ha H1 e _ fun H2 e2 => ⟨⟨a, rfl⟩, hb H2 (e.trans e2) _ fun H3 e3 => ⟨a, b, rfl, rfl, q H3 (e2.trans e3)⟩⟩
theorem ev_lenS {z : Str} (ha : Ev ta σ H (.str z)) (hz : z.length ≤ 100000) : Ev (tCB (fun xs H Q => ∃ z, xs = [.str z] ∧ z.length ≤ sizeLine ∧ Q (.int z.length) H) (tCons ta tNil)) σ H (.int (z.length : Int)) := fun H1 e Q q =>
  ha H1 e _ fun H2 e2 => ⟨z, rfl, sz_of hz, q H2 e2⟩
theorem rv_addS {a b : Str} (h : a.length + b.length ≤ 100000) : RV (fun x y H Q => ∃ i j, x = .str i ∧ y = .str j ∧ i.length + j.length ≤ sizeLine ∧ Q (.str (i ++ j)) H) (.str a) (.str b) H (.str (a ++ b)) := fun H1 _ _ q =>
  ⟨a, b, rfl, rfl, sz_of h, q H1 (Ex.refl H1)⟩
theorem et_yes : EvT tYes σ H true := fun H1 _ _ q => q H1 (Ex.refl H1)
/-- [g(x) for x in a new list] -/
theorem el_map {j : Nat} {vs : List Nat} (g : V → V) (h : EvL tl σ H xs) (hz : xs.length ≤ 40000) (hw : ∀ x, wipe ((wipe σ vs).set j (some x)) vs = wipe σ vs)
    (he : ∀ x ∈ xs, ∀ H1, Ex H H1 → Ev te ((wipe σ vs).set j (some x)) H1 (g x)) : EvL (tLc (iList K tl) (gName j) tYes te vs) σ H (xs.map g) := by
  have e := el_lcNL (K := K) (te := te) (t := tYes) (j := j) (vs := vs) (fun _ => true) (fun i => g (xs.getD i .non)) h hz hw (fun _ _ _ _ _ => et_yes) (fun i x H1 e1 hx _ => by
    have h1 : xs.getD i .non = x := by rw [List.getD_eq_getElem?_getD, hx]; rfl
    rw [h1]
    exact he x (List.mem_of_getElem? hx) H1 e1)
  have h2 : given xs.length (fun _ => true) (fun i => g (xs.getD i .non)) = xs.map g := by
    unfold given
    rw [List.filter_eq_self.mpr (fun _ _ => rfl)]
    apply List.ext_getElem?
    intro i
    rw [List.getElem?_map, List.getElem?_map]
    by_cases hi : i < xs.length
    · rw [List.getElem?_range hi, List.getElem?_eq_getElem hi]
      show some (g (xs.getD i .non)) = some (g xs[i])
      rw [List.getD_eq_getElem?_getD, List.getElem?_eq_getElem hi]
      rfl
    · rw [List.getElem?_eq_none (by rw [List.length_range]; omega), List.getElem?_eq_none (by omega)]
      rfl
  rw [← h2]
  exact e
/-- for c in a text -/
theorem s_forS {j : Nat} {z : Str} {tu : TS} {D : Ends} (h : Ev te σ H (.str z)) (Pv : Nat → L2.St → Hp → Prop) (h0 : ∀ H1, Ex H H1 → Pv 0 σ H1)
    (hs : ∀ (i c : Nat) σ' H', z.cps.toList[i]? = some c → Pv i σ' H' → tu { D with nx := Pv (i + 1), ct := Pv (i + 1), bk := D.nx } (σ'.set j (some (.str ⟨#[c]⟩))) H') (hd : ∀ σ' H', Pv z.cps.toList.length σ' H' → D.nx σ' H') :
    tFor (iStr te) (gName j) tu D σ H := h H (Ex.refl H) _ fun H1 e => by
  have hz : z.cps.size = z.cps.toList.length := by simp
  refine ⟨z, rfl, fun i m σ H => m = z.cps.size - i ∧ i ≤ z.cps.size ∧ Pv i σ H, ⟨z.cps.size, rfl, Nat.zero_le _, h0 H1 e⟩, ?_⟩
  rintro i m σ' H' ⟨rfl, hi, p⟩
  by_cases hlt : i < z.cps.size
  · refine Or.inr ⟨hlt, Pv (i + 1), fun σ2 H2 p' => ⟨z.cps.size - (i + 1), by omega, rfl, hlt, p'⟩, ?_⟩
    rintro x H2 ⟨rfl, c, hc, rfl⟩
    exact hs i c σ' _ (by rw [← hc]; simp) p
  · have e : i = z.cps.size := by omega
    subst e
    exact Or.inl ⟨Nat.le_refl _, hd σ' H' (hz ▸ p)⟩
theorem q_forS {j : Nat} {z : Str} {tu tz : TS} {D : Ends} (h : Ev te σ H (.str z)) (Pv : Nat → L2.St → Hp → Prop) (h0 : ∀ H1, Ex H H1 → Pv 0 σ H1)
    (hs : ∀ (i c : Nat) σ' H', z.cps.toList[i]? = some c → Pv i σ' H' → tu { D with nx := Pv (i + 1), ct := Pv (i + 1), bk := tz D } (σ'.set j (some (.str ⟨#[c]⟩))) H') (hd : ∀ σ' H', Pv z.cps.toList.length σ' H' → tz D σ' H') :
    tSeq (tFor (iStr te) (gName j) tu) tz D σ H := s_forS (D := { D with nx := tz D }) h Pv h0 hs hd
end
end BF

/-! An iterator's end, and a tuple unpacked, while an exception is handled. -/
namespace BFH
open PySem PySem.Spec PyProof.Rows HotX
section
variable {prog : Program} {w : World} {A : Around} {E : Value → Shared → Prop} {s : Shared}
theorem list_end {it l x1 : Addr} {i : Nat} {items : Array Value} {Q : Option Value → Shared → Prop} (hot : HotAt A x1 s.heap) (hne : x1 ≠ it) (hit : s.heap.IsListIter it l i) (hl : s.heap.IsList l items) (hx : items[i]? = none)
    (hQ : ∀ h', (∀ b u, b ≠ it → s.heap.get? b = some u → h'.get? b = some u) → Q none { s with heap := h' }) : wpAny (model prog w) A (pyNext (.ref it)) Q E s := by
  obtain ⟨hh, o1, vs1, g1, d1, c1⟩ := hot
  obtain ⟨oi, hoi, hci, hdi⟩ := _root_.id hit
  obtain ⟨ol, hol, _, nl, hdl⟩ := hl
  unfold pyNext
  refine wpAny_bind (wpAny_attempt (wpAny_callSpecial?_slot (name := Str.ofString "__next__") hit.typeIs slot_listiter_next (wpAny_call_entry slot_listiter_next hit.typeIs entry_listiter_next ?_ (args_listiter_next _))))
  show wpAny _ _ (field (.ref it) 0 >>= _) _ _ s
  refine wpAny_bind (wpAny_field hoi hdi (x := .ref l) rfl ?_)
  show wpAny _ _ (if (Value.ref l == Value.none) = true then _ else _) _ _ s
  rw [if_neg (show ¬ ((Value.ref l == Value.none) = true) from Bool.false_ne_true)]
  show wpAny _ _ (field (.ref it) 1 >>= _) _ _ s
  refine wpAny_bind (wpAny_field hoi hdi (x := .int i 0) rfl ?_)
  show wpAny _ _ (seqItems? (.ref l) >>= _) _ _ s
  refine wpAny_bind (wpAny_seqItems hol hdl ?_)
  simp only [Int.toNat_natCast, hx]
  refine wpAny_bind (wpAny_rule (wpAny_bind (wpAny_setField hoi hdi (by simp) ?_)))
  show wpAny _ _ (newExc (.type "StopIteration") [] >>= _) _ _ _
  refine wpAny_bind ?_
  simp only [newExc, newTuple]
  refine wpAny_bind (wpAny_newObj_type ?_ (by size_fits))
  refine wpAny_bind (m := firstArgMember _ _) (wpAny_of_eq (a := Value.none) (by first | rfl | (simp only [firstArgMember]; rfl)) ?_)
  refine wpAny_newObj_type ?_ (by size_fits)
  have g2 := (Heap.get?_update_other s.heap (Obj.mapFields fun x => x.setIfInBounds 0 .none) (Ne.symm hne)).trans g1
  refine raiseNew_hot ⟨hh, o1, vs1, Heap.get?_push_of_some _ (Heap.get?_push_of_some _ g2), d1, c1⟩ (Nat.ne_of_lt (Heap.lt_size (Heap.get?_push_of_some _ g2))) (Heap.get?_push_size _ rfl) rfl (by first | (simp; done) | (simp; omega) | (simp only [Array.size_append]; simp; omega)) ?_
  refine wpAny_bind (wpAny_isInstance (T := "StopIteration") (b := true) ⟨_, Heap.get?_update_self _ (Heap.get?_push_size _ rfl) rfl, rfl⟩ isSubtype_stop ?_)
  refine wpAny_pure (hQ _ fun b u hb e => ?_)
  have e2 := (Heap.get?_update_other s.heap (Obj.mapFields fun x => x.setIfInBounds 0 .none) (Ne.symm hb)).trans e
  exact (Heap.get?_update_other _ _ (Nat.ne_of_gt (Heap.lt_size (Heap.get?_push_of_some _ e2)))).trans (Heap.get?_push_of_some _ (Heap.get?_push_of_some _ e2))
theorem tuple_end {it t x1 : Addr} {i : Nat} {items : Array Value} {Q : Option Value → Shared → Prop} (hot : HotAt A x1 s.heap) (hne : x1 ≠ it) (hit : IsTupIter s.heap it t i) (ht : IsTup s.heap t items) (hx : items[i]? = none)
    (hQ : ∀ h', (∀ b u, b ≠ it → s.heap.get? b = some u → h'.get? b = some u) → Q none { s with heap := h' }) : wpAny (model prog w) A (pyNext (.ref it)) Q E s := by
  obtain ⟨hh, o1, vs1, g1, d1, c1⟩ := hot
  obtain ⟨oi, hoi, hci, hdi⟩ := _root_.id hit
  obtain ⟨ol, hol, _, nl, hdl⟩ := ht
  unfold pyNext
  refine wpAny_bind (wpAny_attempt (wpAny_callSpecial?_slot (name := Str.ofString "__next__") hit.typeIs slot_tupleiter_next (wpAny_call_entry slot_tupleiter_next hit.typeIs entry_tupleiter_next ?_ (args_tupleiter_next _))))
  show wpAny _ _ (field (.ref it) 0 >>= _) _ _ s
  refine wpAny_bind (wpAny_field hoi hdi (x := .ref t) rfl ?_)
  show wpAny _ _ (if (Value.ref t == Value.none) = true then _ else _) _ _ s
  rw [if_neg (show ¬ ((Value.ref t == Value.none) = true) from Bool.false_ne_true)]
  show wpAny _ _ (field (.ref it) 1 >>= _) _ _ s
  refine wpAny_bind (wpAny_field hoi hdi (x := .int i 0) rfl ?_)
  show wpAny _ _ (seqItems? (.ref t) >>= _) _ _ s
  refine wpAny_bind (wpAny_seqItems hol hdl ?_)
  simp only [Int.toNat_natCast, hx]
  refine wpAny_bind (wpAny_rule (wpAny_bind (wpAny_setField hoi hdi (by simp) ?_)))
  show wpAny _ _ (newExc (.type "StopIteration") [] >>= _) _ _ _
  refine wpAny_bind ?_
  simp only [newExc, newTuple]
  refine wpAny_bind (wpAny_newObj_type ?_ (by size_fits))
  refine wpAny_bind (m := firstArgMember _ _) (wpAny_of_eq (a := Value.none) (by first | rfl | (simp only [firstArgMember]; rfl)) ?_)
  refine wpAny_newObj_type ?_ (by size_fits)
  have g2 := (Heap.get?_update_other s.heap (Obj.mapFields fun x => x.setIfInBounds 0 .none) (Ne.symm hne)).trans g1
  refine raiseNew_hot ⟨hh, o1, vs1, Heap.get?_push_of_some _ (Heap.get?_push_of_some _ g2), d1, c1⟩ (Nat.ne_of_lt (Heap.lt_size (Heap.get?_push_of_some _ g2))) (Heap.get?_push_size _ rfl) rfl (by first | (simp; done) | (simp; omega) | (simp only [Array.size_append]; simp; omega)) ?_
  refine wpAny_bind (wpAny_isInstance (T := "StopIteration") (b := true) ⟨_, Heap.get?_update_self _ (Heap.get?_push_size _ rfl) rfl, rfl⟩ isSubtype_stop ?_)
  refine wpAny_pure (hQ _ fun b u hb e => ?_)
  have e2 := (Heap.get?_update_other s.heap (Obj.mapFields fun x => x.setIfInBounds 0 .none) (Ne.symm hb)).trans e
  exact (Heap.get?_update_other _ _ (Nat.ne_of_gt (Heap.lt_size (Heap.get?_push_of_some _ e2)))).trans (Heap.get?_push_of_some _ (Heap.get?_push_of_some _ e2))
theorem unpack_hot {t x1 : Addr} {items : Array Value} {targets : List (Bool × (Value → Sem Unit))} {Q : Unit → Shared → Prop} (hot : HotAt A x1 s.heap) (ht : IsTup s.heap t items) (hn : targets.length = items.size) (hstar : targets.findIdx? (·.1) = none)
    (h : ∀ h', (∀ b u, s.heap.get? b = some u → h'.get? b = some u) → wpAny (model prog w) A (assignInOrder (targets.map (·.2)) items.toList) Q E { s with heap := h' }) : wpAny (model prog w) A (unpack (.ref t) targets) Q E s := by
  have hlt : t ≠ s.heap.objs.size := by
    obtain ⟨o, ho, _⟩ := _root_.id ht
    exact Nat.ne_of_lt (Heap.lt_size ho)
  obtain ⟨hh, o1, vs1, g1, d1, c1⟩ := hot
  have hx1 : x1 ≠ s.heap.objs.size := Nat.ne_of_lt (Heap.lt_size g1)
  unfold unpack
  rw [hn, hstar]
  refine wpAny_bind (wpAny_holding ?_)
  unfold unpackItems
  refine wpAny_bind ?_
  unfold notIterableAtAll
  refine wpAny_bind (wpAny_specialOf ht.typeIs slot_tuple_iter.lookup (wpAny_pure ?_))
  simp only [Bool.false_eq_true, if_false]
  refine wpAny_bind (wpAny_holding (iter_tuple ht ?_))
  refine wpAny_bind (wpAny_holding (draw_tuple hlt items.size 0 _ _ ⟨_, Heap.get?_push_size _ rfl, rfl, rfl⟩ (ht.push _) (by omega) fun h1 hit1 sb1 => ?_))
  have hall : (items.toList.drop 0).take items.size = items.toList := by
    rw [List.drop_zero]
    exact List.take_of_length_le (by simp)
  rw [hall, if_neg (by simp)]
  have k1 : ∀ b u, s.heap.get? b = some u → h1.get? b = some u := fun b u e => sb1.extBut b u (Nat.ne_of_lt (Heap.lt_size e)) (Heap.get?_push_of_some _ e)
  have ht1 : IsTup h1 t items := (ht.push _).extBut sb1.extBut hlt
  refine wpAny_bind (wpAny_holding (tuple_end (s := { s with heap := h1 }) ⟨hh, o1, vs1, k1 _ _ g1, d1, c1⟩ hx1 hit1 ht1 (by simp) fun h2 k2 => ?_))
  simp only [Option.isSome_none, Bool.false_eq_true, if_false]
  exact wpAny_pure (h h2 fun b u e => k2 b u (Nat.ne_of_lt (Heap.lt_size e)) (k1 b u e))
end
end BFH

/-! A list walked, a tuple unpacked, a list comprehension, while an exception is handled: the handled one stays pinned in the comprehension's own block. -/
namespace BFH
open PySem PySem.Spec PyProof.Rows L2 L2H
theorem hotAt {X : Cx} {pins : List (Addr × Obj)} {σ : L2.St} {H : Hp} {s : Shared} {p : Addr × Obj} (I : Inv X pins σ H s) (h : Hot1 X.A p) (hp : p ∈ X.pn) : HotX.HotAt X.A p.1 s.heap := by
  obtain ⟨hh, vs, e, c⟩ := h
  exact ⟨hh, p.2, vs, (I.pin p (List.mem_append_left _ hp)).1, e, c⟩
/-- (a, b, ..) = a tuple -/
theorem pg_tupH {X : Cx} {es : List Expr} {k : Nat} {pos : Pos} {t : TGs} {n : Nat} (hot : HotC X) (h : PGs X es t) (hn : (assignEach es X.env).length = n := by rfl) (hst : (assignEach es X.env).findIdx? (·.1) = none := by rfl) : PG X (.Tuple es k pos) (gTup X.K n t) := by
  refine ⟨fun pins s σ H v u Q I r hw => ?_⟩
  obtain ⟨p, hp1, hp2⟩ := hot
  obtain ⟨a, xs, ev, hq, hl, hw⟩ := hw
  subst ev
  obtain rfl : u = Value.ref a := r
  obtain ⟨its, rv, ht, hz⟩ := I.tuple hq
  rw [assign_Tuple]
  refine wpAny_bind (wpAny_standAt (unpack_hot (hotAt I hp1 hp2) ht (by simp [hn, ← hl, rv.length]) hst fun h' kp => ?_))
  have J : Inv X pins σ H { s with heap := h' } := I.kept (t' := s.toks) kp
  exact h.run pins _ σ H xs _ Q J (by simpa using rv) hw
/-- a list's iterator -/
theorem turn_listH {P : Program} {w : World} {K : PySem.W.Frag} {tg : Expr} (a it : Addr) : TurnH P w K tg (Itl K a) [it] it (fun i h => h.IsListIter it a i) where
  mem := List.mem_singleton_self it
  obj := (turn_list (P := P) (w := w) (K := K) (tg := tg) a it).obj
  keep := (turn_list (P := P) (w := w) (K := K) (tg := tg) a it).keep
  item := by
    intro X hP hw hK hot i pins s σ H E I hf st hg
    subst hP hw hK
    obtain ⟨xs, x, hq, hx⟩ := hg
    obtain ⟨its, rv, pl, hz⟩ := I.list hq
    obtain ⟨u, hu, ru⟩ := rv.get hx
    obtain ⟨f0, f1, f2, f3, f4, f5⟩ := hf it (List.mem_singleton_self it)
    refine wpAny_pyNext_list_item st pl.isList (x := u) (by simpa using hu) fun h' st' sb => ?_
    have J : Inv X pins σ H { s with heap := h' } := I.turned (t' := s.toks) (fun b o hb e => (sb.2 b hb).trans e) f0 f1 f3 f4 f5
    obtain ⟨o, e, c, d⟩ := _root_.id st'
    exact ⟨u, rfl, go_of (s := { s with heap := h' }) e c d (by decide) ⟨x, H, J, ru, ⟨rfl, fun ys hy => (I.list_inj hy hq) ▸ hx⟩, st', fun b hb => (hf b hb).1⟩⟩
  done := by
    intro X hP hw hK hot i pins s σ H E I hf st hg
    subst hP hw hK
    obtain ⟨p, hp1, hp2⟩ := hot
    obtain ⟨xs, hq, hx⟩ := hg
    obtain ⟨its, rv, pl, hz⟩ := I.list hq
    obtain ⟨f0, f1, f2, f3, f4, f5⟩ := hf it (List.mem_singleton_self it)
    have hl := rv.length
    exact list_end (hotAt I hp1 hp2) (f5 p (List.mem_append_left _ hp2)) st pl.isList (by simp; omega) fun h' kp => ⟨rfl, I.turned (t' := s.toks) (fun b o hb e => kp b o hb e) f0 f1 f3 f4 f5⟩
  self := (turn_list (P := P) (w := w) (K := K) (tg := tg) a it).self
theorem pi_listH {X : Cx} {tg l : Expr} {tl : TE} (hl : PE X l tl) : PIH X tg l (iList X.K tl) := by
  refine ⟨fun pins s σ H R I h => thn (hl.run pins s σ H _ I h) fun v s1 hv => ?_⟩
  obtain ⟨x, H1, I1, r1, a, e, ⟨xs, hq⟩, q⟩ := hv
  subst e
  obtain rfl : v = Value.ref a := r1
  obtain ⟨its, rv, pl, hz⟩ := I1.list hq
  refine wpAny_pyIter_list pl.isList ⟨s1.heap.objs.size, [s1.heap.objs.size], _, _, H1, rfl, I1.kept (t' := s1.toks) fun b o e => Heap.get?_push_of_some _ e, turn_listH a _, ⟨_, Heap.get?_push_size _ rfl, rfl, rfl⟩, fun b hb => ?_, q⟩
  rw [List.mem_singleton.mp hb]
  exact I1.fpOk (Nat.le_refl _) (I1.hok.fresh (Nat.le_refl _))
/-- the block's context, what is pinned around it still pinned -/
abbrev blkH (X : Cx) (s : Shared) (H : Hp) (scope : Scope) (cenv : Env) (fp : List Addr) : Cx := (X.blk s H scope cenv fp).tr X.pn (fun _ _ => False)
theorem blkH_hot {X : Cx} {s : Shared} {H : Hp} {scope : Scope} {cenv : Env} {fp : List Addr} (h : HotC X) : HotC (blkH X s H scope cenv fp) := h
section
variable {X : Cx} {elt tg iter : Expr} {ifs : List Expr} {scope : Scope} {own : List (Str × Nat)} {pos pos' : Pos} {wi : TI} {g : TG} {tt : TT} {te : TE}
theorem lcH {pins : List (Addr × Obj)} {s : Shared} {σ : L2.St} {H : Hp} {Q : VK} {use : Option (Value → Sem Unit)} {Qf : Value → Shared → Prop} (hot : HotC X) (hN : X.N.Nodup) (I : Inv X pins σ H s) (hi : PIH X tg iter wi) (ok : BlkOk X.N X.env.scope scope own)
    (hg : ∀ (s : Shared) (H : Hp) (C : Addr) (cl : List (Str × Addr)) (fp : List Addr), PG (blkH X s H scope (compEnvC scope cl C X.env) fp) tg g) (ht : ∀ (s : Shared) (H : Hp) (C : Addr) (cl : List (Str × Addr)) (fp : List Addr), PTs (blkH X s H scope (compEnvC scope cl C X.env) fp) ifs tt)
    (he : ∀ (s : Shared) (H : Hp) (C : Addr) (cl : List (Str × Addr)) (fp : List Addr), PE (blkH X s H scope (compEnvC scope cl C X.env) fp) elt te) (hs : ∀ x, foldedSetIterable iter X.env x = pure x) (h : tLc wi g tt te (own.map (·.2)) σ H Q)
    (hend : ∀ D C s' m H', Inv X pins σ H' s' → Q (.ref D) H' → s'.heap.Ns C m → FpOk X pins H' C → compPost (model X.prog X.w) X.A X.xe use Qf (.ref D) C (.ok .next) s') :
    wpAny (model X.prog X.w) X.A (comprehension (.ListComp elt [⟨tg, iter, ifs, 0⟩] scope pos) scope X.env pos' (newList []) false (eval iter X.env) use) Qf X.xe s := by
  have hfree : ∀ y ∈ scope.names, y.2 = .free → ∃ c, X.env.cells.lookup y.1 = some c := fun y hy e => (ok.free y hy e).elim (fun k => I.ok.has _ (.inl k)) fun k => I.ok.has _ (.inr k)
  refine wpAny_comprehension_free (use := use) rfl hs (closure_ok hfree) ok.kind (fun y hy e => by rw [ok.uniq y hy, e]) (thn (hi.run pins s σ H _ I h) fun xv sa hx => thn hx fun itv sb hb => ?_)
  obtain ⟨it, fp, tn, J, Hb, ev, Ib, T, stb, fb, q⟩ := hb
  subst ev
  refine wpAny_newObj_type (newEnv_comp ?_) (by show 0 ≤ sizeLine; decide)
  obtain ⟨D, hD⟩ : ∃ D, sb.heap.objs.size = D := ⟨_, rfl⟩
  obtain ⟨W, ⟨mm, ww⟩, turn⟩ := q D (Ib.hok.fresh (Nat.le_of_eq hD))
  rw [hD]
  obtain ⟨sc, hsc⟩ : ∃ sc : Shared, ({ sb with heap := sb.heap.push { cls := .type "list", data := .seq ([] : List Value).toArray } } : Shared) = sc := ⟨_, rfl⟩
  have Ic : Inv X pins σ (upd Hb D (.lst [])) sc := by
    rw [← hsc]
    refine Ib.laid (t' := sb.toks) (fun b o e => Heap.get?_push_of_some _ e) (Nat.le_of_eq hD) ⟨Nat.zero_le _, [], 0, .nil, ?_⟩
    rw [← hD]
    exact Heap.get?_push_size _ rfl
  have hc : sc.heap = sb.heap.push { cls := .type "list", data := .seq ([] : List Value).toArray } := by rw [← hsc]
  have fc : ∀ b ∈ fp, FpOk X pins (upd Hb D (.lst [])) b ∧ b < sc.heap.objs.size := fun b hb => by
    obtain ⟨o, e, _⟩ := T.obj _ _ stb b hb
    have hlt := Heap.lt_size e
    refine ⟨⟨?_, (fb b hb).2⟩, by rw [hc, Heap.size_push]; exact Nat.lt_succ_of_lt hlt⟩
    rw [upd_ne (by rw [← hD]; exact Nat.ne_of_lt hlt)]
    exact (fb b hb).1
  have stc : tn 0 sc.heap := T.keep _ _ _ stb fun b _ o e => by rw [hc]; exact Heap.get?_push_of_some _ e
  have Id := block_start Ic ok hN fc
  have pg := hg sc (upd Hb D (.lst [])) sc.heap.objs.size (cellsFrom (sc.heap.objs.size + 1) scope.names (cloFrom X.env.cells scope.names [])) fp
  have pt := ht sc (upd Hb D (.lst [])) sc.heap.objs.size (cellsFrom (sc.heap.objs.size + 1) scope.names (cloFrom X.env.cells scope.names [])) fp
  have pe := he sc (upd Hb D (.lst [])) sc.heap.objs.size (cellsFrom (sc.heap.objs.size + 1) scope.names (cloFrom X.env.cells scope.names [])) fp
  rw [hsc]
  show codeAny _ _ (.compStart (.ListComp elt [⟨tg, iter, ifs, 0⟩] scope pos) 0 (.ref it) (.ref D) (compEnvC scope (cellsFrom (sc.heap.objs.size + 1) scope.names (cloFrom X.env.cells scope.names [])) sc.heap.objs.size X.env)) (compPost (model X.prog X.w) X.A X.xe use Qf (.ref D) sc.heap.objs.size) { sc with heap := pushCells (sc.heap.push { cls := .type "dict", data := .dict #[] }) scope.names }
  generalize hce : compEnvC scope (cellsFrom (sc.heap.objs.size + 1) scope.names (cloFrom X.env.cells scope.names [])) sc.heap.objs.size X.env = ce at Id pg pt pe ⊢
  have cL : ce.locals = sc.heap.objs.size := by subst hce; rfl
  generalize hHc : upd Hb D (.lst []) = Hc at Ic Id pg pt pe ww fc
  obtain ⟨sd, hsd⟩ : ∃ sd : Shared, ({ sc with heap := pushCells (sc.heap.push { cls := .type "dict", data := .dict #[] }) scope.names } : Shared) = sd := ⟨_, rfl⟩
  rw [hsd] at Id ⊢
  have kd : ∀ b o, sc.heap.get? b = some o → sd.heap.get? b = some o := fun b o e => by rw [← hsd]; exact pushCells_keeps _ _ _ _ (Heap.get?_push_of_some _ e)
  have std : tn 0 sd.heap := T.keep _ _ _ stc fun b _ o e => kd b o e
  -- what is pinned around stays pinned
  have Ie : Inv (blkH X sc Hc scope ce fp) [] (wipe σ (own.map (·.2))) Hc sd := by
    refine Inv.toTry (X := X.blk sc Hc scope ce fp) (pins := X.pn) (Id.pins_of fun p hp => ?_) (fun _ _ => False)
    obtain ⟨a1, a2, a3, a4, a5⟩ := Ic.pin p (List.mem_append_left _ hp)
    refine ⟨kd _ _ a1, a2, ?_, fun z => ?_, a5⟩
    · show p.1 ≠ ce.locals
      rw [cL]
      exact Nat.ne_of_lt (Heap.lt_size a1)
    · exact (List.mem_cons.mp (Ic.stkSub p.1 z)).elim a3 a4
  have stat : ∀ {σ' : L2.St} {H' : Hp} {s' : Shared}, Inv (blkH X sc Hc scope ce fp) [] σ' H' s' → (∀ b ∈ fp, H' b = none) → ∀ b ∈ fp, FpOk (blkH X sc Hc scope ce fp) [] H' b := fun {σ' H' s'} I' hn b hb =>
    ⟨hn b hb, (I'.ok.exf b hb).1, I'.ok.exfs b hb, .inl hb, fun x c e => (I'.ok.exf b hb).2 x c e, fun p hp => by
      rw [List.append_nil] at hp
      exact (fc b hb).1.2.2.2.2.2 p (List.mem_append_left _ hp)⟩
  have loop : codeAny (model X.prog X.w) X.A (.compLoop (.ListComp elt [⟨tg, iter, ifs, 0⟩] scope pos) 0 (.ref it) (.ref D) ce) (compPost (model X.prog X.w) X.A X.xe use Qf (.ref D) sc.heap.objs.size) sd := by
    refine compLoop_any (fun n s' => ∃ i H', Inv (blkH X sc Hc scope ce fp) [] (wipe σ (own.map (·.2))) H' s' ∧ tn i s'.heap ∧ (∀ b ∈ fp, H' b = none) ∧ W i n H') ?_ mm ⟨0, Hc, Ie, std, fun b hb => (fc b hb).1.1, ww⟩
    rintro n se ⟨i, He, Ie, ste, ne, we⟩
    rcases turn i n He we with ⟨stop, qq⟩ | ⟨go, Nx, hNx, step⟩
    · refine thnF (T.done (blkH X sc Hc scope ce fp) rfl rfl rfl (blkH_hot hot) i [] se _ He (fun _ _ => False) Ie (stat Ie ne) ste stop) fun r sf hrf => ?_
      obtain ⟨hr, If⟩ := hrf
      subst hr
      have Ig : Inv X pins σ He sf := Ic.call' (ch := fp) If.os If.base If.hok If.bare fun b hb => ⟨(fc b hb).1.2.2.2.1, (fc b hb).1.2.1, (fc b hb).1.2.2.2.2.1, (fc b hb).1.2.2.2.2.2⟩
      have nC : He sc.heap.objs.size = none := cL ▸ (show He ce.locals = none from If.free)
      obtain ⟨m, hn, _⟩ := If.loc
      have hn : sf.heap.Ns sc.heap.objs.size m := cL ▸ (show sf.heap.Ns ce.locals m from hn)
      exact hend D sc.heap.objs.size sf m He Ig qq hn (Ic.fpOk (Nat.le_refl _) nC)
    · refine thnF (T.item (blkH X sc Hc scope ce fp) rfl rfl rfl (blkH_hot hot) i [] se _ He (fun _ _ => False) Ie (stat Ie ne) ste go) fun r sf hrf => ?_
      obtain ⟨u, hr, hf⟩ := hrf
      subst hr
      refine thnF hf fun _ sg hsg => ?_
      obtain ⟨x, Hg, Ig, rg, yg, stg, ng⟩ := hsg
      have Ig' := Ig.pinned (stat Ig ng) (T.obj _ _ stg)
      refine thnF (pg.run _ sg _ Hg x u _ Ig' rg (step x Hg yg)) fun _ sh hsh => ?_
      obtain ⟨σh, Hh, Ih, wh, qh⟩ := hsh
      refine thnF (pt.run _ sh σh Hh _ Ih qh) fun b sk hsk => ?_
      obtain ⟨Hk, Ik, qk⟩ := hsk
      have fin : ∀ {s' : Shared} {H' : Hp}, Inv (blkH X sc Hc scope ce fp) ([] ++ pinsAt fp sg.heap) σh H' s' → Nx H' → ∃ m, m < n ∧ ∃ i H', Inv (blkH X sc Hc scope ce fp) [] (wipe σ (own.map (·.2))) H' s' ∧ tn i s'.heap ∧ (∀ b ∈ fp, H' b = none) ∧ W i m H' := fun {s' H'} I' nx => by
        obtain ⟨m', hm, w'⟩ := hNx H' nx
        have pin' : ∀ b ∈ fp, ∀ o, sg.heap.get? b = some o → s'.heap.get? b = some o ∧ H' b = none := fun b hb o e =>
          ⟨(I'.pin (b, o) (List.mem_append_right _ (List.mem_append_right _ (mem_pinsAt hb e)))).1, (I'.pin (b, o) (List.mem_append_right _ (List.mem_append_right _ (mem_pinsAt hb e)))).2.1⟩
        have hl : (wipe σ (own.map (·.2))).length = σh.length := by rw [← wh, wipe_length]
        refine ⟨m', hm, i + 1, H', (I'.unpinned (pins := [])).weak hl (fun j v e => ?_), T.keep _ _ _ stg fun b hb o e => (pin' b hb o e).1, fun b hb => ?_, w'⟩
        · rw [← wh] at e
          exact (wipe_some e).1
        · obtain ⟨o, e, _⟩ := T.obj _ _ stg b hb
          exact (pin' b hb o e).2
      cases b with
      | false =>
        simp only [Bool.false_eq_true, if_false] at qk ⊢
        exact fin Ik qk
      | true =>
        simp only [if_true] at qk ⊢
        refine thnF (pe.run _ sk σh Hk _ Ik qk) fun z sl hsl => ?_
        obtain ⟨yv, Hl, Il, rl, acc, hDl, hzl, nx⟩ := hsl
        exact app_ok (X := blkH X sc Hc scope ce fp) Il hDl hzl rl fun sm Im => fin Im nx
  exact codeAny_compStart_list loop (T.self X.A 0 _ _ _ std loop)
/-- name = [..], the name a local -/
theorem ps_setLcH {i : Nat} {y : Str} {py spos : Pos} (hot : HotC X) (hN : X.N.Nodup) (hy : X.N[i]? = some y) (hyl : X.env.scope.names.lookup y = some .local)
    (hsw : swapsWith (.ListComp elt [⟨tg, iter, ifs, 0⟩] scope pos) (some (.Name y py)) spos.line X.env = pure true) (hi : PIH X tg iter wi) (ok : BlkOk X.N X.env.scope scope own)
    (hg : ∀ (s : Shared) (H : Hp) (C : Addr) (cl : List (Str × Addr)) (fp : List Addr), PG (blkH X s H scope (compEnvC scope cl C X.env) fp) tg g) (ht : ∀ (s : Shared) (H : Hp) (C : Addr) (cl : List (Str × Addr)) (fp : List Addr), PTs (blkH X s H scope (compEnvC scope cl C X.env) fp) ifs tt)
    (he : ∀ (s : Shared) (H : Hp) (C : Addr) (cl : List (Str × Addr)) (fp : List Addr), PE (blkH X s H scope (compEnvC scope cl C X.env) fp) elt te) (hs : ∀ x, foldedSetIterable iter X.env x = pure x := by intro _; rfl) :
    PS X (.Assign [.Name y py] (.ListComp elt [⟨tg, iter, ifs, 0⟩] scope pos) spos) (tAsg (tLc wi g tt te (own.map (·.2))) (gName i)) := by
  refine ⟨fun pins s σ H D I h => ?_⟩
  rw [exec_Assign_Name_used _ _ _ _ hsw]
  refine wpAny_bind (wpAny_standAt (wpAny_bind ?_))
  show wpAny _ X.A (do let _ ← comprehension (.ListComp elt [⟨tg, iter, ifs, 0⟩] scope pos) scope X.env (firstIterPos [⟨tg, iter, ifs, 0⟩] pos) (newList []) false (eval iter X.env) (some (assign (.Name y py) X.env))) _ _ s
  have h : tLc wi g tt te (own.map (·.2)) σ H (fun x H1 => gName i x σ H1 D.nx) := h
  refine wpAny_bind (thn (lcH (Qf := fun _ s' => SP X pins D .next s') hot hN I hi ok hg ht he hs h fun L C s' m H' I' q hn f => ?_) fun _ s' hq => wpAny_pure (wpAny_pure hq))
  show wpAny _ _ (assign (.Name y py) X.env (.ref L)) _ _ _
  refine wpAny_assign_Name (store_ok2 (v := V.ref L) I' hN hy (.inl hyl) rfl (fun s2 I2 hsb => ?_) (.inr hyl))
  obtain ⟨a, sb, ha⟩ := hsb
  obtain ⟨f0, f1, f2, f3, f4, f5⟩ := f
  have haC : C ≠ a := ha.elim (fun z => z ▸ f1) fun z e => f4 y a z e.symm
  exact ⟨m, hn.sameBut sb haC, fun h3 sb3 => ⟨_, H', I2.turned (t' := s2.toks) (fun b o hb e => (sb3.2 b hb).trans e) f0 f1 f3 f4 f5, q⟩⟩
end
end BFH

/-! A def that an except suite calls with the error that it holds. -/
namespace BFH
open PySem PySem.Spec PyProof.Rows L2 L2H
/-- called while the error at a (its class D, its context None) is handled -/
structure FnE (P : Program) (w : World) (K : PySem.W.Frag) (mg : Str → Option Value) (base : Heap) (k : Nat) (f : Addr) (fd : FuncData) (ps : List Str) (sp : Addr → Addr → Sp) : Prop where
  len : ∀ a D vs H Q E, sp a D vs H Q E → vs.length = ps.length
  run : ∀ (A : Around) (outer : List Env) (s : Shared) (H : Hp) (args : Args) (us : List Value) (vs : List V) (Q : VK) (E : XK) (p : Addr × Obj) (D : Addr), RoomH k A → Hot1 A p → L2N.Zn (.ref D) none p.2 → PinOk outer H s p → Env0 P w K mg base A outer s H →
    BindsTo s fd args (ps.zip us) → Vals vs us → sp p.1 D vs H Q E → codeAny (model P w) A (.call (.ref f) args) (CR (L2N.CX P w) outer P w H s Q E) s
section
variable {P : Program} {w : World} {K : PySem.W.Frag} {mg : Str → Option Value} {base : Heap}
theorem fnE_of {x qual : Str} {st : Stmt} {f : Addr} {fd : FuncData} {N ps : List Str} {k : Nat} {sp : Addr → Addr → Sp} (F : Fun K x qual st f fd) (S : FnScope N ps (defScope st)) (len : ∀ a D vs H Q E, sp a D vs H Q E → vs.length = ps.length)
    (body : ∀ (cdv : Value) (A : Around) (outer : List Env) (s : Shared) (H : Hp) (vs : List V) (Q : VK) (E : XK) (p : Addr × Obj) (D : Addr), Hot1 A p → L2N.Zn (.ref D) none p.2 → RoomH k (A.deeper (envOfC qual (defScope st) s.heap.objs.size f cdv)) → sp p.1 D vs H Q E →
      ∃ t, PSs (cxH (L2N.CX P w) P w K mg base N qual (defScope st) f cdv A outer s H E p) (defBody st) t ∧ t { nx := fun _ H' => Q .non H', rt := Q } (L2.start N vs) H) : FnE P w K mg base (k + 1) f fd ps sp := by
  obtain ⟨oc, od, kV, doc, pm, an, cdv, ct, osl, rfl, lk, hcd⟩ := F.ex
  refine ⟨len, fun A outer s H args us vs Q E p D hr hot hz pin e0 hb r hsp => ?_⟩
  have KX : K.In s.heap := e0.mod.kin.keeps fun b o e => (e0.bs b o e).1
  have kinds : ∀ y ∈ ps.zip us, (defScope st).names.lookup y.1 = some .local ∨ ((defScope st).names.lookup y.1 = some .cell ∧ ((cellsFrom (s.heap.objs.size + 1) (defScope st).names []).lookup y.1).isSome = true) := fun y hy =>
    (S.par y.1 (List.of_mem_zip hy).1).elim .inl fun q => .inr ⟨q, PySem.W.cellsFrom_some _ _ _ (.inl q)⟩
  refine codeAny_call_function hr.depth (KX _ _ lk) rfl S.co S.gen rfl (PySem.W.codeRec_of KX hcd) (hb _ _ _ _ (wpAny_newFunctionEnv_cells S.kind kinds fun env he s1 x => ?_))
  subst he
  refine ⟨(e0.mod.nolimit.keeps fun b o e => (e0.bs b o e).1 : s.heap.NoLimit).keeps x.toInCall.keep, codeAny_func ?_⟩
  obtain ⟨t, ht, hq⟩ := body cdv A outer s H vs Q E p D hot hz (hr.deeper _) hsp
  have I := inv_startH (CX := L2N.CX P w) (P := P) (w := w) (K := K) (mg := mg) (base := base) (E := E) S pin e0 (len _ _ _ _ _ _ hsp) r x
  refine wpAny_mono (ht.run [] s1 (L2.start N vs) H _ I hq) (fun fl s' hs => ?_) fun e s' hs => hs
  cases fl with
  | ret u =>
    obtain ⟨v, σ', H', J, rv, q⟩ := hs
    exact ⟨v, H', J.os, J.bare, J.base, J.hok, rv, q⟩
  | next =>
    obtain ⟨σ', H', J, q⟩ := hs
    exact ⟨V.non, H', J.os, J.bare, J.base, J.hok, rfl, q⟩
  | brk => exact (let ⟨_, _, _, q⟩ := hs; False.elim q)
  | cont => exact (let ⟨_, _, _, q⟩ := hs; False.elim q)
end
theorem passN {X : Cx} : Passes (L2N.CX X.prog X.w) X E0 := fun _ _ _ _ _ _ _ h => by
  obtain ⟨_, _, _, _, _, _, _, _, _, _, _, _, z⟩ := h
  exact z.elim
/-- f(e, ..) in the suite that holds the error at a -/
def tCallE (cls : Value) (d : Option Addr) (a : Addr) (sp : Addr → Addr → Sp) (t : TA) : TE := fun σ H Q => t σ H fun vs H1 => ∃ D, cls = .ref D ∧ d = none ∧ sp a D vs H1 Q E0
theorem pe_callE {X : Cx} {k j : Nat} {f : Addr} {fd : FuncData} {ps : List Str} {sp : Addr → Addr → Sp} {x : Str} {q pos : Pos} {e : Expr} {es : List Expr} {t : TA} {a : Addr} {oe : Obj} {pn : List (Addr × Obj)} {cls : Value} {d : Option Addr}
    (F : FnE X.prog X.w X.K X.mg X.base k f fd ps sp) (hz : L2N.Zn cls d oe) (hf : ∃ vs, oe.data = .fields vs) (hr : Room j X.A) (hk : k ≤ j) (hm : X.mg x = some (.ref f)) (hkp : PySem.W.keepIn X.K (.ref f) = true) (hb : Binds X.K fd ps [])
    (ha : PA (X.suite a ((a, oe) :: pn)) (e :: es) t) (hg : Gl X x := by rfl) (hdb : (x == ("__debug__" : Str)) = false := by decide) (he : starEach (e :: es) X.env = (false, eval e X.env) :: starEach es X.env := by rfl) (hpl : (backTo pos (starEach es X.env)).any (·.1) = false := by rfl) :
    PE (X.suite a ((a, oe) :: pn)) (.Call (.Name x q) (e :: es) [] pos) (tCallE cls d a sp t) := by
  refine ⟨fun pins s σ H Q I h => ?_⟩
  refine wpAny_Call_Name_kw (ld_glob I hg hm ?_ hdb)
  refine PySem.W.callWith_K (h₀ := X.base) I.ok.mod.kin hkp (thn (ha.run pos pins s σ H _ I h) fun us s1 hh => ?_) he hpl
  obtain ⟨vs, H1, I1, r, D, ec, ed, hsp⟩ := hh
  subst ec ed
  refine ⟨I1.kIn, ?_⟩
  have hl : us.length = ps.length := by rw [← r.length]; exact F.len _ _ _ _ _ _ hsp
  have b := hb s1 us I1.kIn (by rw [List.append_nil]; exact hl)
  rw [List.append_nil] at b
  have P1 := I1.pin (a, oe) (List.mem_append_left _ List.mem_cons_self)
  have pin : PinOk (X.suite a ((a, oe) :: pn)).stack H1 s1 (a, oe) := ⟨P1.1, P1.2.1, fun hm => (List.mem_cons.mp (I1.stkSub a hm)).elim P1.2.2.1 P1.2.2.2.1, P1.2.2.2.2⟩
  have hot : Hot1 (X.suite a ((a, oe) :: pn)).A (a, oe) := by
    obtain ⟨vs, hv⟩ := hf
    exact ⟨rfl, vs, hv, hz.2.2 vs hv⟩
  have hr2 : RoomH k (X.suite a ((a, oe) :: pn)).A := roomH_of (hr.mono hk) |> fun z => ⟨z.dp, z.un⟩
  refine wpAny_call (codeAny_mono (F.run _ (X.suite a ((a, oe) :: pn)).stack s1 H1 ⟨us, []⟩ us vs Q E0 (a, oe) D hr2 hot hz pin I1.env0 b r hsp) fun r s' hq => ?_)
  cases r with
  | error e =>
    obtain ⟨_, _, _, _, _, _, _, _, _, _, _, _, z⟩ := hq
    exact z.elim
  | ok fl =>
    cases fl with
    | ret u => exact I1.after hq
    | next => exact False.elim hq
    | brk => exact False.elim hq
    | cont => exact False.elim hq
/-- isinstance(e, c), e the pinned error -/
theorem call_isP {X : Cx} {D : Addr} {p : Addr × Obj} (hp : p ∈ X.pn) (C : ExcC X.K D) (hz : L2N.Zn (.ref D) none p.2) (hf : ∃ vs, p.2.data = .fields vs) : CallR X (.builtin "isinstance") (rIsE X.K D p.1) := by
  intro pins s σ H xs us Q I r h
  obtain ⟨c, cv, b, rfl, hcv, e, q⟩ := h
  obtain ⟨u1, u2, rfl, r1, r2⟩ := vals2 r
  obtain rfl : u1 = Value.ref p.1 := r1
  have ec := hcv _ r2
  subst ec
  have hget := (I.pin p (List.mem_append_left _ hp)).1
  obtain ⟨vs, hv⟩ := hf
  have J : PySem.W.InstAt s.heap p.1 p.2 D none := by
    obtain ⟨pa, oc, od, oda, osl⟩ := p
    obtain ⟨z1, z2, _⟩ := hz
    dsimp only at z1 z2 hv
    subst z1 z2 hv
    exact ⟨hget, rfl, rfl, trivial⟩
  exact PySem.W.kia_one (PySem.W.handS_kitx_exc C.hg C.hk C.hs C.hd C.ha C.hn C.ht C.hm) I.kIn J e (fun z => nomatch z) fun tk => ⟨.bl b, H, I.kept (t' := tk) fun _ _ z => z, rfl, q⟩
section
open Evl
variable {K : PySem.W.Frag} {σ : L2.St} {H : Hp} {ta : TA}
theorem ev_isE {D a : Addr} {c : V} {cv : Value} {b : Bool} (h : EvA ta σ H [.ref a, c]) (hc : ∀ u, RelV c u → u = cv) (hb : PySem.W.kitOne K (.ref D) cv = some b) : Ev (tCB (rIsE K D a) ta) σ H (.bl b) := fun H1 e Q q =>
  h H1 e _ fun H2 e2 => ⟨c, cv, b, rfl, hc, hb, q H2 e2⟩
end
end BFH

/-! The program's errors, asked for their classes; defs called in an except suite, by their names. -/
namespace BF
open PySem L2 Evl
/-- what the classes say of an error of the class at D -/
structure ErrFacts (K : PySem.W.Frag) (D NB NN LA BA FE : Addr) (b0 b1 b2 b3 : Bool) : Prop where
  xc : ExcC K D
  k0 : PySem.W.kitOne K (.ref D) (.ref NB) = some b0
  k1 : PySem.W.kitOne K (.ref D) (.ref NN) = some b1
  k2 : PySem.W.kitOne K (.ref D) (.ref LA) = some b2
  k3 : PySem.W.kitOne K (.ref D) (.ref BA) = some b3
  kv : PySem.W.kitOne K (.ref D) (.type "ValueError") = some true
  fe : PySem.W.exmOne K (.ref D) (.ref FE) = some true
structure OwnE (P : Program) (w : World) (K : PySem.W.Frag) (mg : Str → Option Value) (base : Heap) (x : Str) (k : Nat) (ps : List Str) (sp : Addr → Addr → Sp) : Prop where
  ex : ∃ f fd, BFH.FnE P w K mg base k f fd ps sp ∧ mg x = some (.ref f) ∧ PySem.W.keepIn K (.ref f) = true ∧ Binds K fd ps []
section
variable {X : Cx} {k j : Nat} {ps : List Str} {sp : Addr → Addr → Sp} {x : Str} {q pos : Pos} {e : Expr} {es : List Expr} {t : TA} {a : Addr} {oe : Obj} {pn : List (Addr × Obj)} {cls : Value} {d : Option Addr}
theorem pe_ownE (O : OwnE X.prog X.w X.K X.mg X.base x k ps sp) (hz : L2N.Zn cls d oe) (hf : ∃ vs, oe.data = .fields vs) (hr : Room j X.A) (hk : k ≤ j) (ha : PA (X.suite a ((a, oe) :: pn)) (e :: es) t) (hg : Gl X x := by rfl)
    (hdb : (x == ("__debug__" : Str)) = false := by decide) (he : starEach (e :: es) X.env = (false, eval e X.env) :: starEach es X.env := by rfl) (hpl : (backTo pos (starEach es X.env)).any (·.1) = false := by rfl) :
    PE (X.suite a ((a, oe) :: pn)) (.Call (.Name x q) (e :: es) [] pos) (BFH.tCallE cls d a sp t) := by
  obtain ⟨f, fd, F, hm, hkp, hb⟩ := O.ex
  exact BFH.pe_callE F hz hf hr hk hm hkp hb ha hg hdb he hpl
end
section
variable {K : PySem.W.Frag} {σ : L2.St} {H : Hp} {ta tb : TE} {x y : V}
theorem dpAll_strs (K : PySem.W.Frag) (H : Hp) : ∀ ws : List Str, DpAll K H (ws.map V.str) (ws.map PyData.str)
  | [] => .nil
  | z :: r => .cons (.str z) (dpAll_strs K H r)
theorem rv_eqD {d e : PyData} (hx : ∀ H1, Ex H H1 → Dp K H1 x d) (hy : ∀ H1, Ex H H1 → Dp K H1 y e) (sd : SeqAt.shaped d = true) (se : SeqAt.shaped e = true) : RV (rEqD K) x y H (.bl (PyData.eqv d e)) := fun H1 e1 _ q =>
  ⟨d, e, hx H1 e1, hy H1 e1, sd, se, q H1 (Ex.refl H1)⟩
theorem ev_int1 {b : Bool} (h : Ev ta σ H (.bl b)) : Ev (tCB (fun xs H Q => (∃ i, xs = [.int i] ∧ Q (.int i) H) ∨ ∃ k, xs = [.bl k] ∧ Q (.int (if k then 1 else 0)) H) (tCons ta tNil)) σ H (.int (if b then 1 else 0)) := fun H1 e Q q =>
  h H1 e _ fun H2 e2 => Or.inr ⟨b, rfl, q H2 e2⟩
theorem ev_slS {z : Str} {tl th : TO} {lo hi : Option Int} (h : Ev ta σ H (.str z)) (h1 : EvO tl σ H lo) (h2 : EvO th σ H hi) (hz : z.length ≤ 100000) : Ev (tSl rSlS ta tl th) σ H (.str (cutS z lo hi)) := fun H1 e Q q =>
  h H1 e _ fun H2 e2 => h1 H2 (e.trans e2) _ fun H3 e3 => h2 H3 ((e.trans e2).trans e3) _ fun H4 e4 => ⟨z, rfl, sz_of hz, q H4 ((e2.trans e3).trans e4)⟩
theorem cutS_len (z : Str) (lo hi : Option Int) : (cutS z lo hi).length ≤ z.length := by
  have hz : z.length = z.cps.toList.length := by simp [Str.length]
  show (⟨((z.cps.toList.drop (HT.sIx z.length 0 lo)).take (HT.sIx z.length z.length hi - HT.sIx z.length 0 lo)).toArray⟩ : Str).length ≤ z.length
  rw [hz]
  simp only [Str.length, List.size_toArray, List.length_take, List.length_drop]
  omega
theorem app_len (a b : Str) : (a ++ b).length = a.length + b.length := by
  show (a.cps ++ b.cps).size = a.cps.size + b.cps.size
  exact Array.size_append
end
end BF

namespace BF
open PySem L2 Evl
/-! ### the text by places -/
def topS (i : Nat) : Stmt := PySem.Challenge.pw_bucketfall_k04_read.main.body.getD i (.Pass ⟨0, 0, 0, 0⟩)
abbrev s_check_base : Stmt := topS 10
theorem sc_check_base : FnScope ["base"] ["base"] (defScope s_check_base) := ⟨rfl, rfl, rfl, by decide +kernel, rfl, by decide +kernel, by decide +kernel⟩
abbrev s_figure_of : Stmt := topS 11
theorem sc_figure_of : FnScope ["sign", "base", "figure"] ["sign", "base"] (defScope s_figure_of) := ⟨rfl, rfl, rfl, by decide +kernel, rfl, by decide +kernel, by decide +kernel⟩
abbrev s_read : Stmt := topS 12
theorem sc_read : FnScope ["line", "base", "number", "sign"] ["line", "base"] (defScope s_read) := ⟨rfl, rfl, rfl, by decide +kernel, rfl, by decide +kernel, by decide +kernel⟩
abbrev s__law_cell_at : Stmt := topS 14
theorem sc__law_cell_at : FnScope ["_law_script", "_law_k"] ["_law_script", "_law_k"] (defScope s__law_cell_at) := ⟨rfl, rfl, rfl, by decide +kernel, rfl, by decide +kernel, by decide +kernel⟩
abbrev s__law_whole : Stmt := topS 15
theorem sc__law_whole : FnScope ["_law_found"] ["_law_found"] (defScope s__law_whole) := ⟨rfl, rfl, rfl, by decide +kernel, rfl, by decide +kernel, by decide +kernel⟩
abbrev s__law_sign_by : Stmt := topS 16
theorem sc__law_sign_by : FnScope ["_law_cell", "_law_some"] ["_law_cell"] (defScope s__law_sign_by) := ⟨rfl, rfl, rfl, by decide +kernel, rfl, by decide +kernel, by decide +kernel⟩
abbrev s__law_line_by : Stmt := topS 17
theorem sc__law_line_by : FnScope ["_law_script", "_law_base", "_law_way", "_law_line", "_law_k", "_law_at", "_law_most", "_law_bad", "_law_cell"] ["_law_script", "_law_base"] (defScope s__law_line_by) := ⟨rfl, rfl, rfl, by decide +kernel, rfl, by decide +kernel, by decide +kernel⟩
abbrev s__law_due_of : Stmt := topS 18
theorem sc__law_due_of : FnScope ["_law_line", "_law_base", "_law_made", "_law_sign", "_law_figure"] ["_law_line", "_law_base"] (defScope s__law_due_of) := ⟨rfl, rfl, rfl, by decide +kernel, rfl, by decide +kernel, by decide +kernel⟩
abbrev s__law_words : Stmt := topS 19
theorem sc__law_words : FnScope ["_law_e", "_law_some", "_law_found", "_law_word", "_law_fits"] ["_law_e"] (defScope s__law_words) := ⟨rfl, rfl, rfl, by decide +kernel, rfl, by decide +kernel, by decide +kernel⟩
abbrev s__law_refused_by_any : Stmt := topS 20
theorem sc__law_refused_by_any : FnScope ["_law_line", "_law_base", "_law_e"] ["_law_line", "_law_base"] (defScope s__law_refused_by_any) := ⟨rfl, rfl, rfl, by decide +kernel, rfl, by decide +kernel, by decide +kernel⟩
abbrev s_law : Stmt := topS 21
theorem sc_law : FnScope ["_law_script", "_law_base", "_law_line", "_law_due", "_law_refused", "_law_found"] ["_law_script"] (defScope s_law) := ⟨rfl, rfl, rfl, by decide +kernel, rfl, by decide +kernel, by decide +kernel⟩
/-- what the top has written -/
structure Txt (K : PySem.W.Frag) (mg : Str → Option Value) (NB NN FE LA BA ST : Addr) : Prop where
  e_FallError : ErrAt K mg "FallError" FE
  e_NoBase : ErrAt K mg "NoBase" NB
  e_NoNumber : ErrAt K mg "NoNumber" NN
  e_Late : ErrAt K mg "Late" LA
  e_Bare : ErrAt K mg "Bare" BA
  g_LEAST_BASE : ∃ t, mg "LEAST_BASE" = some (.int 2 t)
  g_MOST_BASE : ∃ t, mg "MOST_BASE" = some (.int 16 t)
  g_SIGNS : ∃ t, mg "SIGNS" = some (.str "0123456789abcdef" t)
  b_len : mg "len" = none
  b_isinstance : mg "isinstance" = none
  b_int : mg "int" = none
  b_bool : mg "bool" = none
  b_range : mg "range" = none
  b_ValueError : mg "ValueError" = none
  d_check_base : DefAt K mg "check_base" s_check_base ["base"]
  d_figure_of : DefAt K mg "figure_of" s_figure_of ["sign", "base"]
  d_read : DefAt K mg "read" s_read ["line", "base"]
  d__law_cell_at : DefAt K mg "_law_cell_at" s__law_cell_at ["_law_script", "_law_k"]
  d__law_whole : DefAt K mg "_law_whole" s__law_whole ["_law_found"]
  d__law_sign_by : DefAt K mg "_law_sign_by" s__law_sign_by ["_law_cell"]
  d__law_line_by : DefAt K mg "_law_line_by" s__law_line_by ["_law_script", "_law_base"]
  d__law_due_of : DefAt K mg "_law_due_of" s__law_due_of ["_law_line", "_law_base"]
  d__law_words : DefAt K mg "_law_words" s__law_words ["_law_e"]
  d__law_refused_by_any : DefAt K mg "_law_refused_by_any" s__law_refused_by_any ["_law_line", "_law_base"]
  f_NoBase : ErrFacts K NB NB NN LA BA FE true false false false
  f_NoNumber : ErrFacts K NN NB NN LA BA FE false true false false
  f_Late : ErrFacts K LA NB NN LA BA FE false false true false
  f_Bare : ErrFacts K BA NB NN LA BA FE false false false true
  x_NoNumber : PySem.W.exmOne K (.ref NN) (.ref NN) = some true
section
variable {P : Program} {w : World} {K : PySem.W.Frag} {mg : Str → Option Value} {base : Heap} {NB NN FE LA BA ST : Addr}
/-! ### check_base -/
def D_check_base : List V → Hp → V → Prop := fun vs _ z => ∃ b : Int, vs = [.int b] ∧ 2 ≤ b ∧ b ≤ 16 ∧ z = .non
def R_check_base (NB : Addr) : List V → Hp → Addr → Prop := fun vs _ c => ∃ b : Int, vs = [.int b] ∧ (b < 2 ∨ 16 < b) ∧ c = NB
theorem O_check_base (T : Txt K mg NB NN FE LA BA ST) : Own P w K mg base "check_base" 1 ["base"] (spX D_check_base (R_check_base NB)) := by
  refine own_of T.d_check_base sc_check_base (fun vs H Q E h => ?_) (fun f cdv A outer s H vs Q E hr h => ⟨_, (pss_one (ps_if (PW.pt (pw_or (pt_cmpR op_lt (pv 0) (pe_const_int rfl T.g_LEAST_BASE) (nomark _)) (pw_or1 (pt_cmpR op_gt (pv 0) (pe_const_int rfl T.g_MOST_BASE) (nomark _)))))
    (pss_one (ps_own_raise T.e_NoBase tk_out))
    pss_nil)), ?_⟩)
  · rcases h with ⟨z, ⟨b, rfl, _⟩, _⟩ | ⟨c, ⟨b, rfl, _⟩, _⟩ <;> rfl
  · have he : ∀ b : Int, EvT (tOr (tTest (tOp (rI0 fun i j => .bl (decide (i < j))) (tVar 0) (tC (.int 2)))) (tTest (tOp (rI0 fun i j => .bl (decide (j < i))) (tVar 0) (tC (.int 16))))) (start ["base"] [.int b]) H (decide (b < 2) || decide (16 < b)) := fun b =>
      et_or (et_test (ev_op (ev_var rfl) ev_c rv_I0)) fun _ => et_test (ev_op (ev_var rfl) ev_c rv_I0)
    rcases h with ⟨z, ⟨b, rfl, h1, h2, rfl⟩, k⟩ | ⟨c, ⟨b, rfl, h1, rfl⟩, k⟩
    · refine s_if (he b) (fun hb => ?_) (fun _ H1 e1 => k H1 e1)
      have : ¬ (b < 2) := by omega
      have : ¬ (16 < b) := by omega
      simp_all
    · refine s_if (he b) (fun _ H1 e1 => k H1 e1) (fun hb => ?_)
      rw [Bool.or_eq_false_iff] at hb
      have := of_decide_eq_false hb.1
      have := of_decide_eq_false hb.2
      omega
/-! ### figure_of -/
def D_figure_of : List V → Hp → V → Prop := fun vs _ z => ∃ (c : Nat) (b : Int), vs = [.str ⟨#[c]⟩, .int b] ∧ 0 ≤ figI c ∧ figI c < b ∧ z = .int (figI c)
def R_figure_of (NN : Addr) : List V → Hp → Addr → Prop := fun vs _ e => ∃ (c : Nat) (b : Int), vs = [.str ⟨#[c]⟩, .int b] ∧ ¬ (0 ≤ figI c ∧ figI c < b) ∧ e = NN
theorem O_figure_of (T : Txt K mg NB NN FE LA BA ST) : Own P w K mg base "figure_of" 1 ["sign", "base"] (spX D_figure_of (R_figure_of NN)) := by
  refine own_of T.d_figure_of sc_figure_of (fun vs H Q E h => ?_) (fun f cdv A outer s H vs Q E hr h => ⟨_, (pss_cons (ps_set (i := 2) sc_figure_of.nd rfl (Or.inl rfl) (pe_m1 PySem.F.slot_str_find PySem.F.type_str_find mt_find (pe_const_str rfl T.g_SIGNS) (pv 0)))
    (pss_cons (ps_if (PW.pt (pw_or (pt_cmpR op_lt (pv 2) pe_int (nomark _)) (pw_or1 (pt_cmpR op_ge (pv 2) (pv 1) (nomark _)))))
    (pss_one (ps_own_raise T.e_NoNumber tk_out))
    pss_nil)
    (pss_one (ps_ret (pv 2))))), ?_⟩)
  · rcases h with ⟨z, ⟨c, b, rfl, _⟩, _⟩ | ⟨e, ⟨c, b, rfl, _⟩, _⟩ <;> rfl
  · rcases h with ⟨z, ⟨c, b, rfl, h1, h2, rfl⟩, k⟩ | ⟨e, ⟨c, b, rfl, h1, rfl⟩, k⟩
    · refine q_asg (v := .int (figI c)) (ev_is (ev_find (a := signs16) ev_c (ev_var rfl)) (congrArg V.int (find_fig c))) fun H1 e1 => ?_
      refine q_when (b := decide (figI c < 0) || decide (b ≤ figI c)) (et_or (et_test (ev_op (ev_var rfl) ev_c rv_I0)) fun _ => et_test (ev_op (ev_var rfl) (ev_var rfl) rv_I0)) (fun ht => ?_) (fun _ H2 e2 => s_ret (ev_var rfl) fun H3 e3 => k H3 ((e1.trans e2).trans e3))
      have a1 : ¬ figI c < 0 := by omega
      have a2 : ¬ b ≤ figI c := by omega
      simp [a1, a2] at ht
    · refine q_asg (v := .int (figI c)) (ev_is (ev_find (a := signs16) ev_c (ev_var rfl)) (congrArg V.int (find_fig c))) fun H1 e1 => ?_
      refine q_when (b := decide (figI c < 0) || decide (b ≤ figI c)) (et_or (et_test (ev_op (ev_var rfl) ev_c rv_I0)) fun _ => et_test (ev_op (ev_var rfl) (ev_var rfl) rv_I0)) (fun _ H2 e2 => k H2 (e1.trans e2)) (fun ht => ?_)
      rw [Bool.or_eq_false_iff] at ht
      have a1 := of_decide_eq_false ht.1
      have a2 := of_decide_eq_false ht.2
      exact absurd ⟨by omega, by omega⟩ h1
/-! ### read -/
/-- the text writes a number in the base -/
def Good (b : Nat) (L : List Nat) : Prop := L ≠ [] ∧ ¬ (1 < L.length ∧ L[0]? = some 48) ∧ Figs b L
def D_read : List V → Hp → V → Prop := fun vs _ z => ∃ (L : List Nat) (b : Nat), vs = [.str (txt L), .int (b : Int)] ∧ 2 ≤ b ∧ b ≤ 16 ∧ L.length ≤ 5000 ∧ Good b L ∧ z = .int ((valN b L : Nat) : Int)
def R_read (NB NN : Addr) : List V → Hp → Addr → Prop := fun vs _ e => ∃ (L : List Nat) (b : Int), vs = [.str (txt L), .int b] ∧ (((b < 2 ∨ 16 < b) ∧ e = NB) ∨ ∃ c : Nat, b = (c : Int) ∧ 2 ≤ c ∧ c ≤ 16 ∧ L.length ≤ 5000 ∧ ¬ Good c L ∧ e = NN)
theorem str_dec {L M : List Nat} : decide (V.str (txt L) = V.str (txt M)) = decide (L = M) := by
  by_cases h : L = M
  · subst h
    simp
  · have h2 : ¬ (V.str (txt L) = V.str (txt M)) := fun q => h (by injection q with q; exact txt_inj q)
    rw [decide_eq_false h, decide_eq_false h2]
theorem O_read (T : Txt K mg NB NN FE LA BA ST) : Own P w K mg base "read" 2 ["line", "base"] (spX D_read (R_read NB NN)) := by
  have O_check_base := O_check_base (P := P) (w := w) (base := base) T
  have O_figure_of := O_figure_of (P := P) (w := w) (base := base) T
  refine own_of T.d_read sc_read (fun vs H Q E h => ?_) (fun f cdv A outer s H vs Q E hr h => ⟨_, (pss_cons (ps_expr (pe_own O_check_base hr (by decide) ps_out (pa_cons (pv 1) pa_nil)))
    (pss_cons (ps_if (pt_cmpR op_eq (pv 0) pe_str (nomark _))
    (pss_one (ps_own_raise T.e_NoNumber tk_out))
    pss_nil)
    (pss_cons (ps_if (PW.pt (pw_and (pt_cmpR op_gt (pe_callB call_len_str (by rfl) T.b_len PySem.boot_len (pa_cons (pv 0) pa_nil)) pe_int (nomark _)) (pw_and1 (pt_cmpR op_eq (pe_ix ix_str (pv 0) pe_int (fun _ _ => rfl)) (pe_ix ix_str (pe_const_str rfl T.g_SIGNS) pe_int (fun _ _ => rfl)) (nomark _)))))
    (pss_one (ps_own_raise T.e_NoNumber tk_out))
    pss_nil)
    (pss_cons (ps_set (i := 2) sc_read.nd rfl (Or.inl rfl) pe_int)
    (pss_cons (ps_for pw rfl (pi_str (pv 0)) (pg_name (i := 3) sc_read.nd rfl (.inl rfl))
    (pss_one (ps_set (i := 2) sc_read.nd rfl (Or.inl rfl) (pe_op op_add (pe_op op_mulW (pv 2) (pv 1)) (pe_own O_figure_of hr (by decide) ps_out (pa_cons (pv 3) (pa_cons (pv 1) pa_nil)))))))
    (pss_one (ps_ret (pv 2)))))))), ?_⟩)
  · rcases h with ⟨z, ⟨L, b, rfl, _⟩, _⟩ | ⟨c, ⟨L, b, rfl, _⟩, _⟩ <;> rfl
  · have hh : (∃ (L : List Nat) (b : Int), vs = [.str (txt L), .int b] ∧ (b < 2 ∨ 16 < b) ∧ ∀ H1, Ex H H1 → E (.ref NB) none H1) ∨
        ∃ (L : List Nat) (b : Nat), vs = [.str (txt L), .int (b : Int)] ∧ 2 ≤ b ∧ b ≤ 16 ∧ L.length ≤ 5000 ∧ (Good b L → RetV (.int ((valN b L : Nat) : Int)) H Q) ∧ (¬ Good b L → ∀ H1, Ex H H1 → E (.ref NN) none H1) := by
      rcases h with ⟨z, ⟨L, b, rfl, hb, hb2, hl, hg, rfl⟩, k⟩ | ⟨c, ⟨L, b, rfl, ⟨hb, rfl⟩ | ⟨b, rfl, hb, hb2, hl, hg, rfl⟩⟩, k⟩
      · exact Or.inr ⟨L, b, rfl, hb, hb2, hl, fun _ => k, fun q => absurd hg q⟩
      · exact Or.inl ⟨L, b, rfl, hb, k⟩
      · exact Or.inr ⟨L, b, rfl, hb, hb2, hl, fun q => absurd q hg, fun _ => k⟩
    clear h
    rcases hh with ⟨L, b, rfl, hb, k⟩ | ⟨L, b, rfl, hb, hb2, hl, kD, kR⟩
    · exact s_err (ea_cons (ev_var rfl) ea_nil) (fun _ _ => ⟨_, rfl, hb, rfl⟩) k
    · refine q_drop (ev_X (ea_cons (ev_var rfl) ea_nil) fun _ _ => ⟨_, rfl, by omega, by omega, rfl⟩) fun H1 e1 => ?_
      have hE : (Str.ofString "") = txt [] := by decide +kernel
      refine q_when (b := decide (L = [])) (et_is (et_test (ev_op (y := .str (txt [])) (ev_var rfl) (ev_is ev_c (congrArg V.str hE)) (rv_eq rfl))) str_dec) (fun ht H2 e2 => kR (fun q => q.1 (of_decide_eq_true ht)) H2 (e1.trans e2)) (fun ht H2 e2 => ?_)
      have hne := of_decide_eq_false ht
      have e2 := e1.trans e2
      have hz : (txt L).length ≤ 100000 := by rw [txt_len]; omega
      obtain ⟨c0, hc0⟩ : ∃ c0, L[0]? = some c0 := by
        cases L with
        | nil => exact absurd rfl hne
        | cons c r => exact ⟨c, rfl⟩
      refine q_when (b := decide (1 < L.length) && decide (c0 = 48)) (et_and (a := decide (1 < L.length)) (et_is (et_test (ev_op (ev_lenS (ev_var rfl) hz) ev_c rv_I0)) (by rw [txt_len]; exact decide_eq_decide.mpr ⟨fun q => by omega, fun q => by omega⟩)) fun _ => et_is (et_test (ev_op (x := .str (txt [c0])) (y := .str (txt [48])) (ev_op (ev_var rfl) ev_c (rv_ixS hz (atI_nat (j := 0) (by rw [txt_codes]; exact hc0)))) (ev_op (x := .str signs16) ev_c ev_c (rv_ixS (by decide +kernel) (by rw [signs16_codes] <;> rfl))) (rv_eq rfl))) (by rw [str_dec]; simp))
        (fun ht H3 e3 => ?_) (fun ht H3 e3 => ?_)
      · rw [Bool.and_eq_true] at ht
        have a1 := of_decide_eq_true ht.1
        have a2 := of_decide_eq_true ht.2
        subst a2
        exact kR (fun q => q.2.1 ⟨a1, hc0⟩) H3 (e2.trans e3)
      · have e3 := e2.trans e3
        have hg2 : ¬ (1 < L.length ∧ L[0]? = some 48) := by
          rintro ⟨a1, a2⟩
          rw [hc0] at a2
          cases a2
          simp [a1] at ht
        refine q_asg ev_c fun H4 e4 => ?_
        refine q_forS (ev_var rfl) (fun i σ' H' => Ex H H' ∧ Figs b (L.take i) ∧ ∃ v : Option V, σ' = [some (.str (txt L)), some (.int (b : Int)), some (.int ((valN b (L.take i) : Nat) : Int)), v]) (fun H5 e5 => ⟨(e3.trans e4).trans e5, (fun c hc => by cases hc), none, rfl⟩) ?_ ?_
        · rintro i c σ' H' hc ⟨e, hf, v, rfl⟩
          rw [txt_codes] at hc
          have hi : i < L.length := (List.getElem?_eq_some_iff.mp hc).1
          have htk : L.take (i + 1) = L.take i ++ [c] := by
            rw [List.take_succ, hc]
            rfl
          have hbig : valN b (L.take i) < 2 ^ (4 * 5000 + 1) := by
            have h1 := valN_lt hb hb2 i (L.take i) (by rw [List.length_take]; omega) hf
            exact Nat.lt_of_lt_of_le h1 (Nat.pow_le_pow_right (by decide) (by omega))
          by_cases hcf : 0 ≤ figI c ∧ figI c < (b : Int)
          · refine s_asg (ev_op (ev_op (ev_var rfl) (ev_var rfl) (rv_I (g := fun i j => .int (i * j)) (wide_mul (a := 4 * 5000 + 1) (b := 5) (by rw [Int.natAbs_natCast]; exact hbig) (by rw [Int.natAbs_natCast]; omega) (by decide) (by decide) (by decide)))) (ev_X (ea_cons (ev_var rfl) (ea_cons (ev_var rfl) ea_nil)) fun _ _ => ⟨c, _, rfl, hcf.1, hcf.2, rfl⟩) rv_I0) fun H5 e5 => ?_
            refine ⟨e.trans e5, ?_, some (.str ⟨#[c]⟩), ?_⟩
            · rw [htk]
              intro d hd
              rcases List.mem_append.mp hd with hd | hd
              · exact hf d hd
              · rw [List.mem_singleton.mp hd]
                exact hcf
            · rw [htk, valN_snoc, Int.natCast_add, Int.natCast_mul, Int.toNat_of_nonneg hcf.1]
              rfl
          · have hng : ¬ Good b L := fun q => hcf (q.2.2 c (List.mem_of_getElem? hc))
            refine (ev_op (ev_var rfl) (ev_var rfl) (rv_I (g := fun i j => .int (i * j)) (wide_mul (a := 4 * 5000 + 1) (b := 5) (by rw [Int.natAbs_natCast]; exact hbig) (by rw [Int.natAbs_natCast]; omega) (by decide) (by decide) (by decide)))) H' (Ex.refl H') _ fun H5 e5 => ?_
            exact e_err (ea_cons (ev_var rfl) (ea_cons (ev_var rfl) ea_nil)) (fun _ _ => ⟨c, _, rfl, hcf, rfl⟩) (fun H6 e6 => kR hng H6 ((e.trans e5).trans e6)) _
        · rintro σ' H' ⟨e, hf, v, rfl⟩
          rw [txt_codes, List.take_length] at hf
          rw [txt_codes, List.take_length]
          exact s_ret (ev_var rfl) fun H5 e5 => kD ⟨hne, hg2, hf⟩ H5 (e.trans e5)
/-! ### _law_cell_at -/
def D_cell (K : PySem.W.Frag) : List V → Hp → V → Prop := fun vs H z => ∃ (a : Addr) (ns : List Int) (k : Int), vs = [.ref a, .int k] ∧ 0 ≤ k ∧ SqL K H a (ns.map V.int) ∧ z = .int (L2.cellOf ns k.toNat)
theorem O__law_cell_at (T : Txt K mg NB NN FE LA BA ST) : Own P w K mg base "_law_cell_at" 1 ["_law_script", "_law_k"] (spD (D_cell K)) := by
  refine own_of T.d__law_cell_at sc__law_cell_at (fun vs H Q E h => ?_) (fun f cdv A outer s H vs Q E hr h => ⟨_, (pss_cons (ps_if (pt_cmpR op_lt (pv 1) (pe_callB call_len_seq (by rfl) T.b_len PySem.boot_len (pa_cons (pv 0) pa_nil)) (nomark _))
    (pss_one (ps_ret (pe_ix ix_list (pv 0) (pv 1) (fun _ _ => rfl))))
    pss_nil)
    (pss_one (ps_ret pe_int))), ?_⟩)
  · obtain ⟨z, ⟨a, ns, k, rfl, _⟩, _⟩ := h
    rfl
  · obtain ⟨z, ⟨a, ns, k, rfl, hk, hS, rfl⟩, q⟩ := h
    obtain ⟨j, rfl⟩ := Int.eq_ofNat_of_zero_le hk
    rw [Int.toNat_natCast] at q
    refine q_when (et_test (ev_op (ev_var rfl) (ev_len (ev_var rfl) hS) rv_I0)) (fun hb H1 e1 => ?_) (fun hb H1 e1 => ?_)
    · have h1 := of_decide_eq_true hb
      rw [List.length_map] at h1
      refine s_ret (ev_op (ev_var rfl) (ev_var rfl) (rv_ixL (ex_l e1 hS) (atI_cell (by omega)))) fun H2 e2 => q H2 (e1.trans e2)
    · have h1 := of_decide_eq_false hb
      rw [List.length_map] at h1
      rw [cell_out (by omega)] at q
      exact s_ret ev_c fun H2 e2 => q H2 (e1.trans e2)
theorem ev_cell {σ : L2.St} {H : Hp} {ta : TA} {E : XK} {a : Addr} {ns : List Int} {k : Int} (hS : SqL K H a (ns.map V.int)) (h : EvA ta σ H [.ref a, .int k]) (hk : 0 ≤ k) : Ev (tCall (spD (D_cell K)) [] E ta) σ H (.int (L2.cellOf ns k.toNat)) :=
  ev_D h fun H1 e1 => ⟨a, ns, k, rfl, hk, ex_l e1 hS, rfl⟩
/-! ### _law_whole -/
def D_whole : List V → Hp → V → Prop := fun vs _ z => ∃ n : Int, vs = [.int n] ∧ z = .bl true
theorem O__law_whole (T : Txt K mg NB NN FE LA BA ST) : Own P w K mg base "_law_whole" 1 ["_law_found"] (spD D_whole) := by
  refine own_of T.d__law_whole sc__law_whole (fun vs H Q E h => ?_) (fun f cdv A outer s H vs Q E hr h => ⟨_, (pss_one (ps_ret (pe_and (pe_callB call_isi (by rfl) T.b_isinstance (by decide +kernel) (pa_cons (pv 0) (pa_cons (pe_bltn (v := .ty "int") rfl T.b_int (by decide +kernel) rfl) pa_nil))) (pe_one (pe_not (pe_callB call_isi (by rfl) T.b_isinstance (by decide +kernel) (pa_cons (pv 0) (pa_cons (pe_bltn (v := .ty "bool") rfl T.b_bool (by decide +kernel) rfl) pa_nil)))))))), ?_⟩)
  · obtain ⟨z, ⟨n, rfl, _⟩, _⟩ := h
    rfl
  · obtain ⟨z, ⟨n, rfl, rfl⟩, q⟩ := h
    refine s_ret (v := .bl true) (ev_is (v := .bl (true && !false)) (ev_andV (ev_isi (x := .int n) (c := .ty "int") (ea_cons (ev_var rfl) (ea_cons ev_c ea_nil)) (.ty "int") (fun _ _ => .base (.int n)) (kit_ty (b := "int") (by decide +kernel))) fun _ => ev_notV (ev_isi (x := .int n) (c := .ty "bool") (ea_cons (ev_var rfl) (ea_cons ev_c ea_nil)) (.ty "bool") (fun _ _ => .base (.int n)) (kit_ty (b := "bool") (by decide +kernel)))) rfl) q
/-! ### _law_sign_by -/
def signsAll : Str := "abcdefghijklmnopqrstuvwxyzABCDEFGHIJKLMNOPQRSTUVWXYZ0123456789" ++ " !\"#$&'()*+,-./:;<=>?\x40[\\]^_`{|}~\n\t"
theorem signsAll_len : signsAll.cps.toList.length = 96 := by decide +kernel
def signAt (c : Int) : Nat := signsAll.cps.toList.getD (c % 96).toNat 0
def D_sign_by : List V → Hp → V → Prop := fun vs _ z => ∃ c : Int, vs = [.int c] ∧ z = .str ⟨#[signAt c]⟩
theorem getD_at {L : List Nat} {i : Int} (h0 : 0 ≤ i) (h : i < (L.length : Int)) : atI L i = some (L.getD i.toNat 0) := by
  obtain ⟨j, rfl⟩ := Int.eq_ofNat_of_zero_le h0
  rw [Int.toNat_natCast]
  have hj : j < L.length := by omega
  exact atI_nat (by rw [List.getD_eq_getElem?_getD, List.getElem?_eq_getElem hj] <;> rfl)
theorem O__law_sign_by (T : Txt K mg NB NN FE LA BA ST) : Own P w K mg base "_law_sign_by" 1 ["_law_cell"] (spD D_sign_by) := by
  refine own_of T.d__law_sign_by sc__law_sign_by (fun vs H Q E h => ?_) (fun f cdv A outer s H vs Q E hr h => ⟨_, (pss_cons (ps_set (i := 1) sc__law_sign_by.nd rfl (Or.inl rfl) pe_str)
    (pss_cons (ps_set (i := 1) sc__law_sign_by.nd rfl (Or.inl rfl) (pe_op op_add_str (pv 1) pe_str))
    (pss_one (ps_ret (pe_ix ix_str (pv 1) (pe_op op_mod (pv 0) pe_int) (fun _ _ => rfl)))))), ?_⟩)
  · obtain ⟨z, ⟨c, rfl, _⟩, _⟩ := h
    rfl
  · obtain ⟨z, ⟨c, rfl, rfl⟩, q⟩ := h
    refine q_asg ev_c fun H1 e1 => ?_
    refine q_asg (v := .str signsAll) (ev_op (ev_var rfl) ev_c (rv_addS (by decide +kernel))) fun H2 e2 => ?_
    have h0 := Int.emod_nonneg c (show (96 : Int) ≠ 0 by decide)
    have h1 := Int.emod_lt_of_pos c (show (0 : Int) < 96 by decide)
    exact s_ret (ev_op (ev_var rfl) (ev_op (ev_var rfl) ev_c (rv_I (g := fun i j => .int (i % j)) (by decide))) (rv_ixS (by decide +kernel) (getD_at h0 (by rw [signsAll_len]; exact h1)))) fun H3 e3 => q H3 ((e1.trans e2).trans e3)
/-! ### _law_line_by: some text, not too long -/
def Pre_line_by (K : PySem.W.Frag) : List V → Hp → Prop := fun vs H => ∃ (a : Addr) (ns : List Int) (b : Nat), vs = [.ref a, .int (b : Int)] ∧ SqL K H a (ns.map V.int) ∧ 2 ≤ b ∧ b ≤ 16
def Post_line : V → Prop := fun z => ∃ x : Str, z = .str x ∧ x.length ≤ 1000
def mostL : List V := [.int 830, .int 523, .int 415, .int 357, .int 321, .int 295, .int 276, .int 261, .int 250, .int 240, .int 231, .int 224, .int 218, .int 212, .int 207]
theorem most_at {b : Nat} (h1 : 2 ≤ b) (h2 : b ≤ 16) : ∃ m : Int, atI mostL ((b : Int) - 2) = some (.int m) ∧ 1 ≤ m ∧ m ≤ 830 := by
  have hb : b = 2 ∨ b = 3 ∨ b = 4 ∨ b = 5 ∨ b = 6 ∨ b = 7 ∨ b = 8 ∨ b = 9 ∨ b = 10 ∨ b = 11 ∨ b = 12 ∨ b = 13 ∨ b = 14 ∨ b = 15 ∨ b = 16 := by omega
  rcases hb with rfl | rfl | rfl | rfl | rfl | rfl | rfl | rfl | rfl | rfl | rfl | rfl | rfl | rfl | rfl <;> exact ⟨_, rfl, by decide, by decide⟩
theorem s17_len : (Str.ofString "0123456789abcdefg").cps.toList.length = 17 := by decide +kernel
theorem s16_len : (Str.ofString "0123456789abcdef").cps.toList.length = 16 := by decide +kernel
theorem one_len (c : Nat) : (⟨#[c]⟩ : Str).length = 1 := rfl
theorem O__law_line_by (T : Txt K mg NB NN FE LA BA ST) : Own P w K mg base "_law_line_by" 2 ["_law_script", "_law_base"] (spN (Pre_line_by K) Post_line) := by
  have O__law_cell_at := O__law_cell_at (P := P) (w := w) (base := base) T
  have O__law_sign_by := O__law_sign_by (P := P) (w := w) (base := base) T
  refine own_of T.d__law_line_by sc__law_line_by (fun vs H Q E h => ?_) (fun f cdv A outer s H vs Q E hr h => ⟨_, (pss_cons (ps_set (i := 2) sc__law_line_by.nd rfl (Or.inl rfl) (pe_op op_mod (pe_own O__law_cell_at hr (by decide) passN (pa_cons (pv 0) (pa_cons pe_int pa_nil))) pe_int))
    (pss_cons (ps_set (i := 3) sc__law_line_by.nd rfl (Or.inl rfl) pe_str)
    (pss_cons (ps_if (pt_cmpR op_lt (pv 2) pe_int (nomark _))
    (pss_cons (ps_for pw rfl (pi_range1 (by rfl) T.b_range (pa_cons (pe_op op_mod (pe_own O__law_cell_at hr (by decide) passN (pa_cons (pv 0) (pa_cons pe_int pa_nil))) pe_int) pa_nil)) (pg_name (i := 4) sc__law_line_by.nd rfl (.inl rfl))
    (pss_one (ps_set (i := 3) sc__law_line_by.nd rfl (Or.inl rfl) (pe_op op_add_str (pv 3) (pe_ix ix_str pe_str (pe_op op_mod (pe_own O__law_cell_at hr (by decide) passN (pa_cons (pv 0) (pa_cons (pe_op op_add pe_int (pv 4)) pa_nil))) (pe_ix ix_list (pe_lst (pa_cons pe_int (pa_cons (pv 1) pa_nil))) (pv 2) (fun _ _ => rfl))) (fun _ _ => rfl))))))
    (pss_cons (ps_if (pt_cmpR op_eq (pv 2) pe_int (nomark _))
    (pss_cons (ps_set (i := 5) sc__law_line_by.nd rfl (Or.inl rfl) (pe_op op_mod (pe_own O__law_cell_at hr (by decide) passN (pa_cons (pv 0) (pa_cons pe_int pa_nil))) (pe_op op_add (pe_callB call_len_str (by rfl) T.b_len PySem.boot_len (pa_cons (pv 3) pa_nil)) pe_int)))
    (pss_one (ps_set (i := 3) sc__law_line_by.nd rfl (Or.inl rfl) (pe_op op_add_str (pe_op op_add_str (pe_slice sl_str (pv 3) po_none (po_some (pv 5))) (pe_own O__law_sign_by hr (by decide) passN (pa_cons (pe_own O__law_cell_at hr (by decide) passN (pa_cons (pv 0) (pa_cons pe_int pa_nil))) pa_nil))) (pe_slice sl_str (pv 3) (po_some (pv 5)) po_none)))))
    pss_nil)
    (pss_one (ps_ret (pv 3)))))
    pss_nil)
    (pss_cons (ps_set (i := 6) sc__law_line_by.nd rfl (Or.inl rfl) (pe_ix ix_list (pe_lst (pa_cons pe_int (pa_cons pe_int (pa_cons pe_int (pa_cons pe_int (pa_cons pe_int (pa_cons pe_int (pa_cons pe_int (pa_cons pe_int (pa_cons pe_int (pa_cons pe_int (pa_cons pe_int (pa_cons pe_int (pa_cons pe_int (pa_cons pe_int (pa_cons pe_int pa_nil)))))))))))))))) (pe_op op_sub (pv 1) pe_int) (fun _ _ => rfl)))
    (pss_cons (ps_set (i := 7) sc__law_line_by.nd rfl (Or.inl rfl) (pe_un un_neg pe_int))
    (pss_cons (ps_if (pt_cmpR op_eq (pe_op op_mod (pe_own O__law_cell_at hr (by decide) passN (pa_cons (pv 0) (pa_cons pe_int pa_nil))) pe_int) pe_int (nomark _))
    (pss_one (ps_set (i := 7) sc__law_line_by.nd rfl (Or.inl rfl) (pe_op op_mod (pe_op op_fdivW (pe_own O__law_cell_at hr (by decide) passN (pa_cons (pv 0) (pa_cons pe_int pa_nil))) pe_int) (pv 6))))
    pss_nil)
    (pss_cons (ps_set (i := 8) sc__law_line_by.nd rfl (Or.inl rfl) (pe_own O__law_cell_at hr (by decide) passN (pa_cons (pv 0) (pa_cons pe_int pa_nil))))
    (pss_cons (ps_for pw rfl (pi_range1 (by rfl) T.b_range (pa_cons (pe_op op_add pe_int (pe_op op_mod (pe_own O__law_cell_at hr (by decide) passN (pa_cons (pv 0) (pa_cons pe_int pa_nil))) (pv 6))) pa_nil)) (pg_name (i := 4) sc__law_line_by.nd rfl (.inl rfl))
    (pss_one (ps_if (pt_cmpR op_eq (pv 4) (pv 7) (nomark _))
    (pss_one (ps_set (i := 3) sc__law_line_by.nd rfl (Or.inl rfl) (pe_op op_add_str (pv 3) (pe_ix ix_str pe_str (pv 1) (fun _ _ => rfl)))))
    (pss_one (ps_set (i := 3) sc__law_line_by.nd rfl (Or.inl rfl) (pe_op op_add_str (pv 3) (pe_ix ix_str pe_str (pe_op op_mod (pe_op op_add (pe_op op_add (pv 8) (pe_op op_mulW (pv 4) (pe_op op_add pe_int (pe_op op_mod (pv 8) pe_int)))) (pe_callTy call_int1 (by rfl) T.b_int (by decide +kernel) (pa_cons (pe_and (pe_cmpR op_eq (pv 4) pe_int (nomark _)) (pe_one (pe_cmpR op_eq (pe_op op_mod (pv 8) (pv 1)) pe_int (nomark _)))) pa_nil))) (pv 1)) (fun _ _ => rfl))))))))
    (pss_one (ps_ret (pv 3))))))))))), ?_⟩)
  · obtain ⟨⟨a, ns, b, rfl, _⟩, _⟩ := h
    rfl
  · obtain ⟨⟨a, ns, b, rfl, hS, hb1, hb2⟩, k⟩ := h
    have cellJ : ∀ {σ : L2.St} {H1 : Hp} {E : XK} {te : TE} {j : Int}, Ex H H1 → σ[0]? = some (some (.ref a)) → Ev te σ H1 (.int j) → 0 ≤ j → Ev (tCall (spD (D_cell K)) [] E (tCons (tVar 0) (tCons te tNil))) σ H1 (.int (L2.cellOf ns j.toNat)) :=
      fun {σ H1 E te j} e hσ he hj => ev_cell (ex_l e hS) (ea_cons (ev_var hσ) (ea_cons he ea_nil)) hj
    have m3 : ∀ c : Int, 0 ≤ c % 3 ∧ c % 3 < 3 := fun c => ⟨Int.emod_nonneg c (by decide), Int.emod_lt_of_pos c (by decide)⟩
    refine q_asg (ev_op (cellJ (j := 1) (Ex.refl H) rfl ev_c (by decide)) ev_c (rv_I (g := fun i j => .int (i % j)) (by decide))) fun H1 e1 => ?_
    generalize hw : L2.cellOf ns (1 : Int).toNat % 3 = way
    have hw3 : 0 ≤ way ∧ way < 3 := hw ▸ m3 _
    refine q_asg ev_c fun H2 e2 => ?_
    have e2 := e1.trans e2
    refine q_when (et_test (ev_op (ev_var rfl) ev_c rv_I0)) (fun ht H3 e3 => ?_) (fun ht H3 e3 => ?_)
    · have hw2 := of_decide_eq_true ht
      have e3 := e2.trans e3
      obtain ⟨m, hm, hm1, hm2⟩ : ∃ m : Int, atI [V.int 16, V.int (b : Int)] way = some (.int m) ∧ 0 < m ∧ m ≤ 16 := by
        have h : way = 0 ∨ way = 1 := by omega
        rcases h with rfl | rfl
        · exact ⟨16, rfl, by decide, by decide⟩
        · exact ⟨b, rfl, by omega, by omega⟩
      have h10 : ∀ c : Int, 0 ≤ c % 10 ∧ c % 10 < 10 := fun c => ⟨Int.emod_nonneg c (by decide), Int.emod_lt_of_pos c (by decide)⟩
      refine q_forR1 (n := L2.cellOf ns (2 : Int).toNat % 10) (ea_cons (ev_op (cellJ (j := 2) e3 rfl ev_c (by decide)) ev_c (rv_I (g := fun i j => .int (i % j)) (by decide))) ea_nil) ⟨(h10 _).1, by have := (h10 (L2.cellOf ns (2 : Int).toNat)).2; omega⟩
        (fun i σ' H' => Ex H H' ∧ i ≤ 10 ∧ ∃ (x : Str) (v : Option V), x.length ≤ i ∧ σ' = [some (.ref a), some (.int (b : Int)), some (.int way), some (.str x), v, none, none, none, none]) (fun H4 e4 => ⟨e3.trans e4, by decide, Str.ofString "", none, by decide +kernel, rfl⟩) ?_ ?_
      · rintro i σ' H' hi ⟨e, hi10, x, v, hx, rfl⟩
        have hi9 := (h10 (L2.cellOf ns (2 : Int).toNat)).2
        have c0 : 0 ≤ L2.cellOf ns (3 + (i : Int)).toNat % m := Int.emod_nonneg _ (by omega)
        have c1 : L2.cellOf ns (3 + (i : Int)).toNat % m < m := Int.emod_lt_of_pos _ hm1
        refine s_asg (ev_op (ev_var rfl) (ev_op ev_c (ev_op (cellJ e rfl (ev_op ev_c (ev_var rfl) rv_I0) (by omega)) (ix_ev (el_lst (ea_cons ev_c (ea_cons (ev_var rfl) ea_nil)) (by show 2 ≤ 100000; decide)) (fun _ _ => ev_var rfl) hm) (rv_I (g := fun i j => .int (i % j)) hm1)) (rv_ixS (by decide +kernel) (getD_at c0 (by rw [s16_len]; omega)))) (rv_addS (by rw [one_len]; omega))) fun H5 e5 => ?_
        exact ⟨e.trans e5, by omega, _, some (.int (i : Int)), by rw [app_len, one_len]; omega, rfl⟩
      · rintro σ' H' ⟨e, hi10, x, v, hx, rfl⟩
        have hxl : x.length ≤ 10 := by omega
        refine q_when (b := decide (way = 1)) (et_is (et_test (ev_op (ev_var rfl) ev_c (rv_eq rfl))) (by by_cases hh : way = 1 <;> simp [hh])) (fun hy H5 e5 => ?_) (fun hy H5 e5 => s_ret (ev_var rfl) fun H6 e6 => k _ ⟨x, rfl, by omega⟩ H6 ((e.trans e5).trans e6))
        have e5 := e.trans e5
        have hl1 : (0 : Int) < (x.length : Int) + 1 := by omega
        refine q_asg (ev_op (cellJ (j := 13) e5 rfl ev_c (by decide)) (ev_op (ev_lenS (ev_var rfl) (by omega)) ev_c rv_I0) (rv_I (g := fun i j => .int (i % j)) hl1)) fun H6 e6 => ?_
        have e6 := e5.trans e6
        generalize L2.cellOf ns (13 : Int).toNat % ((x.length : Int) + 1) = at_
        refine q_asg (ev_op (ev_op (ev_slS (ev_var rfl) eo_none (eo_some (ev_var rfl)) (by omega)) (ev_D (ea_cons (cellJ (j := 14) e6 rfl ev_c (by decide)) ea_nil) fun _ _ => ⟨_, rfl, rfl⟩) (rv_addS (by have := cutS_len x none (some at_); rw [one_len]; omega))) (ev_slS (ev_var rfl) (eo_some (ev_var rfl)) eo_none (by omega)) (rv_addS (by have := cutS_len x none (some at_); have := cutS_len x (some at_) none; rw [app_len, one_len]; omega))) fun H7 e7 => ?_
        exact s_ret (ev_var rfl) fun H8 e8 => k _ ⟨_, rfl, by have := cutS_len x none (some at_); have := cutS_len x (some at_) none; rw [app_len, app_len, one_len]; omega⟩ H8 ((e6.trans e7).trans e8)
    · have e3 := e2.trans e3
      obtain ⟨m, hm, hm1, hm2⟩ := most_at hb1 hb2
      refine q_asg (v := .int m) (ix_ev (xs := mostL) (el_lst (ea_cons ev_c (ea_cons ev_c (ea_cons ev_c (ea_cons ev_c (ea_cons ev_c (ea_cons ev_c (ea_cons ev_c (ea_cons ev_c (ea_cons ev_c (ea_cons ev_c (ea_cons ev_c (ea_cons ev_c (ea_cons ev_c (ea_cons ev_c (ea_cons ev_c ea_nil))))))))))))))) (by decide)) (fun _ _ => ev_op (ev_var rfl) ev_c rv_I0) hm) fun H4 e4 => ?_
      have e4 := e3.trans e4
      refine q_asg (v := .int (-1)) (ev_un ev_c ru_neg) fun H5 e5 => ?_
      have e5 := e4.trans e5
      obtain ⟨bad, hbad⟩ : ∃ bad : Int, (if L2.cellOf ns (3 : Int).toNat % 3 = 1 then L2.cellOf ns (3 : Int).toNat / 3 % m else -1) = bad := ⟨_, rfl⟩
      refine q_ifAsg (b := decide (L2.cellOf ns (3 : Int).toNat % 3 = 1)) (v := .int bad) (et_is (et_test (ev_op (ev_op (cellJ (j := 3) e5 rfl ev_c (by decide)) ev_c (rv_I (g := fun i j => .int (i % j)) (by decide))) ev_c (rv_eq rfl))) (by by_cases hh : L2.cellOf ns (3 : Int).toNat % 3 = 1 <;> simp [hh])) (fun ht => ?_) (fun ht => ?_) fun H6 e6 => ?_
      · rw [if_pos (of_decide_eq_true ht)] at hbad
        exact ev_is (ev_op (ev_op (cellJ (j := 3) e5 rfl ev_c (by decide)) ev_c (rv_I (g := fun i j => .int (i / j)) ⟨by decide, by decide⟩)) (ev_var rfl) (rv_I (g := fun i j => .int (i % j)) (by omega))) (congrArg V.int hbad)
      · rw [if_neg (of_decide_eq_false ht)] at hbad
        subst hbad
        rfl
      have e6 := e5.trans e6
      refine q_asg (cellJ (j := 4) e6 rfl ev_c (by decide)) fun H7 e7 => ?_
      have e7 := e6.trans e7
      generalize L2.cellOf ns (4 : Int).toNat = c4
      have n0 : 0 ≤ L2.cellOf ns (2 : Int).toNat % m := Int.emod_nonneg _ (by omega)
      have n1 : L2.cellOf ns (2 : Int).toNat % m < m := Int.emod_lt_of_pos _ (by omega)
      refine q_forR1 (n := 1 + L2.cellOf ns (2 : Int).toNat % m) (ea_cons (ev_op ev_c (ev_op (cellJ (j := 2) e7 rfl ev_c (by decide)) (ev_var rfl) (rv_I (g := fun i j => .int (i % j)) (by omega))) rv_I0) ea_nil) ⟨by omega, by omega⟩
        (fun i σ' H' => Ex H H' ∧ i ≤ 830 ∧ ∃ (x : Str) (v : Option V), x.length ≤ i ∧ σ' = [some (.ref a), some (.int (b : Int)), some (.int way), some (.str x), v, none, some (.int m), some (.int bad), some (.int c4)]) (fun H8 e8 => ⟨e7.trans e8, by decide, Str.ofString "", none, by decide +kernel, rfl⟩) ?_ ?_
      · rintro i σ' H' hi ⟨e, hi830, x, v, hx, rfl⟩
        refine s_if (b := decide ((i : Int) = bad)) (et_is (et_test (ev_op (ev_var rfl) (ev_var rfl) (rv_eq rfl))) (by by_cases hh : (i : Int) = bad <;> simp [hh])) (fun _ H8 e8 => ?_) (fun _ H8 e8 => ?_)
        · refine s_asg (ev_op (ev_var rfl) (ev_op ev_c (ev_var rfl) (rv_ixS (by decide +kernel) (getD_at (show (0 : Int) ≤ (b : Int) by omega) (by rw [s17_len]; omega)))) (rv_addS (by rw [one_len]; omega))) fun H9 e9 => ?_
          exact ⟨(e.trans e8).trans e9, by omega, _, some (.int (i : Int)), by rw [app_len, one_len]; omega, rfl⟩
        · have s0 := Int.emod_nonneg c4 (show (7 : Int) ≠ 0 by decide)
          have s1 := Int.emod_lt_of_pos c4 (show (0 : Int) < 7 by decide)
          have bpos : (0 : Int) < (b : Int) := by omega
          have hmul : CMulW (i : Int) (1 + c4 % 7) := wide_mul (a := 12) (b := 5) (by rw [Int.natAbs_natCast]; omega) (by omega) (by decide) (by decide) (by decide)
          refine s_asg (ev_op (ev_var rfl) (ev_op ev_c (ev_op (ev_op (ev_op (ev_var rfl) (ev_op (ev_var rfl) (ev_op ev_c (ev_op (ev_var rfl) ev_c (rv_I (g := fun i j => .int (i % j)) (by decide))) rv_I0) (rv_I (g := fun i j => .int (i * j)) hmul)) rv_I0)
            (ev_int1 (ev_andV (ev_op (ev_var rfl) ev_c (rv_eq rfl)) fun _ => ev_op (ev_op (ev_var rfl) (ev_var rfl) (rv_I (g := fun i j => .int (i % j)) bpos)) ev_c (rv_eq rfl))) rv_I0) (ev_var rfl) (rv_I (g := fun i j => .int (i % j)) bpos)) (rv_ixS (by decide +kernel) (getD_at (Int.emod_nonneg _ (by omega)) (by rw [s16_len]; exact Int.lt_of_lt_of_le (Int.emod_lt_of_pos _ bpos) (by omega))))) (rv_addS (by rw [one_len]; omega))) fun H9 e9 => ?_
          exact ⟨(e.trans e8).trans e9, by omega, _, some (.int (i : Int)), by rw [app_len, one_len]; omega, rfl⟩
      · rintro σ' H' ⟨e, hi830, x, v, hx, rfl⟩
        exact s_ret (ev_var rfl) fun H8 e8 => k _ ⟨x, rfl, by omega⟩ H8 (e.trans e8)
/-! ### _law_due_of -/
def D_due : List V → Hp → V → Prop := fun vs _ z => ∃ (L : List Nat) (b : Nat), vs = [.str (txt L), .int (b : Int)] ∧ 2 ≤ b ∧ b ≤ 16 ∧ L.length ≤ 5000 ∧ ((Good b L ∧ z = .int ((valN b L : Nat) : Int)) ∨ (¬ Good b L ∧ z = .int (-1)))
theorem O__law_due_of (T : Txt K mg NB NN FE LA BA ST) : Own P w K mg base "_law_due_of" 1 ["_law_line", "_law_base"] (spD D_due) := by
  refine own_of T.d__law_due_of sc__law_due_of (fun vs H Q E h => ?_) (fun f cdv A outer s H vs Q E hr h => ⟨_, (pss_cons (ps_if (PW.pt (pw_or (pt_cmpR op_eq (pv 0) pe_str (nomark _)) (pw_or1 (PW.pt (pw_and (pt_cmpR op_eq (pe_ix ix_str (pv 0) pe_int (fun _ _ => rfl)) pe_str (nomark _)) (pw_and1 (pt_cmpR op_gt (pe_callB call_len_str (by rfl) T.b_len PySem.boot_len (pa_cons (pv 0) pa_nil)) pe_int (nomark _))))))))
    (pss_one (ps_ret (pe_un un_neg pe_int)))
    pss_nil)
    (pss_cons (ps_set (i := 2) sc__law_due_of.nd rfl (Or.inl rfl) pe_int)
    (pss_cons (ps_for pw rfl (pi_str (pv 0)) (pg_name (i := 3) sc__law_due_of.nd rfl (.inl rfl))
    (pss_cons (ps_set (i := 4) sc__law_due_of.nd rfl (Or.inl rfl) (pe_m1 PySem.F.slot_str_find PySem.F.type_str_find mt_find pe_str (pv 3)))
    (pss_cons (ps_if (PW.pt (pw_or (pt_cmpR op_lt (pv 4) pe_int (nomark _)) (pw_or1 (pt_cmpR op_ge (pv 4) (pv 1) (nomark _)))))
    (pss_one (ps_ret (pe_un un_neg pe_int)))
    pss_nil)
    (pss_one (ps_set (i := 2) sc__law_due_of.nd rfl (Or.inl rfl) (pe_op op_add (pe_op op_mulW (pv 2) (pv 1)) (pv 4)))))))
    (pss_one (ps_ret (pv 2)))))), ?_⟩)
  · obtain ⟨z, ⟨L, b, rfl, _⟩, _⟩ := h
    rfl
  · obtain ⟨L, b, rfl, hb, hb2, hl, kD, kR⟩ : ∃ (L : List Nat) (b : Nat), vs = [.str (txt L), .int (b : Int)] ∧ 2 ≤ b ∧ b ≤ 16 ∧ L.length ≤ 5000 ∧ (Good b L → RetV (.int ((valN b L : Nat) : Int)) H Q) ∧ (¬ Good b L → RetV (.int (-1)) H Q) := by
      obtain ⟨z, ⟨L, b, rfl, hb, hb2, hl, ⟨hg, rfl⟩ | ⟨hg, rfl⟩⟩, q⟩ := h
      · exact ⟨L, b, rfl, hb, hb2, hl, fun _ => q, fun z => absurd hg z⟩
      · exact ⟨L, b, rfl, hb, hb2, hl, fun z => absurd z hg, fun _ => q⟩
    clear h
    have hE : (Str.ofString "") = txt [] := by decide +kernel
    have h0s : (Str.ofString "0") = txt [48] := by decide +kernel
    have hz : (txt L).length ≤ 100000 := by rw [txt_len]; omega
    refine q_when (b := decide (L = []) || (decide (L[0]? = some 48) && decide (1 < L.length))) (et_or (et_is (et_test (ev_op (y := .str (txt [])) (ev_var rfl) (ev_is ev_c (congrArg V.str hE)) (rv_eq rfl))) str_dec) fun hne => ?_) (fun ht H1 e1 => ?_) (fun ht H1 e1 => ?_)
    · have hne := of_decide_eq_false hne
      obtain ⟨d0, hd0⟩ : ∃ c0, L[0]? = some c0 := by
        cases L with
        | nil => exact absurd rfl hne
        | cons c r => exact ⟨c, rfl⟩
      exact et_and (et_is (et_test (ev_op (x := .str (txt [d0])) (y := .str (txt [48])) (ev_op (ev_var rfl) ev_c (rv_ixS hz (atI_nat (j := 0) (by rw [txt_codes]; exact hd0)))) (ev_is ev_c (congrArg V.str h0s)) (rv_eq rfl))) (by rw [str_dec, hd0]; simp)) fun _ => et_is (et_test (ev_op (ev_lenS (ev_var rfl) hz) ev_c rv_I0)) (by rw [txt_len]; exact decide_eq_decide.mpr ⟨fun q => by omega, fun q => by omega⟩)
    · refine s_ret (v := .int (-1)) (ev_un ev_c ru_neg) fun H2 e2 => kR (fun g => ?_) H2 (e1.trans e2)
      rw [Bool.or_eq_true, Bool.and_eq_true] at ht
      rcases ht with ht | ht
      · exact g.1 (of_decide_eq_true ht)
      · exact g.2.1 ⟨of_decide_eq_true ht.2, of_decide_eq_true ht.1⟩
    · rw [Bool.or_eq_false_iff] at ht
      have hne := of_decide_eq_false ht.1
      have hg2 : ¬ (1 < L.length ∧ L[0]? = some 48) := by
        rintro ⟨a1, a2⟩
        have := ht.2
        simp [a1, a2] at this
      refine q_asg ev_c fun H2 e2 => ?_
      have e2 := e1.trans e2
      refine q_forS (ev_var rfl) (fun i σ' H' => Ex H H' ∧ Figs b (L.take i) ∧ ∃ v v2 : Option V, σ' = [some (.str (txt L)), some (.int (b : Int)), some (.int ((valN b (L.take i) : Nat) : Int)), v, v2]) (fun H3 e3 => ⟨e2.trans e3, (fun c hc => by cases hc), none, none, rfl⟩) ?_ ?_
      · rintro i c σ' H' hc ⟨e, hf, v, v2, rfl⟩
        rw [txt_codes] at hc
        have hi : i < L.length := (List.getElem?_eq_some_iff.mp hc).1
        have htk : L.take (i + 1) = L.take i ++ [c] := by
          rw [List.take_succ, hc]
          rfl
        have hbig : valN b (L.take i) < 2 ^ (4 * 5000 + 1) := by
          have h1 := valN_lt hb hb2 i (L.take i) (by rw [List.length_take]; omega) hf
          exact Nat.lt_of_lt_of_le h1 (Nat.pow_le_pow_right (by decide) (by omega))
        refine q_asg (v := .int (figI c)) (ev_is (ev_find (a := signs16) ev_c (ev_var rfl)) (congrArg V.int (find_fig c))) fun H3 e3 => ?_
        have e3 := e.trans e3
        refine q_when (b := decide (figI c < 0) || decide ((b : Int) ≤ figI c)) (et_or (et_test (ev_op (ev_var rfl) ev_c rv_I0)) fun _ => et_test (ev_op (ev_var rfl) (ev_var rfl) rv_I0)) (fun hx H4 e4 => ?_) (fun hx H4 e4 => ?_)
        · refine s_ret (v := .int (-1)) (ev_un ev_c ru_neg) fun H5 e5 => kR (fun g => ?_) H5 ((e3.trans e4).trans e5)
          have hcf := g.2.2 c (List.mem_of_getElem? hc)
          have a1 : ¬ figI c < 0 := by omega
          have a2 : ¬ (b : Int) ≤ figI c := by omega
          simp [a1, a2] at hx
        · rw [Bool.or_eq_false_iff] at hx
          have a1 := of_decide_eq_false hx.1
          have a2 := of_decide_eq_false hx.2
          have hcf : 0 ≤ figI c ∧ figI c < (b : Int) := ⟨by omega, by omega⟩
          refine s_asg (ev_op (ev_op (ev_var rfl) (ev_var rfl) (rv_I (g := fun i j => .int (i * j)) (wide_mul (a := 4 * 5000 + 1) (b := 5) (by rw [Int.natAbs_natCast]; exact hbig) (by rw [Int.natAbs_natCast]; omega) (by decide) (by decide) (by decide)))) (ev_var rfl) rv_I0) fun H5 e5 => ?_
          refine ⟨(e3.trans e4).trans e5, ?_, some (.str ⟨#[c]⟩), some (.int (figI c)), ?_⟩
          · rw [htk]
            intro d hd
            rcases List.mem_append.mp hd with hd | hd
            · exact hf d hd
            · rw [List.mem_singleton.mp hd]
              exact hcf
          · rw [htk, valN_snoc, Int.natCast_add, Int.natCast_mul, Int.toNat_of_nonneg hcf.1]
            rfl
      · rintro σ' H' ⟨e, hf, v, v2, rfl⟩
        rw [txt_codes, List.take_length] at hf
        rw [txt_codes, List.take_length]
        exact s_ret (ev_var rfl) fun H3 e3 => kD ⟨hne, hg2, hf⟩ H3 (e.trans e3)
/-! ### _law_words, called while the error is handled -/
def wordsOf (b0 b1 b2 b3 : Bool) : List Str := (if b0 then [("base" : Str)] else []) ++ (if b1 then [("number" : Str)] else []) ++ (if b2 then [("late" : Str)] else []) ++ (if b3 then [("bare" : Str)] else [])
def spWords (K : PySem.W.Frag) (NB NN LA BA FE : Addr) : Addr → Addr → Sp := fun a D vs H Q _ => vs = [.ref a] ∧ ∃ b0 b1 b2 b3, ErrFacts K D NB NN LA BA FE b0 b1 b2 b3 ∧ (b0 || b1 || b2 || b3) = true ∧ RetL ((wordsOf b0 b1 b2 b3).map V.str) H Q
def bitAt (b0 b1 b2 b3 : Bool) (i : Nat) : Bool := if i = 0 then b0 else if i = 1 then b1 else if i = 2 then b2 else b3
def wordAt (i : Nat) : V := if i = 0 then .str "base" else if i = 1 then .str "number" else if i = 2 then .str "late" else .str "bare"
theorem words_given (b0 b1 b2 b3 : Bool) : given 4 (bitAt b0 b1 b2 b3) wordAt = (wordsOf b0 b1 b2 b3).map V.str := by
  cases b0 <;> cases b1 <;> cases b2 <;> cases b3 <;> rfl
theorem words_ne {b0 b1 b2 b3 : Bool} (h : (b0 || b1 || b2 || b3) = true) : PyData.eqv (.list ((wordsOf b0 b1 b2 b3).map PyData.str)) (.list []) = false ∧ SeqAt.shaped (.list ((wordsOf b0 b1 b2 b3).map PyData.str)) = true := by
  cases b0 <;> cases b1 <;> cases b2 <;> cases b3 <;> first | (cases h; done) | exact ⟨by decide +kernel, by decide +kernel⟩
theorem E__law_words (T : Txt K mg NB NN FE LA BA ST) : OwnE P w K mg base "_law_words" 1 ["_law_e"] (spWords K NB NN LA BA FE) := by
  obtain ⟨fa, fd, F, hm, hbn⟩ := T.d__law_words.ex
  refine ⟨fa, fd, BFH.fnE_of F sc__law_words (fun a D vs H Q E h => ?_) (fun cdv A outer s H vs Q E p D hot1 hz hr h => ?_), hm, F.kp, .all hbn⟩
  · obtain ⟨rfl, _⟩ := h
    rfl
  obtain ⟨rfl, b0, b1, b2, b3, C, hany, q⟩ := h
  have xc := C.xc
  have hf : ∃ vs, p.2.data = .fields vs := ⟨hot1.2.choose, hot1.2.choose_spec.1⟩
  have hot : L2H.HotC (L2H.cxH (L2N.CX P w) P w K mg base ["_law_e", "_law_some", "_law_found", "_law_word", "_law_fits"] "_law_words" (defScope s__law_words) fa cdv A outer s H E p) := ⟨p, hot1, List.mem_singleton_self p⟩
  have hu : (A.deeper (PyProof.Rows.envOfC "_law_words" (defScope s__law_words) s.heap.objs.size fa cdv)).units + 64 < cLine := by
    have := hr.un
    omega
  refine ⟨_, (pss_cons (ps_set (i := 1) sc__law_words.nd rfl (Or.inl rfl) (pe_lst (pa_cons (pe_tup (pa_cons pe_str (pa_cons (pe_callB (show CallR _ (.builtin "isinstance") (rIsE K D p.1) from BFH.call_isP (p := p) (List.mem_singleton_self p) xc hz hf) (by rfl) T.b_isinstance (by decide +kernel) (pa_cons (pv 0) (pa_cons (pe_glob (v := .ref NB) rfl T.e_NoBase.g rfl) pa_nil))) pa_nil))) (pa_cons (pe_tup (pa_cons pe_str (pa_cons (pe_callB (show CallR _ (.builtin "isinstance") (rIsE K D p.1) from BFH.call_isP (p := p) (List.mem_singleton_self p) xc hz hf) (by rfl) T.b_isinstance (by decide +kernel) (pa_cons (pv 0) (pa_cons (pe_glob (v := .ref NN) rfl T.e_NoNumber.g rfl) pa_nil))) pa_nil))) (pa_cons (pe_tup (pa_cons pe_str (pa_cons (pe_callB (show CallR _ (.builtin "isinstance") (rIsE K D p.1) from BFH.call_isP (p := p) (List.mem_singleton_self p) xc hz hf) (by rfl) T.b_isinstance (by decide +kernel) (pa_cons (pv 0) (pa_cons (pe_glob (v := .ref LA) rfl T.e_Late.g rfl) pa_nil))) pa_nil))) pa_nil)))))
    (pss_cons (ps_expr (pe_bm PySem.F.plainAttrs_list PySem.F.slot_list_append PySem.F.type_list_append mt_append (pv 1) (pa_cons (pe_tup (pa_cons pe_str (pa_cons (pe_callB (show CallR _ (.builtin "isinstance") (rIsE K D p.1) from BFH.call_isP (p := p) (List.mem_singleton_self p) xc hz hf) (by rfl) T.b_isinstance (by decide +kernel) (pa_cons (pv 0) (pa_cons (pe_glob (v := .ref BA) rfl T.e_Bare.g rfl) pa_nil))) pa_nil))) pa_nil)))
    (pss_cons (BFH.ps_setLcH (i := 2) (own := [("_law_word", 3), ("_law_fits", 4)]) (g := gTup K 2 (gCons (gName 3) (gCons (gName 4) (gNil)))) hot sc__law_words.nd rfl rfl (sw_true rfl rfl rfl (by decide +kernel)) (BFH.pi_listH (pv 1)) (blkOk_by (own := [("_law_word", 3), ("_law_fits", 4)]) (N := ["_law_e", "_law_some", "_law_found", "_law_word", "_law_fits"]) (sc := defScope s__law_words) (by decide +kernel)) (fun _ _ _ _ _ => (BFH.pg_tupH hot (pgs_cons (pg_name (i := 3) sc__law_words.nd rfl (.inl rfl)) (pgs_cons (pg_name (i := 4) sc__law_words.nd rfl (.inl rfl)) pgs_nil)))) (fun _ _ _ _ _ => (pts_one (PW.pt (pw_and (pt_val (pv 4)) (pw_and1 (pt_val (pe_callB (show CallR _ (.builtin "isinstance") (rIsE K D p.1) from BFH.call_isP (p := p) (List.mem_singleton_self p) xc hz hf) (by rfl) T.b_isinstance (by decide +kernel) (pa_cons (pv 0) (pa_cons (pe_bltn (v := .ty "ValueError") rfl T.b_ValueError (by decide +kernel) rfl) pa_nil))))))))) (fun _ _ _ _ _ => (pv 3)))
    (pss_cons (ps_if (pt_cmpR (show OpR _ (compareOp .Eq) (rEqD K) from op_eqD hu) (pv 2) (pe_lst pa_nil) (nomark _))
    (pss_one (ps_ret (pe_lst (pa_cons pe_str pa_nil))))
    pss_nil)
    (pss_one (ps_ret (pv 2))))))), ?_⟩
  have eu : ∀ (wd : Str) (c : V) (cv : Value) (b : Bool) (σ : L2.St) (H : Hp), σ[0]? = some (some (.ref p.1)) → (∀ u, RelV c u → u = cv) → PySem.W.kitOne K (.ref D) cv = some b → EvU (tTup (tCons (tC (.str wd)) (tCons (tCB (rIsE K D p.1) (tCons (tVar 0) (tCons (tC c) tNil))) tNil))) σ H [.str wd, .bl b] :=
    fun wd c cv b σ H hσ hc hk => eu_tup (ea_cons ev_c (ea_cons (BFH.ev_isE (ea_cons (ev_var hσ) (ea_cons ev_c ea_nil)) hc hk) ea_nil)) (by show 2 ≤ 100000; decide)
  refine q_asgTs (xss := [[.str "base", .bl b0], [.str "number", .bl b1], [.str "late", .bl b2]]) (ets_cons (eu _ (.ref NB) _ b0 _ _ rfl (fun _ r => r) C.k0) (ets_cons (eu _ (.ref NN) _ b1 _ _ rfl (fun _ r => r) C.k1) (ets_cons (eu _ (.ref LA) _ b2 _ _ rfl (fun _ r => r) C.k2) ets_nil))) (by show 3 ≤ 100000; decide) fun l ps H3 nl e3 hl3 tp => ?_
  obtain ⟨p0, p1, p2, rfl, h0, h1, h2⟩ : ∃ p0 p1 p2, ps = [.ref p0, .ref p1, .ref p2] ∧ H3 p0 = some (.tup [.str "base", .bl b0]) ∧ H3 p1 = some (.tup [.str "number", .bl b1]) ∧ H3 p2 = some (.tup [.str "late", .bl b2]) := by
    match ps, tp with
    | [_, _, _], ⟨⟨p0, rfl, h0⟩, ⟨p1, rfl, h1⟩, ⟨p2, rfl, h2⟩, _⟩ => exact ⟨p0, p1, p2, rfl, h0, h1, h2⟩
  refine q_appU (l := l) (xs := [.ref p0, .ref p1, .ref p2]) hl3 (ev_var rfl) (eu "bare" (.ref BA) _ b3 _ _ rfl (fun _ r => r) C.k3) (by show 3 < 100000; decide) fun p3 H4 n3 e4 h3 => ?_
  have a0 := e4 _ _ h0
  have a1 := e4 _ _ h1
  have a2 := e4 _ _ h2
  have al := e4 _ _ hl3
  have c0 : (upd H4 l (.lst [.ref p0, .ref p1, .ref p2, .ref p3])) p0 = some (.tup [.str "base", .bl b0]) := (upd_ne (ne_of a0 al (by intro z; cases z))).trans a0
  have c1 : (upd H4 l (.lst [.ref p0, .ref p1, .ref p2, .ref p3])) p1 = some (.tup [.str "number", .bl b1]) := (upd_ne (ne_of a1 al (by intro z; cases z))).trans a1
  have c2 : (upd H4 l (.lst [.ref p0, .ref p1, .ref p2, .ref p3])) p2 = some (.tup [.str "late", .bl b2]) := (upd_ne (ne_of a2 al (by intro z; cases z))).trans a2
  have c3 : (upd H4 l (.lst [.ref p0, .ref p1, .ref p2, .ref p3])) p3 = some (.tup [.str "bare", .bl b3]) := (upd_ne (ne_of h3 al (by intro z; cases z))).trans h3
  have cl : (upd H4 l (.lst [.ref p0, .ref p1, .ref p2, .ref p3])) l = some (.lst [.ref p0, .ref p1, .ref p2, .ref p3]) := upd_same
  have xH : Ex H (upd H4 l (.lst [.ref p0, .ref p1, .ref p2, .ref p3])) := Ex.mut (e3.trans e4) nl
  show tSeq _ _ _ _ (upd H4 l (.lst [.ref p0, .ref p1, .ref p2, .ref p3]))
  generalize upd H4 l (.lst [.ref p0, .ref p1, .ref p2, .ref p3]) = H5 at c0 c1 c2 c3 cl xH ⊢
  have turn : ∀ (i : Nat) (pi : Addr) (wd : Str) (b : Bool) (H' : Hp) (Dl : Addr), H5 pi = some (.tup [.str wd, .bl b]) → bitAt b0 b1 b2 b3 i = b → wordAt i = .str wd → i < 50000 → Cw H5 (bitAt b0 b1 b2 b3) wordAt Dl i H' →
      gTup K 2 (gCons (gName 3) (gCons (gName 4) gNil)) (.ref pi) (wipe [some (.ref p.1), some (.ref l), none, none, none] [3, 4]) H' fun σ2 H2 => wipe σ2 [3, 4] = wipe [some (.ref p.1), some (.ref l), none, none, none] [3, 4] ∧ tAnd (tB (tVar 4)) (tB (tCB (rIsE K D p.1) (tCons (tVar 0) (tCons (tC (.ty "ValueError")) tNil)))) σ2 H2 fun b H3 =>
        if b = true then (tVar 3) σ2 H3 fun y H4 => ∃ acc, H4 Dl = some (.lst acc) ∧ acc.length < sizeLine ∧ Cw H5 (bitAt b0 b1 b2 b3) wordAt Dl (i + 1) (upd H4 Dl (.lst (acc ++ [y]))) else Cw H5 (bitAt b0 b1 b2 b3) wordAt Dl (i + 1) H3 := by
    intro i pi wd b H' Dl hp hb hw hi cw
    refine ⟨pi, _, rfl, st_of (cw.2.1 _ _ hp), rfl, _, _, rfl, _, _, rfl, rfl, rfl, ?_⟩
    refine cw_turn cw hi (et_is (et_and (et_B (ev_var rfl)) fun _ => et_B (BFH.ev_isE (ea_cons (ev_var rfl) (ea_cons ev_c ea_nil)) (fun _ r => r) C.kv)) (by rw [hb, Bool.and_true])) (fun _ => ?_)
    rw [hw]
    exact ev_var rfl
  refine ⟨_, rfl, l, rfl, ⟨_, sq_of cl⟩, fun Dl hD => lc_list (xs := [.ref p0, .ref p1, .ref p2, .ref p3]) (Cw H5 (bitAt b0 b1 b2 b3) wordAt Dl) ⟨hD, Ex.new hD, upd_same⟩ (fun i H' _ cw => sq_of (cw.2.1 _ _ cl)) (fun i x H' hi cw => ?_) (fun H' cw => ?_)⟩
  · match i, hi with
    | 0, hi => cases hi; exact turn 0 p0 _ b0 H' Dl c0 rfl rfl (by decide) cw
    | 1, hi => cases hi; exact turn 1 p1 _ b1 H' Dl c1 rfl rfl (by decide) cw
    | 2, hi => cases hi; exact turn 2 p2 _ b2 H' Dl c2 rfl rfl (by decide) cw
    | 3, hi => cases hi; exact turn 3 p3 _ b3 H' Dl c3 rfl rfl (by decide) cw
    | n + 4, hi => cases hi
  · obtain ⟨g1, g2, g3⟩ := cw
    have g3 : H' Dl = some (.lst ((wordsOf b0 b1 b2 b3).map V.str)) := by rw [← words_given]; exact g3
    have wn := words_ne hany
    refine q_when (b := false) (et_is (et_test (ev_opL (x := .ref Dl) (ev_var rfl) (el_lst ea_nil (Nat.zero_le _)) fun r H7 hr7 e7 => rv_eqD (fun H8 e8 => .lst (sq_of (e8 _ _ (e7 _ _ g3))) (dpAll_strs K H8 _)) (fun H8 e8 => .lst (sq_of (e8 _ _ hr7)) .nil) wn.2 (by decide +kernel))) wn.1) (fun ht => nomatch ht) (fun _ H7 e7 => ?_)
    exact s_ret (ev_var rfl) fun H8 e8 => q Dl H8 (fresh_back xH g1) (((xH.trans g2).trans e7).trans e8) (e8 _ _ (e7 _ _ g3))
/-! ### _law_refused_by_any -/
def D_refused : List V → Hp → V → Prop := fun vs _ z => ∃ (L : List Nat) (b : Nat), vs = [.str (txt L), .int (b : Int)] ∧ 2 ≤ b ∧ b ≤ 16 ∧ L.length ≤ 5000 ∧ ¬ Good b L ∧ z = .bl true
theorem O__law_refused_by_any (T : Txt K mg NB NN FE LA BA ST) : Own P w K mg base "_law_refused_by_any" 3 ["_law_line", "_law_base"] (spD D_refused) := by
  have O_read := O_read (P := P) (w := w) (base := base) T
  have O__law_words := E__law_words (P := P) (w := w) (base := base) T
  refine own_of T.d__law_refused_by_any sc__law_refused_by_any (fun vs H Q E h => ?_) (fun f cdv A outer s H vs Q E hr h => ⟨_, (pss_cons (L2N.ps_try_as (i := 2) rfl rfl sc__law_refused_by_any.nd rfl rfl ⟨rfl, by decide, .inl T.e_FallError.g⟩ tk_none (fun W pn xe tk pwt =>
    (pss_one (ps_expr (pe_ownT O_read hr (by decide) tk (pa_cons (pv 0) (pa_cons (pv 1) pa_nil))))))
    (fun a oe cls d pn hz hf =>
    (pss_one (ps_ret (pe_cmpR (show OpR _ (compareOp .Eq) (rEqD K) from op_eqD hr.units) (pe_ownE O__law_words hz hf hr (by decide) (pa_cons (pv 2) pa_nil)) (pe_lst (pa_cons pe_str pa_nil)) (nomark _))))))
    (pss_one (ps_ret pe_bl))), ?_⟩)
  · obtain ⟨z, ⟨L, b, rfl, _⟩, _⟩ := h
    rfl
  · obtain ⟨z, ⟨L, b, rfl, hb, hb2, hl, hg, rfl⟩, q⟩ := h
    refine e_errS (ea_cons (ev_var rfl) (ea_cons (ev_var rfl) ea_nil)) (fun _ _ => ⟨L, b, rfl, Or.inr ⟨b, rfl, hb, hb2, hl, hg, rfl⟩⟩) (fun H1 e1 => ?_) _
    refine ⟨true, T.f_NoNumber.fe, fun _ a ha => ?_, fun z => Bool.noConfusion z⟩
    refine ⟨_, rfl, NN, rfl, rfl, rfl, false, true, false, false, T.f_NoNumber, rfl, fun l H2 nl e2 hl2 => ?_⟩
    refine (el_lst (ea_cons ev_c ea_nil) (by decide)) H2 (Ex.refl H2) _ fun l2 H3 nl2 e3 hl3 => ?_
    refine ⟨.list [.str "number"], .list [.str "number"], .lst (sq_of (e3 _ _ hl2)) (.cons (.str _) .nil), .lst (sq_of hl3) (.cons (.str _) .nil), by decide +kernel, by decide +kernel, ?_⟩
    have he : PyData.eqv (.list [.str "number"]) (.list [.str "number"]) = true := by decide +kernel
    rw [he]
    exact q H3 ((e1.trans e2).trans e3)
def spLaw (K : PySem.W.Frag) : Sp := fun vs H Q _ => ∃ (a : Addr) (ns : List Int), vs = [.ref a] ∧ SqL K H a (ns.map V.int) ∧ ns.length ≤ 63 ∧ ∀ H', Q (.bl true) H'
theorem ok_law (T : Txt K mg NB NN FE LA BA ST) {fa : Addr} {fd : FuncData} (F : Fun K "law" "law" s_law fa fd) : FnOk P w K mg base (L2N.CX P w) 4 fa fd ["_law_script"] (spLaw K) := by
  have O__law_line_by := O__law_line_by (P := P) (w := w) (base := base) T
  have O__law_due_of := O__law_due_of (P := P) (w := w) (base := base) T
  have O_read := O_read (P := P) (w := w) (base := base) T
  have O__law_whole := O__law_whole (P := P) (w := w) (base := base) T
  have O__law_cell_at := O__law_cell_at (P := P) (w := w) (base := base) T
  have O__law_refused_by_any := O__law_refused_by_any (P := P) (w := w) (base := base) T
  refine okN F sc_law (fun vs H Q E h => ?_) (fun cdv A outer s H vs Q E hr h => ⟨_, (pss_cons (ps_set (i := 1) sc_law.nd rfl (Or.inl rfl) (pe_op op_add pe_int (pe_op op_mod (pe_own O__law_cell_at hr (by decide) passN (pa_cons (pv 0) (pa_cons pe_int pa_nil))) pe_int)))
    (pss_cons (ps_set (i := 2) sc_law.nd rfl (Or.inl rfl) (pe_own O__law_line_by hr (by decide) passN (pa_cons (pv 0) (pa_cons (pv 1) pa_nil))))
    (pss_cons (ps_set (i := 3) sc_law.nd rfl (Or.inl rfl) (pe_own O__law_due_of hr (by decide) passN (pa_cons (pv 2) (pa_cons (pv 1) pa_nil))))
    (pss_cons (ps_set (i := 4) sc_law.nd rfl (Or.inl rfl) pe_bl)
    (pss_cons (ps_set (i := 5) sc_law.nd rfl (Or.inl rfl) pe_non)
    (pss_cons (L2N.ps_try_many rfl rfl tk_none (fun W pn xe tk pwt =>
    (pss_one (ps_set (i := 5) sc_law.nd rfl (Or.inl rfl) (pe_ownT O_read hr (by decide) tk (pa_cons (pv 2) (pa_cons (pv 1) pa_nil))))))
    (.cons ⟨rfl, by decide, .inl T.e_NoNumber.g⟩ (fun a oe cls d pn hz hf =>
    (pss_one (ps_set (i := 4) sc_law.nd rfl (Or.inl rfl) pe_bl))) .nil))
    (pss_cons (ps_if (pt_cmpR op_lt (pv 3) pe_int (nomark _))
    (pss_one (ps_ret (pe_and (pv 4) (pe_one (pe_own O__law_refused_by_any hr (by decide) passN (pa_cons (pv 2) (pa_cons (pv 1) pa_nil)))))))
    pss_nil)
    (pss_one (ps_ret (pe_and (pe_not (pv 4)) (pe_and (pe_own O__law_whole hr (by decide) passN (pa_cons (pv 5) pa_nil)) (pe_one (pe_cmpR op_eq (pv 5) (pv 3) (nomark _)))))))))))))), ?_⟩)
  · obtain ⟨a, ns, rfl, _⟩ := h
    rfl
  · obtain ⟨a, ns, rfl, hS, hlen, k⟩ := h
    have cell : ∀ {i : Int} {c : Int}, L2.cellOf ns i.toNat = c → 0 ≤ i → ∀ {σ : L2.St} {H1 : Hp} {E : XK}, Ex H H1 → σ[0]? = some (some (.ref a)) → Ev (tCall (spD (D_cell K)) [] E (tCons (tVar 0) (tCons (tC (.int i)) tNil))) σ H1 (.int c) :=
      fun {i c} hc hi {σ H1 E} e hσ => hc ▸ ev_cell (ex_l e hS) (ea_cons (ev_var hσ) (ea_cons ev_c ea_nil)) hi
    generalize hc0 : L2.cellOf ns (0 : Int).toNat = c0
    have m15 := Int.emod_nonneg c0 (show (15 : Int) ≠ 0 by decide)
    have l15 := Int.emod_lt_of_pos c0 (show (0 : Int) < 15 by decide)
    obtain ⟨b, hb⟩ : ∃ b : Nat, 2 + c0 % 15 = (b : Int) := Int.eq_ofNat_of_zero_le (by omega)
    have hb1 : 2 ≤ b := by omega
    have hb2 : b ≤ 16 := by omega
    refine q_asg (v := .int (b : Int)) (ev_is (ev_op ev_c (ev_op (cell hc0 (by decide) (Ex.refl H) rfl) ev_c (rv_I (g := fun i j => .int (i % j)) (by decide))) rv_I0) (congrArg V.int hb)) fun H1 e1 => ?_
    refine q_asgN (ea_cons (ev_var rfl) (ea_cons (ev_var rfl) ea_nil)) (fun H2 e2 => ⟨a, ns, b, rfl, ex_l (e1.trans e2) hS, hb1, hb2⟩) fun z hz H2 e2 => ?_
    obtain ⟨x, rfl, hx⟩ := hz
    obtain ⟨L, rfl⟩ : ∃ L, x = txt L := ⟨_, txt_of x⟩
    rw [txt_len] at hx
    have hl : L.length ≤ 5000 := by omega
    by_cases hg : Good b L
    · refine q_asg (ev_D (ea_cons (ev_var rfl) (ea_cons (ev_var rfl) ea_nil)) fun _ _ => ⟨L, b, rfl, hb1, hb2, hl, Or.inl ⟨hg, rfl⟩⟩) fun H3 e3 => ?_
      refine q_asg ev_c fun H4 e4 => ?_
      refine q_asg ev_c fun H5 e5 => ?_
      refine s_asg (ev_XS (ea_cons (ev_var rfl) (ea_cons (ev_var rfl) ea_nil)) fun _ _ => ⟨L, b, rfl, hb1, hb2, hl, hg, rfl⟩) fun H6 e6 => ?_
      refine q_when (b := false) (et_is (et_test (ev_op (ev_var rfl) ev_c rv_I0)) (decide_eq_false (by omega))) (fun ht => nomatch ht) (fun _ H7 e7 => ?_)
      refine s_ret (v := .bl true) (ev_is (ev_andV (ev_notV (ev_var rfl)) fun _ => ev_andV (ev_D (ea_cons (ev_var rfl) ea_nil) fun _ _ => ⟨_, rfl, rfl⟩) fun _ => ev_op (ev_var rfl) (ev_var rfl) (rv_eq rfl)) ?_) fun H8 _ => k H8
      simp
    · refine q_asg (ev_D (ea_cons (ev_var rfl) (ea_cons (ev_var rfl) ea_nil)) fun _ _ => ⟨L, b, rfl, hb1, hb2, hl, Or.inr ⟨hg, rfl⟩⟩) fun H3 e3 => ?_
      refine q_asg ev_c fun H4 e4 => ?_
      refine q_asg ev_c fun H5 e5 => ?_
      refine e_errS (ea_cons (ev_var rfl) (ea_cons (ev_var rfl) ea_nil)) (fun _ _ => ⟨L, b, rfl, Or.inr ⟨b, rfl, hb1, hb2, hl, hg, rfl⟩⟩) (fun H6 e6 => ?_) _
      refine ⟨true, T.x_NoNumber, fun _ _ _ => ?_, fun z => Bool.noConfusion z⟩
      refine s_asg (v := .bl true) ev_c fun H7 e7 => ?_
      refine q_when (b := true) (et_is (et_test (ev_op (ev_var rfl) ev_c rv_I0)) (decide_eq_true (by decide))) (fun _ H8 e8 => ?_) (fun ht => nomatch ht)
      refine s_ret (v := .bl true) (ev_is (ev_andV (ev_var rfl) fun _ => ev_D (ea_cons (ev_var rfl) (ea_cons (ev_var rfl) ea_nil)) fun _ _ => ⟨L, b, rfl, hb1, hb2, hl, hg, rfl⟩) ?_) fun H9 _ => k H9
      rfl
end
theorem all_mk {l : PySem.W.OpenLaw} {w : World} {K : PySem.W.Frag} {mg : Str → Option Value} {fa : Addr} (hfa : mg "law" = some (.ref fa)) {NB NN FE LA BA ST : Addr} (T : Txt K mg NB NN FE LA BA ST) (d : DefAt K mg "law" s_law ["_law_script"]) :
    ∃ fd : FuncData, (∀ (s : Shared) (v : Value), BindsTo s fd ⟨[v], []⟩ [("_law_script", v)]) ∧ ∀ base : Heap, K.In base → base.Ns mainGlobals mg → FnOk l.prog w K mg base (L2N.CX l.prog w) 4 fa fd ["_law_script"] (spLaw K) := by
  obtain ⟨f, fd, F, hm, hb⟩ := d.ex
  have e := hfa.symm.trans hm
  cases e
  exact ⟨fd, fun s v => .of_eq (hb [v] rfl), fun base _ _ => ok_law T F⟩
theorem walk {l : PySem.W.OpenLaw} {q : Program} {loose : List Str} {XP : (Str → Option Value) → Heap → Prop} {YP : World → Heap → Prop} {d : DefRec} {K : Params → PySem.W.Frag} (hn : l.most = some 63) (hdf : d.params.defaults = [])
    (hY : ∀ (w : World) (h : Heap), YP w h → (K w.params).In h)
    (F : ∀ (w : World) (mg : Str → Option Value) (fa : Addr) (h : Heap), (K w.params).In h → h.Ns mainGlobals mg → mg d.name = some (.ref fa) →
      ∃ fd : FuncData, (∀ (s : Shared) (u : Value), BindsTo s fd ⟨[u], []⟩ [("_law_script", u)]) ∧ ∀ base : Heap, (K w.params).In base → base.Ns mainGlobals mg → FnOk l.prog w (K w.params) mg base (L2N.CX l.prog w) 4 fa fd ["_law_script"] (spLaw (K w.params))) :
    PySem.W.WalkO q loose XP YP l.row.toRowW d [] (fun f vs => PySem.call f vs) :=
  L2.walk_of (n := 63) (k := 4) (x := "_law_script") (CX := fun w => L2N.CX l.prog w) (sp := fun w => spLaw (K w.params)) hn (by decide) hdf ⟨rfl, by decide, by decide⟩ hY F (fun _ _ a ns hl _ hS => ⟨a, ns, rfl, hS, hl, fun _ => rfl⟩) fun w H s e s' z => noCX l.prog w H s e s' z
end BF
open PySem PySem.W PyProof.Rows in
set_option maxRecDepth 100000 in
set_option maxHeartbeats 0 in
theorem PySem.Challenge.cw_bucketfall_k04_read_holds : PySem.Challenge.rw_bucketfall_k04_read.Holds := by
  w_on; o_law; k_head; (case hw => w_witness2)
  k_fill
  refine BF.walk (l := PySem.Challenge.rw_bucketfall_k04_read) rfl rfl (fun w h Y => PySem.W.kIn_of Y) ?F
  case F =>
    intro w mg fa h KX G hmg
    refine' BF.all_mk hmg (NB := ?C_NB) (NN := ?C_NN) (FE := ?C_FE) (LA := ?C_LA) (BA := ?C_BA) (ST := 0) ⟨BF.ErrAt.mk (PySem.W.mg_of KX G ?g_FallError) ?x_FallError ?k_FallError ?b_FallError ?t_FallError, BF.ErrAt.mk (PySem.W.mg_of KX G ?g_NoBase) ?x_NoBase ?k_NoBase ?b_NoBase ?t_NoBase, BF.ErrAt.mk (PySem.W.mg_of KX G ?g_NoNumber) ?x_NoNumber ?k_NoNumber ?b_NoNumber ?t_NoNumber, BF.ErrAt.mk (PySem.W.mg_of KX G ?g_Late) ?x_Late ?k_Late ?b_Late ?t_Late, BF.ErrAt.mk (PySem.W.mg_of KX G ?g_Bare) ?x_Bare ?k_Bare ?b_Bare ?t_Bare, BF.const_mk KX G ?c_LEAST_BASE ?v_LEAST_BASE, BF.const_mk KX G ?c_MOST_BASE ?v_MOST_BASE, BF.constS_mk KX G ?c_SIGNS ?v_SIGNS, PySem.W.mg_none_of KX G ?z_len, PySem.W.mg_none_of KX G ?z_isinstance, PySem.W.mg_none_of KX G ?z_int, PySem.W.mg_none_of KX G ?z_bool, PySem.W.mg_none_of KX G ?z_range, PySem.W.mg_none_of KX G ?z_ValueError, ?d_check_base, ?d_figure_of, ?d_read, ?d__law_cell_at, ?d__law_whole, ?d__law_sign_by, ?d__law_line_by, ?d__law_due_of, ?d__law_words, ?d__law_refused_by_any, BF.ErrFacts.mk ⟨?xhg_NoBase, ?xhk_NoBase, ?xhs_NoBase, ?xhd_NoBase, ?xha_NoBase, ?xhn_NoBase, ?xht_NoBase, ?xhm_NoBase⟩ ?k0_NoBase ?k1_NoBase ?k2_NoBase ?k3_NoBase ?kv_NoBase (PySem.W.exm_ref ?fs_NoBase ?fd_NoBase ?ft_NoBase ?fq_NoBase), BF.ErrFacts.mk ⟨?xhg_NoNumber, ?xhk_NoNumber, ?xhs_NoNumber, ?xhd_NoNumber, ?xha_NoNumber, ?xhn_NoNumber, ?xht_NoNumber, ?xhm_NoNumber⟩ ?k0_NoNumber ?k1_NoNumber ?k2_NoNumber ?k3_NoNumber ?kv_NoNumber (PySem.W.exm_ref ?fs_NoNumber ?fd_NoNumber ?ft_NoNumber ?fq_NoNumber), BF.ErrFacts.mk ⟨?xhg_Late, ?xhk_Late, ?xhs_Late, ?xhd_Late, ?xha_Late, ?xhn_Late, ?xht_Late, ?xhm_Late⟩ ?k0_Late ?k1_Late ?k2_Late ?k3_Late ?kv_Late (PySem.W.exm_ref ?fs_Late ?fd_Late ?ft_Late ?fq_Late), BF.ErrFacts.mk ⟨?xhg_Bare, ?xhk_Bare, ?xhs_Bare, ?xhd_Bare, ?xha_Bare, ?xhn_Bare, ?xht_Bare, ?xhm_Bare⟩ ?k0_Bare ?k1_Bare ?k2_Bare ?k3_Bare ?kv_Bare (PySem.W.exm_ref ?fs_Bare ?fd_Bare ?ft_Bare ?fq_Bare), (PySem.W.exm_ref ?es ?ed ?et ?eq)⟩ ?d_law
    (case g_FallError => k_is)
    (case x_FallError => k_exc)
    (case k_FallError => k_is)
    (case b_FallError => k_is)
    (case t_FallError => k_is)
    (case g_NoBase => k_is)
    (case x_NoBase => k_exc)
    (case k_NoBase => k_is)
    (case b_NoBase => k_is)
    (case t_NoBase => k_is)
    (case g_NoNumber => k_is)
    (case x_NoNumber => k_exc)
    (case k_NoNumber => k_is)
    (case b_NoNumber => k_is)
    (case t_NoNumber => k_is)
    (case g_Late => k_is)
    (case x_Late => k_exc)
    (case k_Late => k_is)
    (case b_Late => k_is)
    (case t_Late => k_is)
    (case g_Bare => k_is)
    (case x_Bare => k_exc)
    (case k_Bare => k_is)
    (case b_Bare => k_is)
    (case t_Bare => k_is)
    (case c_LEAST_BASE => k_is)
    (case v_LEAST_BASE => exact ⟨_, rfl⟩)
    (case c_MOST_BASE => k_is)
    (case v_MOST_BASE => exact ⟨_, rfl⟩)
    (case c_SIGNS => k_is)
    (case v_SIGNS => exact ⟨_, rfl⟩)
    (case z_len => k_is)
    (case z_isinstance => k_is)
    (case z_int => k_is)
    (case z_bool => k_is)
    (case z_range => k_is)
    (case z_ValueError => k_is)
    (case d_check_base => (refine' BF.def_mk KX G ?a ?l ?c ?k ?b; (case a => k_is); (case l => k_is); (case c => k_is); (case k => k_is); (case b => exact fun _ _ _ _ _ _ us hl => match us, hl with | [_], _ => rfl)))
    (case d_figure_of => (refine' BF.def_mk KX G ?a ?l ?c ?k ?b; (case a => k_is); (case l => k_is); (case c => k_is); (case k => k_is); (case b => exact fun _ _ _ _ _ _ us hl => match us, hl with | [_, _], _ => rfl)))
    (case d_read => (refine' BF.def_mk KX G ?a ?l ?c ?k ?b; (case a => k_is); (case l => k_is); (case c => k_is); (case k => k_is); (case b => exact fun _ _ _ _ _ _ us hl => match us, hl with | [_, _], _ => rfl)))
    (case d__law_cell_at => (refine' BF.def_mk KX G ?a ?l ?c ?k ?b; (case a => k_is); (case l => k_is); (case c => k_is); (case k => k_is); (case b => exact fun _ _ _ _ _ _ us hl => match us, hl with | [_, _], _ => rfl)))
    (case d__law_whole => (refine' BF.def_mk KX G ?a ?l ?c ?k ?b; (case a => k_is); (case l => k_is); (case c => k_is); (case k => k_is); (case b => exact fun _ _ _ _ _ _ us hl => match us, hl with | [_], _ => rfl)))
    (case d__law_sign_by => (refine' BF.def_mk KX G ?a ?l ?c ?k ?b; (case a => k_is); (case l => k_is); (case c => k_is); (case k => k_is); (case b => exact fun _ _ _ _ _ _ us hl => match us, hl with | [_], _ => rfl)))
    (case d__law_line_by => (refine' BF.def_mk KX G ?a ?l ?c ?k ?b; (case a => k_is); (case l => k_is); (case c => k_is); (case k => k_is); (case b => exact fun _ _ _ _ _ _ us hl => match us, hl with | [_, _], _ => rfl)))
    (case d__law_due_of => (refine' BF.def_mk KX G ?a ?l ?c ?k ?b; (case a => k_is); (case l => k_is); (case c => k_is); (case k => k_is); (case b => exact fun _ _ _ _ _ _ us hl => match us, hl with | [_, _], _ => rfl)))
    (case d__law_words => (refine' BF.def_mk KX G ?a ?l ?c ?k ?b; (case a => k_is); (case l => k_is); (case c => k_is); (case k => k_is); (case b => exact fun _ _ _ _ _ _ us hl => match us, hl with | [_], _ => rfl)))
    (case d__law_refused_by_any => (refine' BF.def_mk KX G ?a ?l ?c ?k ?b; (case a => k_is); (case l => k_is); (case c => k_is); (case k => k_is); (case b => exact fun _ _ _ _ _ _ us hl => match us, hl with | [_, _], _ => rfl)))
    (case d_law => (refine' BF.def_mk KX G ?a ?l ?c ?k ?b; (case a => k_is); (case l => k_is); (case c => k_is); (case k => k_is); (case b => exact fun _ _ _ _ _ _ us hl => match us, hl with | [_], _ => rfl)))
    (case xhg_NoBase => k_is)
    (case xhk_NoBase => k_is)
    (case xhs_NoBase => k_is)
    (case xhd_NoBase => k_is)
    (case xha_NoBase => k_is)
    (case xhn_NoBase => k_is)
    (case xht_NoBase => k_is)
    (case xhm_NoBase => k_is)
    (case fs_NoBase => k_is)
    (case fd_NoBase => k_is)
    (case ft_NoBase => k_is)
    (case fq_NoBase => k_is)
    (case k0_NoBase => kit_is)
    (case k1_NoBase => kit_is)
    (case k2_NoBase => kit_is)
    (case k3_NoBase => kit_is)
    (case kv_NoBase => kit_is)
    (case xhg_NoNumber => k_is)
    (case xhk_NoNumber => k_is)
    (case xhs_NoNumber => k_is)
    (case xhd_NoNumber => k_is)
    (case xha_NoNumber => k_is)
    (case xhn_NoNumber => k_is)
    (case xht_NoNumber => k_is)
    (case xhm_NoNumber => k_is)
    (case fs_NoNumber => k_is)
    (case fd_NoNumber => k_is)
    (case ft_NoNumber => k_is)
    (case fq_NoNumber => k_is)
    (case k0_NoNumber => kit_is)
    (case k1_NoNumber => kit_is)
    (case k2_NoNumber => kit_is)
    (case k3_NoNumber => kit_is)
    (case kv_NoNumber => kit_is)
    (case xhg_Late => k_is)
    (case xhk_Late => k_is)
    (case xhs_Late => k_is)
    (case xhd_Late => k_is)
    (case xha_Late => k_is)
    (case xhn_Late => k_is)
    (case xht_Late => k_is)
    (case xhm_Late => k_is)
    (case fs_Late => k_is)
    (case fd_Late => k_is)
    (case ft_Late => k_is)
    (case fq_Late => k_is)
    (case k0_Late => kit_is)
    (case k1_Late => kit_is)
    (case k2_Late => kit_is)
    (case k3_Late => kit_is)
    (case kv_Late => kit_is)
    (case xhg_Bare => k_is)
    (case xhk_Bare => k_is)
    (case xhs_Bare => k_is)
    (case xhd_Bare => k_is)
    (case xha_Bare => k_is)
    (case xhn_Bare => k_is)
    (case xht_Bare => k_is)
    (case xhm_Bare => k_is)
    (case fs_Bare => k_is)
    (case fd_Bare => k_is)
    (case ft_Bare => k_is)
    (case fq_Bare => k_is)
    (case k0_Bare => kit_is)
    (case k1_Bare => kit_is)
    (case k2_Bare => kit_is)
    (case k3_Bare => kit_is)
    (case kv_Bare => kit_is)
    (case es => k_is)
    (case ed => k_is)
    (case et => k_is)
    (case eq => first | k_is | rfl)
#print axioms PySem.Challenge.cw_bucketfall_k04_read_holds

