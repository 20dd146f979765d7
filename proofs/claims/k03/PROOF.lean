import PyProof.Rows.All
import Wide.All
import OpenK.AllK
import Wide.FinOn
import HandS.ForMost
import HandS.ForExc
import HandS.Wide
import HandS.WideBits
import HandS.IsInst
import HandS.Evl
import HandS.More
import HandS.HotCalls
import HandS.ExcCtx
import HandS.Text
import HandS.Iter
import HandS.MapObj
import HandS.MapJoin
import HandS.Rev
import PySem.Challenge.RW_bucketfall_k03_written
set_option Elab.async false
set_option linter.all false
set_option maxRecDepth 100000
set_option maxHeartbeats 4000000
/-! Prelude: a def of the text and its promise in one bundle; promises of three shapes; what they evaluate to. -/
namespace BF
open PySem L2 Evl
section
variable {X : Cx}
theorem pe_const_int {x : Str} {n : Int} {pos : Pos} (hg : Gl X x) (h : ∃ t, X.mg x = some (.int n t)) (hd : (x == ("__debug__" : Str)) = false := by decide) : PE X (.Name x pos) (tC (.int n)) := by
  obtain ⟨t, h⟩ := h
  exact pe_glob hg h ⟨t, rfl⟩ hd
theorem pe_const_str {x : Str} {n : Str} {pos : Pos} (hg : Gl X x) (h : ∃ t, X.mg x = some (.str n t)) (hd : (x == ("__debug__" : Str)) = false := by decide) : PE X (.Name x pos) (tC (.str n)) := by
  obtain ⟨t, h⟩ := h
  exact pe_glob hg h ⟨t, rfl⟩ hd
end
/-- the def x of the text stands where the module's name x points -/
structure DefAt (K : PySem.W.Frag) (mg : Str → Option Value) (x : Str) (st : Stmt) (ps : List Str) : Prop where
  ex : ∃ f fd, Fun K x x st f fd ∧ mg x = some (.ref f) ∧ ∀ us : List Value, us.length = ps.length → bindArgs fd ⟨us, []⟩ = pure (ps.zip us)
theorem def_mk {K : PySem.W.Frag} {h : Heap} {mg : Str → Option Value} {x : Str} {st : Stmt} {ps : List Str} {f : Addr} {oc : Value} {od an : Option Addr} {osl : Array (Option Value)} {kV doc pm cdv ct : Value} (X : K.In h) (G : h.Ns mainGlobals mg)
    (a : PySem.W.nsIn K mainGlobals x = some (some (.ref f))) (l : K.lookup f = some ⟨oc, od, .func (PySem.W.fnOf x x (defArgs st) (defBody st) (defScope st) .none kV doc pm an cdv ct), osl⟩) (c : PySem.W.codeIn K cdv x = true) (k : PySem.W.keepIn K (.ref f) = true)
    (b : ∀ (kV doc pm : Value) (an : Option Addr) (cdv ct : Value) (us : List Value), us.length = ps.length → bindArgs (PySem.W.fnOf x x (defArgs st) (defBody st) (defScope st) .none kV doc pm an cdv ct) ⟨us, []⟩ = pure (ps.zip us)) : DefAt K mg x st ps :=
  ⟨f, _, fun_mk l c k, PySem.W.mg_of X G a, b _ _ _ _ _ _⟩
theorem const_mk {K : PySem.W.Frag} {h : Heap} {mg : Str → Option Value} {x : Str} {v : Value} {n : Int} (X : K.In h) (G : h.Ns mainGlobals mg) (a : PySem.W.nsIn K mainGlobals x = some (some v)) (r : RelV (.int n) v) : ∃ t, mg x = some (.int n t) := by
  obtain ⟨t, e⟩ := r
  exact ⟨t, e ▸ PySem.W.mg_of X G a⟩
theorem constS_mk {K : PySem.W.Frag} {h : Heap} {mg : Str → Option Value} {x : Str} {v : Value} {n : Str} (X : K.In h) (G : h.Ns mainGlobals mg) (a : PySem.W.nsIn K mainGlobals x = some (some v)) (r : RelV (.str n) v) : ∃ t, mg x = some (.str n t) := by
  obtain ⟨t, e⟩ := r
  exact ⟨t, e ▸ PySem.W.mg_of X G a⟩
/-- the def x keeps the promise sp -/
structure Own (P : Program) (w : World) (K : PySem.W.Frag) (mg : Str → Option Value) (base : Heap) (x : Str) (k : Nat) (ps : List Str) (sp : Sp) : Prop where
  ex : ∃ f fd, FnOk P w K mg base (L2N.CX P w) k f fd ps sp ∧ mg x = some (.ref f) ∧ PySem.W.keepIn K (.ref f) = true ∧ Binds K fd ps []
section
variable {P : Program} {w : World} {K : PySem.W.Frag} {mg : Str → Option Value} {base : Heap}
theorem okN {x qual : Str} {st : Stmt} {f : Addr} {fd : FuncData} {N ps : List Str} {k : Nat} {sp : Sp} (F : Fun K x qual st f fd) (S : FnScope N ps (defScope st)) (len : ∀ vs H Q E, sp vs H Q E → vs.length = ps.length)
    (hbody : ∀ (cdv : Value) (A : Around) (outer : List Env) (s : Shared) (H : Hp) (vs : List V) (Q : VK) (E : XK), Room k (A.deeper (PyProof.Rows.envOfC qual (defScope st) s.heap.objs.size f cdv)) → sp vs H Q E →
      ∃ t, PSs (cxOf (L2N.CX P w) P w K mg base N qual (defScope st) f cdv A outer s H E) (defBody st) t ∧ t { nx := fun _ H' => Q .non H', rt := Q } (start N vs) H) : FnOk P w K mg base (L2N.CX P w) (k + 1) f fd ps sp := by
  obtain ⟨oc, od, kV, doc, pm, an, cdv, ct, osl, rfl, lk, hcd⟩ := F.ex
  exact fn_of lk hcd S len fun A outer s H vs Q E hr hsp => hbody cdv A outer s H vs Q E hr hsp
theorem own_of {x : Str} {st : Stmt} {N ps : List Str} {k : Nat} {sp : Sp} (d : DefAt K mg x st ps) (S : FnScope N ps (defScope st)) (len : ∀ vs H Q E, sp vs H Q E → vs.length = ps.length)
    (hbody : ∀ (f : Addr) (cdv : Value) (A : Around) (outer : List Env) (s : Shared) (H : Hp) (vs : List V) (Q : VK) (E : XK), Room k (A.deeper (PyProof.Rows.envOfC x (defScope st) s.heap.objs.size f cdv)) → sp vs H Q E →
      ∃ t, PSs (cxOf (L2N.CX P w) P w K mg base N x (defScope st) f cdv A outer s H E) (defBody st) t ∧ t { nx := fun _ H' => Q .non H', rt := Q } (start N vs) H) : Own P w K mg base x (k + 1) ps sp := by
  obtain ⟨f, fd, F, hm, hb⟩ := d.ex
  exact ⟨f, fd, okN F S len (hbody f), hm, F.kp, .all hb⟩
theorem tk_out {N : List Str} {qual : Str} {scope : Scope} {f : Addr} {cdv : Value} {A : Around} {outer : List Env} {s : Shared} {H : Hp} {E : XK} :
    L2N.Takes (cxOf (L2N.CX P w) P w K mg base N qual scope f cdv A outer s H E) (fun cls d _ H => E cls d H) := L2N.takes_of rfl rfl rfl rfl
theorem ps_out {N : List Str} {qual : Str} {scope : Scope} {f : Addr} {cdv : Value} {A : Around} {outer : List Env} {s : Shared} {H : Hp} {E : XK} :
    Passes (L2N.CX P w) (cxOf (L2N.CX P w) P w K mg base N qual scope f cdv A outer s H E) E := L2N.passes_call (L2N.takes_of rfl rfl rfl rfl) (fun _ _ _ _ h => h)
theorem passN {X : Cx} : Passes (L2N.CX X.prog X.w) X E0 := fun _ _ _ _ _ _ _ h => by
  obtain ⟨_, _, _, _, _, _, _, _, _, _, _, _, z⟩ := h
  exact z.elim
theorem tk_none {X : Cx} : L2N.Takes X (fun _ _ _ _ => False) := fun _ _ x => by
  obtain ⟨_, _, _, _, _, _, _, _, _, _, _, _, _, _, _, _, z⟩ := x
  exact z.elim
theorem pw {N : List Str} {qual : Str} {scope : Scope} {f : Addr} {cdv : Value} {A : Around} {outer : List Env} {s : Shared} {H : Hp} {E : XK} :
    PassesOwn (model P w) (cxOf (L2N.CX P w) P w K mg base N qual scope f cdv A outer s H E).A (cxOf (L2N.CX P w) P w K mg base N qual scope f cdv A outer s H E).env (cxOf (L2N.CX P w) P w K mg base N qual scope f cdv A outer s H E).xe := passes_of rfl
end
section
variable {X : Cx} {x : Str} {k j : Nat} {ps : List Str} {sp : Sp} {E : XK} {p pos : Pos} {e : Expr} {es : List Expr} {t : TA}
theorem pe_own (O : Own X.prog X.w X.K X.mg X.base x k ps sp) (hr : Room j X.A) (hk : k ≤ j) (hx : Passes (L2N.CX X.prog X.w) X E) (ha : PA X (e :: es) t) (hg : Gl X x := by rfl)
    (hdb : (x == ("__debug__" : Str)) = false := by decide) (he : starEach (e :: es) X.env = (false, eval e X.env) :: starEach es X.env := by rfl) (hpl : (backTo pos (starEach es X.env)).any (·.1) = false := by rfl) :
    PE X (.Call (.Name x p) (e :: es) [] pos) (tCall sp [] E t) := by
  obtain ⟨f, fd, F, hm, hkp, hb⟩ := O.ex
  exact pe_call F (hr.mono hk) hg hm hkp hb .nil hx ha hdb he hpl
/-- within a try -/
theorem pe_ownT {W : WX} (O : Own X.prog X.w X.K X.mg X.base x k ps sp) (hr : Room j X.A) (hk : k ≤ j) (tk : L2N.Takes X W) (ha : PA X (e :: es) t) (hg : Gl X x := by rfl)
    (hdb : (x == ("__debug__" : Str)) = false := by decide) (he : starEach (e :: es) X.env = (false, eval e X.env) :: starEach es X.env := by rfl) (hpl : (backTo pos (starEach es X.env)).any (·.1) = false := by rfl) :
    PE X (.Call (.Name x p) (e :: es) [] pos) (tCallS sp (WE W) t) := by
  obtain ⟨f, fd, F, hm, hkp, hb⟩ := O.ex
  exact pe_callS F (hr.mono hk) hg hm hkp hb (fun σ => L2N.passAt tk σ) ha hdb he hpl
end
/-! ### errors of the program -/
structure ErrAt (K : PySem.W.Frag) (mg : Str → Option Value) (x : Str) (C : Addr) : Prop where
  g : mg x = some (.ref C)
  x' : PySem.W.excIn K C [.type "ValueError", .type "Exception", .type "BaseException", .type "object"] "ValueError.__new__" = true
  k : PySem.W.keepIn K (.ref C) = true
  b : PySem.W.subIn K (.ref C) (.type "BaseException") = some true
  t : PySem.W.typeIn K (.ref C) = some (.type "type")
section
variable {X : Cx} {W : WX} {C : Addr} {x m : Str} {j : Nat} {p p2 pos pos2 : Pos}
def tOwnRaise (W : WX) (C : Addr) : TS := fun _ σ H => W (.ref C) none σ H
theorem ps_own_raise (T : ErrAt X.K X.mg x C) (tk : L2N.Takes X W) (hc : X.calm = true := by rfl) (hg : Gl X x := by rfl) (hdb : (x == ("__debug__" : Str)) = false := by decide) :
    PS X (.Raise (some (.Call (.Name x p) [.Constant (.str m) j p2] [] pos)) none pos2) (tOwnRaise W C) :=
  L2N.ps_raise hc tk (L2N.pmk_own PySem.F.excBase_ValueError T.x' T.g T.k (raises_own T.b T.t) hg hdb)
end
theorem noCX (P : Program) (w : World) (H : Hp) (s : Shared) (e : Value) (s' : Shared) : L2N.CX P w [] H s (fun _ _ _ => False) e s' → False := fun h => by
  obtain ⟨_, _, _, _, _, _, _, _, _, _, _, _, z⟩ := h
  exact z
/-! ### promises -/
/-- what it gives, all as it was but for new objects -/
def spD (D : List V → Hp → V → Prop) : Sp := fun vs H Q _ => ∃ z, D vs H z ∧ RetV z H Q
/-- the same, or an error of the class at c -/
def spX (D : List V → Hp → V → Prop) (R : List V → Hp → Addr → Prop) : Sp := fun vs H Q E => (∃ z, D vs H z ∧ RetV z H Q) ∨ (∃ c, R vs H c ∧ ∀ H1, Ex H H1 → E (.ref c) none H1)
/-- a new list -/
def spL (D : List V → Hp → List V → Prop) : Sp := fun vs H Q _ => ∃ xs, D vs H xs ∧ RetL xs H Q
section
variable {K : PySem.W.Frag} {σ : L2.St} {H H' : Hp} {ta : TA} {te : TE} {vs xs : List V} {z x y : V} {D : List V → Hp → V → Prop} {R : List V → Hp → Addr → Prop} {E : XK}
theorem ev_D (h : EvA ta σ H vs) (hD : ∀ H1, Ex H H1 → D vs H1 z) : Ev (tCall (spD D) [] E ta) σ H z := fun H1 e Q q => h H1 e _ fun H2 e2 => by
  show spD D (vs ++ []) H2 Q E
  rw [List.append_nil]
  exact ⟨z, hD H2 (e.trans e2), fun H3 e3 => q H3 (e2.trans e3)⟩
theorem ev_X (h : EvA ta σ H vs) (hD : ∀ H1, Ex H H1 → D vs H1 z) : Ev (tCall (spX D R) [] E ta) σ H z := fun H1 e Q q => h H1 e _ fun H2 e2 => by
  show spX D R (vs ++ []) H2 Q E
  rw [List.append_nil]
  exact Or.inl ⟨z, hD H2 (e.trans e2), fun H3 e3 => q H3 (e2.trans e3)⟩
theorem el_L {D : List V → Hp → List V → Prop} (h : EvA ta σ H vs) (hD : ∀ H1, Ex H H1 → D vs H1 xs) : EvL (tCall (spL D) [] E ta) σ H xs := fun H1 e Q q => h H1 e _ fun H2 e2 => by
  show spL D (vs ++ []) H2 Q E
  rw [List.append_nil]
  exact ⟨xs, hD H2 (e.trans e2), fun p H3 hp e3 h3 => q p H3 (fresh_back e2 hp) (e2.trans e3) h3⟩
/-- f(..) as a statement, f refuses -/
theorem s_err {C : Addr} {D' : Ends} (h : EvA ta σ H vs) (hR : ∀ H1, Ex H H1 → R vs H1 C) (k : ∀ H1, Ex H H1 → E (.ref C) none H1) : tDrop (tCall (spX D R) [] E ta) D' σ H := h H (Ex.refl H) _ fun H2 e2 => by
  show spX D R (vs ++ []) H2 _ E
  rw [List.append_nil]
  exact Or.inr ⟨C, hR H2 e2, fun H3 e3 => k H3 (e2.trans e3)⟩
/-- a call that refuses, as an expression -/
theorem e_err {C : Addr} (h : EvA ta σ H vs) (hR : ∀ H1, Ex H H1 → R vs H1 C) (k : ∀ H1, Ex H H1 → E (.ref C) none H1) (Q : VK) : tCall (spX D R) [] E ta σ H Q := h H (Ex.refl H) _ fun H2 e2 => by
  show spX D R (vs ++ []) H2 _ E
  rw [List.append_nil]
  exact Or.inr ⟨C, hR H2 e2, fun H3 e3 => k H3 (e2.trans e3)⟩
/-- within a try: it gives; it refuses -/
theorem ev_XS {W : WX} (h : EvA ta σ H vs) (hD : ∀ H1, Ex H H1 → D vs H1 z) : Ev (tCallS (spX D R) (WE W) ta) σ H z := fun H1 e Q q => h H1 e _ fun H2 e2 => Or.inl ⟨z, hD H2 (e.trans e2), fun H3 e3 => q H3 (e2.trans e3)⟩
theorem e_errS {W : WX} {C : Addr} (h : EvA ta σ H vs) (hR : ∀ H1, Ex H H1 → R vs H1 C) (k : ∀ H1, Ex H H1 → W (.ref C) none σ H1) (Q : VK) : tCallS (spX D R) (WE W) ta σ H Q := h H (Ex.refl H) _ fun H2 e2 => Or.inr ⟨C, hR H2 e2, fun H3 e3 => k H3 (e2.trans e3)⟩
/-- some value of a kind -/
def spN (Pre : List V → Hp → Prop) (Post : V → Prop) : Sp := fun vs H Q _ => Pre vs H ∧ ∀ z, Post z → RetV z H Q
theorem q_asgN {Pre : List V → Hp → Prop} {Post : V → Prop} {i : Nat} {tz : TS} {D' : Ends} (h : EvA ta σ H vs) (hP : ∀ H1, Ex H H1 → Pre vs H1) (k : ∀ z, Post z → ∀ H1, Ex H H1 → tz D' (σ.set i (some z)) H1) :
    tSeq (tAsg (tCall (spN Pre Post) [] E ta) (gName i)) tz D' σ H := h H (Ex.refl H) _ fun H2 e2 => by
  show spN Pre Post (vs ++ []) H2 _ E
  rw [List.append_nil]
  exact ⟨hP H2 e2, fun z hz H3 e3 => k z hz H3 (e2.trans e3)⟩
/-! ### built-ins -/
theorem eu_divmod {i j : Int} (h : EvA ta σ H [.int i, .int j]) (hc : CDivP i j) : EvU (tCB (fun xs H Q => ∃ i j, xs = [.int i, .int j] ∧ CDivP i j ∧ ∀ p, H p = none → Q (.ref p) (upd H p (.tup [.int (i / j), .int (i % j)]))) ta) σ H [.int (i / j), .int (i % j)] := fun H1 e Q q =>
  h H1 e _ fun H2 e2 => ⟨i, j, rfl, hc, fun p hp => q p _ (fresh_back e2 hp) (e2.trans (Ex.new hp)) upd_same⟩
theorem ev_isi {c : V} {t u : Value} {b : Bool} (h : EvA ta σ H [x, c]) (hc : ClsV c u) (hx : ∀ H1, Ex H H1 → TyX K H1 x t) (hb : PySem.W.kitOne K t u = some b) : Ev (tCB (rIsi K) ta) σ H (.bl b) := fun H1 e Q q =>
  h H1 e _ fun H2 e2 => ⟨x, c, t, u, b, rfl, hc, hx H2 (e.trans e2), hb, q H2 e2⟩
theorem s_asgT2 {i j : Nat} {D' : Ends} (h : EvU te σ H [x, y]) (k : ∀ H1, Ex H H1 → D'.nx ((σ.set i (some x)).set j (some y)) H1) : tAsg te (gTup K 2 (gCons (gName i) (gCons (gName j) gNil))) D' σ H :=
  h H (Ex.refl H) _ fun p H1 _ e hp => ⟨p, [x, y], rfl, st_of hp, rfl, x, [y], rfl, y, [], rfl, rfl, k H1 e⟩
theorem q_asgT2 {i j : Nat} {D' : Ends} {tz : TS} (h : EvU te σ H [x, y]) (k : ∀ H1, Ex H H1 → tz D' ((σ.set i (some x)).set j (some y)) H1) : tSeq (tAsg te (gTup K 2 (gCons (gName i) (gCons (gName j) gNil)))) tz D' σ H := s_asgT2 (D' := { D' with nx := tz D' }) h k
theorem ix_ev {v : V} {i : Int} {tb tl : TE} (hl : EvL tl σ H xs) (hb : ∀ H1, Ex H H1 → Ev tb σ H1 (.int i)) (ha : atI xs i = some v) : Ev (tOp (rIxL K) tl tb) σ H v :=
  ev_opL1 hl hb fun _ _ hp _ => rv_ixL (sq_of hp) ha
end
/-! ### displays of tuples -/
/-- refs of tuples that hold these -/
def Tups (H : Hp) : List V → List (List V) → Prop
  | [], [] => True
  | v :: r, xs :: rs => (∃ p, v = .ref p ∧ H p = some (.tup xs)) ∧ Tups H r rs
  | _, _ => False
theorem Tups.mono {H H' : Hp} (e : Ex H H') : ∀ {vs : List V} {xss : List (List V)}, Tups H vs xss → Tups H' vs xss
  | [], [], _ => True.intro
  | _ :: _, _ :: _, ⟨⟨p, e1, h⟩, t⟩ => ⟨⟨p, e1, e _ _ h⟩, Tups.mono e t⟩
  | [], _ :: _, h => h.elim
  | _ :: _, [], h => h.elim
def EvTs (ta : TA) (σ : L2.St) (H : Hp) (xss : List (List V)) : Prop := ∀ H1, Ex H H1 → ∀ Q : List V → Hp → Prop, (∀ ps H2, Ex H1 H2 → Tups H2 ps xss → ps.length = xss.length → Q ps H2) → ta σ H1 Q
section
variable {K : PySem.W.Frag} {σ : L2.St} {H : Hp} {ta : TA} {te : TE} {xs : List V} {xss : List (List V)}
theorem ets_nil : EvTs tNil σ H [] := fun H1 _ _ q => q [] H1 (Ex.refl H1) True.intro rfl
theorem ets_cons (h : EvU te σ H xs) (hr : EvTs ta σ H xss) : EvTs (tCons te ta) σ H (xs :: xss) := fun H1 e Q q =>
  h H1 e _ fun p H2 _ e2 hp => hr H2 (e.trans e2) _ fun ps H3 e3 t hl => q (.ref p :: ps) H3 (e2.trans e3) ⟨⟨p, rfl, e3 _ _ hp⟩, t⟩ (by rw [List.length_cons, List.length_cons, hl])
theorem q_asgTs {i : Nat} {D' : Ends} {tz : TS} (h : EvTs ta σ H xss) (hz : xss.length ≤ 100000) (k : ∀ l ps H1, H l = none → Ex H H1 → H1 l = some (.lst ps) → Tups H1 ps xss → tz D' (σ.set i (some (.ref l))) H1) : tSeq (tAsg (tLst ta) (gName i)) tz D' σ H :=
  h H (Ex.refl H) _ fun ps H2 e2 t hl => ⟨sz_of (by rw [hl]; exact hz), fun l nl => k l ps _ (fresh_back e2 nl) (e2.trans (Ex.new nl)) upd_same (t.mono (Ex.new nl))⟩
end
/-! ### int facts for the wide rules -/
theorem big_mod {i j : Int} {n : Nat} (h0 : 0 < j) (h : j.natAbs ≤ 2 ^ n) : (i % j).natAbs < 2 ^ n := by
  have h1 := Int.emod_nonneg i (show j ≠ 0 by omega)
  have h2 := Int.emod_lt_of_pos i h0
  omega
/-! ### the walk of an expression -/
local macro_rules | `(tactic| walk_at "ev") => `(tactic| first
  | exact ev_var rfl
  | exact ev_c
  | exact rv_I0
  | exact ea_nil
  | (apply ea_cons <;> walk_at "ev")
  | (apply ev_op <;> walk_at "ev")
  | (apply rv_I)
  | (exact rv_eq rfl)
  | (apply et_test <;> walk_at "ev")
  | skip)
example {σ : L2.St} {H : Hp} : Ev (tOp (rI0 fun i j => .int (i + j)) (tVar 0) (tC (.int 3))) [some (.int 2)] H (.int 5) := by
  apply ev_is
  · walk_at "ev"
  · rfl
end BF

/-! Figures of a number: plain Lean. -/
namespace BF
/-- the figures, the last one first -/
def digs (b n : Nat) : List Nat := if h : n = 0 ∨ b < 2 then [] else (n % b) :: digs b (n / b)
termination_by n
decreasing_by exact Nat.div_lt_self (by omega) (by omega)
theorem digs_zero (b : Nat) : digs b 0 = [] := by
  unfold digs
  rw [dif_pos (Or.inl rfl)]
theorem digs_pos {b n : Nat} (hb : 2 ≤ b) (hn : 0 < n) : digs b n = (n % b) :: digs b (n / b) := by
  conv => lhs; unfold digs
  rw [dif_neg (by omega)]
theorem digs_len {b : Nat} (hb : 2 ≤ b) : ∀ (m n : Nat), n < 2 ^ m → (digs b n).length ≤ m
  | 0, n, h => by
    have h0 : n = 0 := by simpa using h
    subst h0
    rw [digs_zero]
    exact Nat.le_refl _
  | m + 1, n, h => by
    by_cases hn : n = 0
    · subst hn
      rw [digs_zero]
      exact Nat.zero_le _
    · rw [digs_pos hb (by omega), List.length_cons]
      have h2 : n / b < 2 ^ m := by
        have h3 : n / b ≤ n / 2 := Nat.div_le_div_left hb (by omega)
        have h4 : n / 2 < 2 ^ m := Nat.div_lt_of_lt_mul (by rw [Nat.pow_succ] at h; omega)
        omega
      have := digs_len hb m (n / b) h2
      omega
theorem div_lt_pow {b n m : Nat} (h : n < 2 ^ m) : n / b < 2 ^ m := Nat.lt_of_le_of_lt (Nat.div_le_self n b) h
/-! Where two numbers part. -/
def partAt (b x y : Nat) : Nat := if h : x = y ∨ b < 2 then 0 else partAt b (x / b) (y / b) + 1
termination_by x + y
decreasing_by
  have h1 : x / b ≤ x := Nat.div_le_self x b
  have h2 : y / b ≤ y := Nat.div_le_self y b
  by_cases hx : x = 0
  · have h3 : y / b < y := Nat.div_lt_self (by omega) (by omega)
    omega
  · have h3 : x / b < x := Nat.div_lt_self (by omega) (by omega)
    omega
theorem partAt_eq (b x : Nat) : partAt b x x = 0 := by
  unfold partAt
  rw [dif_pos (Or.inl rfl)]
theorem partAt_ne {b x y : Nat} (hb : 2 ≤ b) (h : x ≠ y) : partAt b x y = partAt b (x / b) (y / b) + 1 := by
  conv => lhs; unfold partAt
  rw [dif_neg (by omega)]
theorem div_sum_lt {b x y : Nat} (hb : 2 ≤ b) (h : x ≠ y) : x / b + y / b < x + y := by
  have h1 : x / b ≤ x := Nat.div_le_self x b
  have h2 : y / b ≤ y := Nat.div_le_self y b
  by_cases hx : x = 0
  · have h3 : y / b < y := Nat.div_lt_self (by omega) (by omega)
    omega
  · have h3 : x / b < x := Nat.div_lt_self (by omega) (by omega)
    omega
theorem partAt_comm {b : Nat} (hb : 2 ≤ b) : ∀ (m x y : Nat), x + y ≤ m → partAt b x y = partAt b y x
  | 0, x, y, h => by
    have e1 : x = 0 := by omega
    have e2 : y = 0 := by omega
    subst e1 e2
    rfl
  | m + 1, x, y, h => by
    by_cases e : x = y
    · subst e
      rfl
    · rw [partAt_ne hb e, partAt_ne hb (Ne.symm e), partAt_comm hb m (x / b) (y / b) (by have := div_sum_lt hb e; omega)]
/-! More of figures. -/
theorem digs_lt {b : Nat} (hb : 2 ≤ b) : ∀ (m n : Nat), n ≤ m → ∀ d ∈ digs b n, d < b
  | 0, n, h, d, hd => by
    have e : n = 0 := by omega
    subst e
    rw [digs_zero] at hd
    cases hd
  | m + 1, n, h, d, hd => by
    by_cases hn : n = 0
    · subst hn
      rw [digs_zero] at hd
      cases hd
    · rw [digs_pos hb (by omega)] at hd
      rcases List.mem_cons.mp hd with e | hd
      · rw [e]
        exact Nat.mod_lt n (by omega)
      · exact digs_lt hb m (n / b) (by have := Nat.div_lt_self (show 0 < n by omega) (show 1 < b by omega); omega) d hd
/-- the first figure is no nought -/
theorem digs_last {b : Nat} (hb : 2 ≤ b) : ∀ (m n : Nat), n ≤ m → 0 < n → ∃ M d, digs b n = M ++ [d] ∧ d ≠ 0
  | 0, n, h, hn => by omega
  | m + 1, n, h, hn => by
    by_cases hq : n / b = 0
    · refine ⟨[], n % b, ?_, ?_⟩
      · rw [digs_pos hb hn, hq, digs_zero]
        rfl
      · have := Nat.div_add_mod n b
        rw [hq, Nat.mul_zero, Nat.zero_add] at this
        omega
    · obtain ⟨M, d, e, hd⟩ := digs_last hb m (n / b) (by have := Nat.div_lt_self hn (show 1 < b by omega); omega) (Nat.pos_of_ne_zero hq)
      exact ⟨(n % b) :: M, d, by rw [digs_pos hb hn, e] <;> rfl, hd⟩
end BF

/-! Texts: a sign found in a text, texts of single signs joined, figures as signs. -/
namespace BF
open PySem L2 Evl
/-! ### one sign found -/
theorem at_one {x : Str} {c i : Nat} : PySem.StrLaws.At x ⟨#[c]⟩ x.length i ↔ x.cps.toList[i]? = some c := by
  have hx : x.length = x.cps.toList.length := by simp [Str.length]
  have h1 : (⟨#[c]⟩ : Str).length = 1 := rfl
  have h2 : (⟨#[c]⟩ : Str).cps.toList = [c] := rfl
  unfold PySem.StrLaws.At
  rw [PySem.StrLaws.subAt_eq, h1, h2]
  constructor
  · intro h
    have h3 := eq_of_beq h.2
    have hi : i < x.cps.toList.length := by omega
    rw [List.drop_eq_getElem_cons hi, List.take_succ_cons, List.take_zero] at h3
    injection h3 with h3 _
    rw [List.getElem?_eq_getElem hi, h3]
  · intro h
    obtain ⟨hi, e⟩ := List.getElem?_eq_some_iff.mp h
    refine ⟨by omega, ?_⟩
    rw [List.drop_eq_getElem_cons hi, List.take_succ_cons, List.take_zero, e]
    exact beq_self_eq_true _
theorem find_hit {x : Str} {c i : Nat} (h : x.cps.toList[i]? = some c) (hn : ∀ k, k < i → x.cps.toList[k]? ≠ some c) : Txt.find x ⟨#[c]⟩ = (i : Int) := by
  unfold Txt.find
  rcases PySem.StrLaws.occ_head x ⟨#[c]⟩ 1 (Nat.le_refl _) with ⟨_, h2⟩ | ⟨j, r, e, h1, h2⟩
  · exact absurd (at_one.mpr h) (h2 i)
  · rw [e]
    have h3 := at_one.mp h1
    have h4 : ¬ j < i := fun q => hn j q h3
    have h5 : ¬ i < j := fun q => h2 i q (at_one.mpr h)
    have h6 : j = i := by omega
    rw [h6]
theorem find_miss {x : Str} {c : Nat} (h : c ∉ x.cps.toList) : Txt.find x ⟨#[c]⟩ = -1 := by
  unfold Txt.find
  rcases PySem.StrLaws.occ_head x ⟨#[c]⟩ 1 (Nat.le_refl _) with ⟨e, _⟩ | ⟨j, r, e, h1, h2⟩
  · rw [e]
  · exact absurd (List.mem_of_getElem? (at_one.mp h1)) h
/-- the sixteen signs -/
def signs16 : Str := "0123456789abcdef"
theorem signs16_codes : signs16.cps.toList = [48, 49, 50, 51, 52, 53, 54, 55, 56, 57, 97, 98, 99, 100, 101, 102] := by decide +kernel
/-- the figure of a sign, -1 where it is none -/
def figI (c : Nat) : Int := if 48 ≤ c ∧ c ≤ 57 then (c : Int) - 48 else if 97 ≤ c ∧ c ≤ 102 then (c : Int) - 87 else -1
theorem find_fig (c : Nat) : Txt.find signs16 ⟨#[c]⟩ = figI c := by
  by_cases h : c ∈ signs16.cps.toList
  · have h1 := h
    rw [signs16_codes] at h1
    have key : ∀ i : Nat, signs16.cps.toList[i]? = some c → (∀ k, k < i → signs16.cps.toList[k]? ≠ some c) → (i : Int) = figI c → Txt.find signs16 ⟨#[c]⟩ = figI c := fun i a b e => (find_hit a b).trans e
    simp only [List.mem_cons, List.not_mem_nil, or_false] at h1
    rcases h1 with rfl | rfl | rfl | rfl | rfl | rfl | rfl | rfl | rfl | rfl | rfl | rfl | rfl | rfl | rfl | rfl
    · exact key 0 (by rw [signs16_codes] <;> rfl) (by rw [signs16_codes]; decide) (by decide)
    · exact key 1 (by rw [signs16_codes] <;> rfl) (by rw [signs16_codes]; decide) (by decide)
    · exact key 2 (by rw [signs16_codes] <;> rfl) (by rw [signs16_codes]; decide) (by decide)
    · exact key 3 (by rw [signs16_codes] <;> rfl) (by rw [signs16_codes]; decide) (by decide)
    · exact key 4 (by rw [signs16_codes] <;> rfl) (by rw [signs16_codes]; decide) (by decide)
    · exact key 5 (by rw [signs16_codes] <;> rfl) (by rw [signs16_codes]; decide) (by decide)
    · exact key 6 (by rw [signs16_codes] <;> rfl) (by rw [signs16_codes]; decide) (by decide)
    · exact key 7 (by rw [signs16_codes] <;> rfl) (by rw [signs16_codes]; decide) (by decide)
    · exact key 8 (by rw [signs16_codes] <;> rfl) (by rw [signs16_codes]; decide) (by decide)
    · exact key 9 (by rw [signs16_codes] <;> rfl) (by rw [signs16_codes]; decide) (by decide)
    · exact key 10 (by rw [signs16_codes] <;> rfl) (by rw [signs16_codes]; decide) (by decide)
    · exact key 11 (by rw [signs16_codes] <;> rfl) (by rw [signs16_codes]; decide) (by decide)
    · exact key 12 (by rw [signs16_codes] <;> rfl) (by rw [signs16_codes]; decide) (by decide)
    · exact key 13 (by rw [signs16_codes] <;> rfl) (by rw [signs16_codes]; decide) (by decide)
    · exact key 14 (by rw [signs16_codes] <;> rfl) (by rw [signs16_codes]; decide) (by decide)
    · exact key 15 (by rw [signs16_codes] <;> rfl) (by rw [signs16_codes]; decide) (by decide)
  · rw [find_miss h]
    rw [signs16_codes] at h
    simp only [List.mem_cons, List.not_mem_nil, or_false, not_or] at h
    unfold figI
    rw [if_neg (by omega), if_neg (by omega)]
/-- the sign of a figure -/
def sgn (d : Nat) : Nat := if d < 10 then 48 + d else 87 + d
theorem sgn_at {d : Nat} (h : d < 16) : signs16.cps.toList[d]? = some (sgn d) := by
  rw [signs16_codes]
  have hd : d = 0 ∨ d = 1 ∨ d = 2 ∨ d = 3 ∨ d = 4 ∨ d = 5 ∨ d = 6 ∨ d = 7 ∨ d = 8 ∨ d = 9 ∨ d = 10 ∨ d = 11 ∨ d = 12 ∨ d = 13 ∨ d = 14 ∨ d = 15 := by omega
  rcases hd with rfl | rfl | rfl | rfl | rfl | rfl | rfl | rfl | rfl | rfl | rfl | rfl | rfl | rfl | rfl | rfl <;> rfl
theorem fig_sgn {d : Nat} (h : d < 16) : figI (sgn d) = (d : Int) := by
  unfold sgn figI
  split
  · rw [if_pos (by omega)]
    omega
  · rw [if_neg (by omega), if_pos (by omega)]
    omega
theorem sgn_zero {d : Nat} (h : sgn d = 48) : d = 0 := by
  unfold sgn at h
  split at h <;> omega
/-- a text of these signs -/
abbrev txt (L : List Nat) : Str := ⟨L.toArray⟩
theorem txt_len (L : List Nat) : (txt L).length = L.length := by simp [Str.length]
theorem txt_codes (L : List Nat) : (txt L).cps.toList = L := by simp
theorem txt_inj {L M : List Nat} (h : txt L = txt M) : L = M := by
  have := congrArg (fun z : Str => z.cps.toList) h
  simpa using this
theorem txt_of (z : Str) : z = txt z.cps.toList := by
  cases z with
  | mk c => simp
/-- texts of single signs, joined -/
theorem join_ones (L : List Nat) : Txt.join (Str.ofString "") (L.map fun c => (⟨#[c]⟩ : Str)) = txt L := by
  have h0 : (Str.ofString "").cps = #[] := by decide +kernel
  rw [TL.join_eq]
  have key : ∀ M : List Nat, TL.tl (Str.join (Str.ofString "") (M.map fun c => (⟨#[c]⟩ : Str))) = M := by
    intro M
    rw [TL.tl_join]
    have h1 : TL.tl (Str.ofString "") = [] := by decide +kernel
    rw [h1, List.map_map]
    induction M with
    | nil => rfl
    | cons c r ih =>
      cases r with
      | nil => rfl
      | cons d r' =>
        show [c] ++ [] ++ TL.joinL [] (List.map (TL.tl ∘ fun c => (⟨#[c]⟩ : Str)) (d :: r')) = _
        rw [ih]
        rfl
  exact TL.ext_tl (by rw [key] <;> simp [TL.tl])
theorem ones_len (L : List Nat) : ((L.map fun c => (⟨#[c]⟩ : Str)).map (·.length)).sum = L.length := by
  induction L with
  | nil => rfl
  | cons c r ih =>
    rw [List.map_cons, List.map_cons, List.sum_cons, ih, List.length_cons]
    show 1 + r.length = r.length + 1
    omega
/-! ### what a text is worth -/
def valN (b : Nat) (L : List Nat) : Nat := L.foldl (fun m c => m * b + (figI c).toNat) 0
/-- all signs are figures of the base -/
def Figs (b : Nat) (L : List Nat) : Prop := ∀ c ∈ L, 0 ≤ figI c ∧ figI c < (b : Int)
theorem valN_snoc (b : Nat) (L : List Nat) (c : Nat) : valN b (L ++ [c]) = valN b L * b + (figI c).toNat := by
  unfold valN
  rw [List.foldl_append]
  rfl
theorem valN_lt {b : Nat} (hb : 2 ≤ b) (hb2 : b ≤ 16) : ∀ (n : Nat) (L : List Nat), L.length = n → Figs b L → valN b L < 2 ^ (4 * n + 1)
  | 0, L, h, _ => by
    have e : L = [] := List.eq_nil_of_length_eq_zero h
    subst e
    show 0 < 2
    omega
  | n + 1, L, h, hf => by
    rcases List.eq_nil_or_concat L with e | ⟨M, c, e⟩
    · subst e
      simp at h
    · rw [List.concat_eq_append] at e
      subst e
      rw [List.length_append, List.length_singleton] at h
      have ih := valN_lt hb hb2 n M (by omega) fun d hd => hf d (List.mem_append_left _ hd)
      have hc := hf c (List.mem_append_right _ List.mem_cons_self)
      rw [valN_snoc]
      have h1 : valN b M * b ≤ valN b M * 16 := Nat.mul_le_mul_left _ hb2
      have h2 : (figI c).toNat < 16 := by omega
      have h3 : (2 : Nat) ^ (4 * (n + 1) + 1) = 2 ^ (4 * n + 1) * 16 := by
        rw [show 4 * (n + 1) + 1 = (4 * n + 1) + 4 by omega, Nat.pow_add]
      omega
section
variable {K : PySem.W.Frag} {σ : L2.St} {H H' : Hp} {ta tb te tl : TE} {xs : List V}
theorem ev_find {a b : Str} (ha : Ev ta σ H (.str a)) (hb : Ev tb σ H (.str b)) : Ev (tM1 (fun x xs H Q => ∃ a b, x = .str a ∧ xs = [.str b] ∧ Q (.int (Txt.find a b)) H) ta tb) σ H (.int (Txt.find a b)) := fun H1 e Q q =>
  ha H1 e _ fun H2 e2 => ⟨⟨a, rfl⟩, hb H2 (e.trans e2) _ fun H3 e3 => ⟨a, b, rfl, rfl, q H3 (e2.trans e3)⟩⟩
theorem ev_lenS {z : Str} (ha : Ev ta σ H (.str z)) (hz : z.length ≤ 100000) : Ev (tCB (fun xs H Q => ∃ z, xs = [.str z] ∧ z.length ≤ sizeLine ∧ Q (.int z.length) H) (tCons ta tNil)) σ H (.int (z.length : Int)) := fun H1 e Q q =>
  ha H1 e _ fun H2 e2 => ⟨z, rfl, sz_of hz, q H2 e2⟩
theorem rv_addS {a b : Str} (h : a.length + b.length ≤ 100000) : RV (fun x y H Q => ∃ i j, x = .str i ∧ y = .str j ∧ i.length + j.length ≤ sizeLine ∧ Q (.str (i ++ j)) H) (.str a) (.str b) H (.str (a ++ b)) := fun H1 _ _ q =>
  ⟨a, b, rfl, rfl, sz_of h, q H1 (Ex.refl H1)⟩
theorem et_yes : EvT tYes σ H true := fun H1 _ _ q => q H1 (Ex.refl H1)
/-- [g(x) for x in a new list] -/
theorem el_map {j : Nat} {vs : List Nat} (g : V → V) (h : EvL tl σ H xs) (hz : xs.length ≤ 40000) (hw : ∀ x, wipe ((wipe σ vs).set j (some x)) vs = wipe σ vs)
    (he : ∀ x ∈ xs, ∀ H1, Ex H H1 → Ev te ((wipe σ vs).set j (some x)) H1 (g x)) : EvL (tLc (iList K tl) (gName j) tYes te vs) σ H (xs.map g) := by
  have e := el_lcNL (K := K) (te := te) (t := tYes) (j := j) (vs := vs) (fun _ => true) (fun i => g (xs.getD i .non)) h hz hw (fun _ _ _ _ _ => et_yes) (fun i x H1 e1 hx _ => by
    have h1 : xs.getD i .non = x := by rw [List.getD_eq_getElem?_getD, hx]; rfl
    rw [h1]
    exact he x (List.mem_of_getElem? hx) H1 e1)
  have h2 : given xs.length (fun _ => true) (fun i => g (xs.getD i .non)) = xs.map g := by
    unfold given
    rw [List.filter_eq_self.mpr (fun _ _ => rfl)]
    apply List.ext_getElem?
    intro i
    rw [List.getElem?_map, List.getElem?_map]
    by_cases hi : i < xs.length
    · rw [List.getElem?_range hi, List.getElem?_eq_getElem hi]
      show some (g (xs.getD i .non)) = some (g xs[i])
      rw [List.getD_eq_getElem?_getD, List.getElem?_eq_getElem hi]
      rfl
    · rw [List.getElem?_eq_none (by rw [List.length_range]; omega), List.getElem?_eq_none (by omega)]
      rfl
  rw [← h2]
  exact e
/-- for c in a text -/
theorem s_forS {j : Nat} {z : Str} {tu : TS} {D : Ends} (h : Ev te σ H (.str z)) (Pv : Nat → L2.St → Hp → Prop) (h0 : ∀ H1, Ex H H1 → Pv 0 σ H1)
    (hs : ∀ (i c : Nat) σ' H', z.cps.toList[i]? = some c → Pv i σ' H' → tu { D with nx := Pv (i + 1), ct := Pv (i + 1), bk := D.nx } (σ'.set j (some (.str ⟨#[c]⟩))) H') (hd : ∀ σ' H', Pv z.cps.toList.length σ' H' → D.nx σ' H') :
    tFor (iStr te) (gName j) tu D σ H := h H (Ex.refl H) _ fun H1 e => by
  have hz : z.cps.size = z.cps.toList.length := by simp
  refine ⟨z, rfl, fun i m σ H => m = z.cps.size - i ∧ i ≤ z.cps.size ∧ Pv i σ H, ⟨z.cps.size, rfl, Nat.zero_le _, h0 H1 e⟩, ?_⟩
  rintro i m σ' H' ⟨rfl, hi, p⟩
  by_cases hlt : i < z.cps.size
  · refine Or.inr ⟨hlt, Pv (i + 1), fun σ2 H2 p' => ⟨z.cps.size - (i + 1), by omega, rfl, hlt, p'⟩, ?_⟩
    rintro x H2 ⟨rfl, c, hc, rfl⟩
    exact hs i c σ' _ (by rw [← hc]; simp) p
  · have e : i = z.cps.size := by omega
    subst e
    exact Or.inl ⟨Nat.le_refl _, hd σ' H' (hz ▸ p)⟩
theorem q_forS {j : Nat} {z : Str} {tu tz : TS} {D : Ends} (h : Ev te σ H (.str z)) (Pv : Nat → L2.St → Hp → Prop) (h0 : ∀ H1, Ex H H1 → Pv 0 σ H1)
    (hs : ∀ (i c : Nat) σ' H', z.cps.toList[i]? = some c → Pv i σ' H' → tu { D with nx := Pv (i + 1), ct := Pv (i + 1), bk := tz D } (σ'.set j (some (.str ⟨#[c]⟩))) H') (hd : ∀ σ' H', Pv z.cps.toList.length σ' H' → tz D σ' H') :
    tSeq (tFor (iStr te) (gName j) tu) tz D σ H := s_forS (D := { D with nx := tz D }) h Pv h0 hs hd
end
end BF

/-! sep.join(reversed(a list)). -/
namespace MpR
open PySem PySem.W PySem.Calls PyProof.Rows
theorem bf_join_rev {prog : Program} {w : World} {A : Around} {E : Value → Shared → Prop} {s : Shared} {it l : Addr} {items : Array Value} {x : Str} {t : Tok} {ys : List Str} {Q : Value → Shared → Prop} (hh : A.handled = none)
    (hit : s.heap.IsRevIter it l ((items.size : Int) - 1)) (hl : s.heap.IsList l items) (hne : l ≠ it) (hn : items.size ≤ sizeLine)
    (hP : ∀ acc : Array Value, ItemsOf (fun i v => items[items.size - 1 - i]? = some v) acc items.size → StrsAre acc.toList ys) (hok : (ys.map (·.length)).sum + ys.length * x.length ≤ 16777216)
    (hq : ∀ h' t' k, (∀ b o, b ≠ it → s.heap.get? b = some o → h'.get? b = some o) → Q (.str (Txt.join x ys) t') { s with heap := h', toks := k }) :
    wpAny (model prog w) A (call (.builtin "str.join") [.str x t, .ref it]) Q E s := by
  refine wpAny_call (codeAny_call_builtin F.slot_str_join.plain F.entry_str_join (F.slot_str_join.check _ _ _ _ _ _ _ _ (typeIs_str _ _ _) (F.args_str_join_2 _ _) ?_))
  rw [join_tree_other]
  refine wpAny_bind (wpAny_typeOf hit.typeIs ?_)
  show wpAny _ A.in1 ((pyIter (.ref it)).tryCatch _ >>= fun it => collect it >>= fun items => joinTail x items) _ _ s
  refine wpAny_bind (wpAny_tryCatch (wpAny_pyIter_revIter hit ?_))
  refine wpAny_bind (RT.collect_rev (show A.in1.handled = none from hh) hit hl hne hn fun h' tk acc hk hacc => ?_)
  obtain ⟨l', hl', ht⟩ := strsAre_values (hP acc hacc)
  subst ht
  rw [hl']
  have hok' := joinOk_of hok
  unfold JoinOk at hok'
  rw [Bool.not_eq_true'] at hok'
  have g : Gives (joinTail x (strValues l')) (joinMade x l') := by
    have g0 := gives_joinTail x l' hok'
    cases l' with
    | nil => exact g0
    | cons p r => cases r with
      | nil => exact g0
      | cons q r' => exact g0
  exact g prog w A (wants Q E) _ (post_join l' ⟨joinFit_length hok', fun t' k => hq h' t' k hk⟩)
end MpR
namespace BF
open PySem PySem.Spec PyProof.Rows L2
section
variable {X : Cx}
def tJoinRev (K : PySem.W.Frag) (to te : TE) : TE := fun σ H Q => to σ H fun x H1 => (∃ a, x = .str a) ∧ te σ H1 fun v H2 => ∃ (a : Str) (q : Addr) (xs : List V) (ys : List Str),
  x = .str a ∧ v = .ref q ∧ SqL K H2 q xs ∧ xs.reverse = ys.map V.str ∧ (ys.map (·.length)).sum + ys.length * a.length ≤ 16777216 ∧ Q (.str (Txt.join a ys)) H2
theorem pe_joinRev {o e : Expr} {to te : TE} {apos pos p2 pos2 : Pos} (ho : PE X o to) (he : PE X e te) (hm : X.mg "reversed" = none) (hc : X.calm = true := by rfl) (hg : Gl X "reversed" := by rfl)
    (hs1 : starEach [.Call (.Name "reversed" p2) [e] [] pos2] X.env = [(false, eval (.Call (.Name "reversed" p2) [e] [] pos2) X.env)] := by rfl)
    (hs : starEach [e] X.env = (false, eval e X.env) :: starEach [] X.env := by rfl)
    (hbase : attributeBase o "join" X.env (eval o X.env) = eval o X.env := by rfl) (hline : (apos.endLine == pos.line) = true := by rfl) :
    PE X (.Call (.Attribute o "join" apos) [.Call (.Name "reversed" p2) [e] [] pos2] [] pos) (tJoinRev X.K to te) := by
  refine ⟨fun pins s σ H Q I h => ?_⟩
  refine PySem.Call_method1 hbase hs1 hline (thn (ho.run pins s σ H _ I h) fun v s1 ⟨x, H1, I1, r1, q1⟩ => ?_)
  obtain ⟨⟨a, rfl⟩, q1⟩ := q1
  obtain ⟨t, rfl⟩ := _root_.id r1
  refine ⟨"str", _, F.plainAttrs_str, F.slot_str_join, F.type_str_join, typeIs_str _ _ _, (fun _ e => nomatch e), Calls.callWith_builtin rfl (Calls.evalArgs_plain (Calls.spliced_cons ?_))⟩
  refine Call_ (ld_blt I1 hg hm PyProof.Rows.boot_reversed (PyProof.Rows.callWith_type1 (args_cons (thn (he.run pins s1 σ H1 _ I1 q1) fun u s2 ⟨v, H2, I2, r2, q2⟩ => args_nil ?_) hs) hs rfl))
  obtain ⟨a', q, xs, ys, ea, ev, hq, hr, hz, q2⟩ := q2
  cases ea
  subst ev
  obtain rfl : u = Value.ref q := r2
  obtain ⟨its, rv, p', hsz⟩ := I2.list hq
  refine call_reversed_list p'.isList (Calls.spliced_nil ?_)
  obtain ⟨f0, f1, f2, f3, f4, f5⟩ := I2.fpOk (H' := H2) (b := s2.heap.objs.size) (Nat.le_refl _) (I2.hok.fresh (Nat.le_refl _))
  have hl := p'.isList
  obtain ⟨ol, hol, _⟩ := _root_.id hl
  have hne : q ≠ s2.heap.objs.size := Nat.ne_of_lt (Heap.lt_size hol)
  have hn : its.toArray.size ≤ sizeLine := by rw [List.size_toArray, ← rv.length]; exact hsz
  have I3 : Inv X pins σ H2 { s2 with heap := s2.heap.push (revObj q ((its.toArray.size : Int) - 1)) } := I2.kept (t' := s2.toks) fun b o e => Heap.get?_push_of_some _ e
  refine MpR.bf_join_rev (s := { s2 with heap := s2.heap.push (revObj q ((its.toArray.size : Int) - 1)) }) (ys := ys) (I2.ok.hd hc) ⟨_, Heap.get?_push_size _ rfl, rfl, rfl⟩ (hl.push _) hne hn (fun acc hacc => ?_) hz fun h' t' k hk => ?_
  · have z := RT.vals_rev rv hacc
    rw [hr] at z
    exact strs_of_vals z
  · exact ⟨.str _, H2, I3.turned (t' := k) (fun b o hb e => hk b o hb e) f0 f1 f3 f4 f5, ⟨t', rfl⟩, q2⟩
end
end BF

namespace BF
open PySem L2 Evl
/-! ### the text by places -/
def topS (i : Nat) : Stmt := PySem.Challenge.pw_bucketfall_k03_written.main.body.getD i (.Pass ⟨0, 0, 0, 0⟩)
abbrev s_check_base : Stmt := topS 8
theorem sc_check_base : FnScope ["base"] ["base"] (defScope s_check_base) := ⟨rfl, rfl, rfl, by decide +kernel, rfl, by decide +kernel, by decide +kernel⟩
abbrev s_check_number : Stmt := topS 9
theorem sc_check_number : FnScope ["number"] ["number"] (defScope s_check_number) := ⟨rfl, rfl, rfl, by decide +kernel, rfl, by decide +kernel, by decide +kernel⟩
abbrev s_figures_of : Stmt := topS 10
theorem sc_figures_of : FnScope ["number", "base", "found", "figure"] ["number", "base"] (defScope s_figures_of) := ⟨rfl, rfl, rfl, by decide +kernel, rfl, by decide +kernel, by decide +kernel⟩
abbrev s_shown : Stmt := topS 11
theorem sc_shown : FnScope ["number", "base", "signs", "figure"] ["number", "base"] (defScope s_shown) := ⟨rfl, rfl, rfl, by decide +kernel, rfl, by decide +kernel, by decide +kernel⟩
abbrev s_figure_of : Stmt := topS 12
theorem sc_figure_of : FnScope ["sign", "base", "figure"] ["sign", "base"] (defScope s_figure_of) := ⟨rfl, rfl, rfl, by decide +kernel, rfl, by decide +kernel, by decide +kernel⟩
abbrev s_read : Stmt := topS 13
theorem sc_read : FnScope ["line", "base", "number", "sign"] ["line", "base"] (defScope s_read) := ⟨rfl, rfl, rfl, by decide +kernel, rfl, by decide +kernel, by decide +kernel⟩
abbrev s__law_cell_at : Stmt := topS 15
theorem sc__law_cell_at : FnScope ["_law_script", "_law_k"] ["_law_script", "_law_k"] (defScope s__law_cell_at) := ⟨rfl, rfl, rfl, by decide +kernel, rfl, by decide +kernel, by decide +kernel⟩
abbrev s__law_whole : Stmt := topS 16
theorem sc__law_whole : FnScope ["_law_found"] ["_law_found"] (defScope s__law_whole) := ⟨rfl, rfl, rfl, by decide +kernel, rfl, by decide +kernel, by decide +kernel⟩
abbrev s__law_far_by : Stmt := topS 17
theorem sc__law_far_by : FnScope ["_law_cell", "_law_more"] ["_law_cell"] (defScope s__law_far_by) := ⟨rfl, rfl, rfl, by decide +kernel, rfl, by decide +kernel, by decide +kernel⟩
abbrev s__law_number_by : Stmt := topS 18
theorem sc__law_number_by : FnScope ["_law_cell", "_law_way"] ["_law_cell", "_law_way"] (defScope s__law_number_by) := ⟨rfl, rfl, rfl, by decide +kernel, rfl, by decide +kernel, by decide +kernel⟩
abbrev s_law : Stmt := topS 19
theorem sc_law : FnScope ["_law_script", "_law_base", "_law_number", "_law_line", "_law_made", "_law_sign", "_law_figure", "_law_again"] ["_law_script"] (defScope s_law) := ⟨rfl, rfl, rfl, by decide +kernel, rfl, by decide +kernel, by decide +kernel⟩
/-- what the top has written -/
structure Txt (K : PySem.W.Frag) (mg : Str → Option Value) (NB NN FE LA BA ST : Addr) : Prop where
  e_FallError : ErrAt K mg "FallError" FE
  e_NoBase : ErrAt K mg "NoBase" NB
  e_NoNumber : ErrAt K mg "NoNumber" NN
  g_LEAST_BASE : ∃ t, mg "LEAST_BASE" = some (.int 2 t)
  g_MOST_BASE : ∃ t, mg "MOST_BASE" = some (.int 16 t)
  g_SIGNS : ∃ t, mg "SIGNS" = some (.str "0123456789abcdef" t)
  b_divmod : mg "divmod" = none
  b_reversed : mg "reversed" = none
  b_len : mg "len" = none
  b_isinstance : mg "isinstance" = none
  b_int : mg "int" = none
  b_bool : mg "bool" = none
  b_str : mg "str" = none
  d_check_base : DefAt K mg "check_base" s_check_base ["base"]
  d_check_number : DefAt K mg "check_number" s_check_number ["number"]
  d_figures_of : DefAt K mg "figures_of" s_figures_of ["number", "base"]
  d_shown : DefAt K mg "shown" s_shown ["number", "base"]
  d_figure_of : DefAt K mg "figure_of" s_figure_of ["sign", "base"]
  d_read : DefAt K mg "read" s_read ["line", "base"]
  d__law_cell_at : DefAt K mg "_law_cell_at" s__law_cell_at ["_law_script", "_law_k"]
  d__law_whole : DefAt K mg "_law_whole" s__law_whole ["_law_found"]
  d__law_far_by : DefAt K mg "_law_far_by" s__law_far_by ["_law_cell"]
  d__law_number_by : DefAt K mg "_law_number_by" s__law_number_by ["_law_cell", "_law_way"]
section
variable {P : Program} {w : World} {K : PySem.W.Frag} {mg : Str → Option Value} {base : Heap} {NB NN FE LA BA ST : Addr}
/-! ### check_base -/
def D_check_base : List V → Hp → V → Prop := fun vs _ z => ∃ b : Int, vs = [.int b] ∧ 2 ≤ b ∧ b ≤ 16 ∧ z = .non
def R_check_base (NB : Addr) : List V → Hp → Addr → Prop := fun vs _ c => ∃ b : Int, vs = [.int b] ∧ (b < 2 ∨ 16 < b) ∧ c = NB
theorem O_check_base (T : Txt K mg NB NN FE LA BA ST) : Own P w K mg base "check_base" 1 ["base"] (spX D_check_base (R_check_base NB)) := by
  refine own_of T.d_check_base sc_check_base (fun vs H Q E h => ?_) (fun f cdv A outer s H vs Q E hr h => ⟨_, (pss_one (ps_if (PW.pt (pw_or (pt_cmpR op_lt (pv 0) (pe_const_int rfl T.g_LEAST_BASE) (nomark _)) (pw_or1 (pt_cmpR op_gt (pv 0) (pe_const_int rfl T.g_MOST_BASE) (nomark _)))))
    (pss_one (ps_own_raise T.e_NoBase tk_out))
    pss_nil)), ?_⟩)
  · rcases h with ⟨z, ⟨b, rfl, _⟩, _⟩ | ⟨c, ⟨b, rfl, _⟩, _⟩ <;> rfl
  · have he : ∀ b : Int, EvT (tOr (tTest (tOp (rI0 fun i j => .bl (decide (i < j))) (tVar 0) (tC (.int 2)))) (tTest (tOp (rI0 fun i j => .bl (decide (j < i))) (tVar 0) (tC (.int 16))))) (start ["base"] [.int b]) H (decide (b < 2) || decide (16 < b)) := fun b =>
      et_or (et_test (ev_op (ev_var rfl) ev_c rv_I0)) fun _ => et_test (ev_op (ev_var rfl) ev_c rv_I0)
    rcases h with ⟨z, ⟨b, rfl, h1, h2, rfl⟩, k⟩ | ⟨c, ⟨b, rfl, h1, rfl⟩, k⟩
    · refine s_if (he b) (fun hb => ?_) (fun _ H1 e1 => k H1 e1)
      have : ¬ (b < 2) := by omega
      have : ¬ (16 < b) := by omega
      simp_all
    · refine s_if (he b) (fun _ H1 e1 => k H1 e1) (fun hb => ?_)
      rw [Bool.or_eq_false_iff] at hb
      have := of_decide_eq_false hb.1
      have := of_decide_eq_false hb.2
      omega
/-! ### check_number -/
def D_check_number : List V → Hp → V → Prop := fun vs _ z => ∃ n : Int, vs = [.int n] ∧ 0 ≤ n ∧ z = .non
def R_check_number (NN : Addr) : List V → Hp → Addr → Prop := fun vs _ c => ∃ n : Int, vs = [.int n] ∧ n < 0 ∧ c = NN
theorem O_check_number (T : Txt K mg NB NN FE LA BA ST) : Own P w K mg base "check_number" 1 ["number"] (spX D_check_number (R_check_number NN)) := by
  refine own_of T.d_check_number sc_check_number (fun vs H Q E h => ?_) (fun f cdv A outer s H vs Q E hr h => ⟨_, (pss_one (ps_if (pt_cmpR op_lt (pv 0) pe_int (nomark _))
    (pss_one (ps_own_raise T.e_NoNumber tk_out))
    pss_nil)), ?_⟩)
  · rcases h with ⟨z, ⟨b, rfl, _⟩, _⟩ | ⟨c, ⟨b, rfl, _⟩, _⟩ <;> rfl
  · rcases h with ⟨z, ⟨b, rfl, h1, rfl⟩, k⟩ | ⟨c, ⟨b, rfl, h1, rfl⟩, k⟩
    · refine s_if (et_test (ev_op (ev_var rfl) ev_c rv_I0)) (fun hb => ?_) (fun _ H1 e1 => k H1 e1)
      have := of_decide_eq_true hb
      omega
    · refine s_if (et_test (ev_op (ev_var rfl) ev_c rv_I0)) (fun _ H1 e1 => k H1 e1) (fun hb => ?_)
      have := of_decide_eq_false hb
      omega
/-! ### figures_of -/
abbrev figsV (b n : Nat) : List V := (digs b n).map fun (d : Nat) => V.int (d : Int)
def D_figures_of : List V → Hp → List V → Prop := fun vs _ xs => ∃ n b : Nat, vs = [.int (n : Int), .int (b : Int)] ∧ 2 ≤ b ∧ b ≤ 16 ∧ n < 2 ^ 3000 ∧ xs = figsV b n
theorem O_figures_of (T : Txt K mg NB NN FE LA BA ST) : Own P w K mg base "figures_of" 1 ["number", "base"] (spL D_figures_of) := by
  refine own_of T.d_figures_of sc_figures_of (fun vs H Q E h => ?_) (fun f cdv A outer s H vs Q E hr h => ⟨_, (pss_cons (ps_set (i := 2) sc_figures_of.nd rfl (Or.inl rfl) (pe_lst pa_nil))
    (pss_cons (ps_while pw (pt_cmpR op_gt (pv 0) pe_int (nomark _))
    (pss_cons (ps_asg (pe_callB call_divmodW (by rfl) T.b_divmod (by decide +kernel) (pa_cons (pv 0) (pa_cons (pv 1) pa_nil))) (pg_tup rfl (pgs_cons (pg_name (i := 0) sc_figures_of.nd rfl (.inl rfl)) (pgs_cons (pg_name (i := 3) sc_figures_of.nd rfl (.inl rfl)) pgs_nil))))
    (pss_one (ps_expr (pe_bm PySem.F.plainAttrs_list PySem.F.slot_list_append PySem.F.type_list_append mt_append (pv 2) (pa_cons (pv 3) pa_nil))))))
    (pss_one (ps_ret (pv 2))))), ?_⟩)
  · obtain ⟨xs, ⟨n, b, rfl, _⟩, _⟩ := h
    rfl
  · obtain ⟨xs, ⟨n, b, rfl, hb, hb2, hn, rfl⟩, k⟩ := h
    refine q_asgL (el_lst ea_nil (Nat.zero_le _)) fun p H1 hp e1 hL => ?_
    refine q_while (fun m σ' H' => ∃ (acc : List Nat) (fig : Option V), σ' = [some (.int ((m : Nat) : Int)), some (.int (b : Int)), some (.ref p), fig] ∧ H' p = some (.lst (acc.map fun (d : Nat) => V.int (d : Int))) ∧ Ex H H' ∧ acc ++ digs b m = digs b n ∧ m ≤ n) n
      ⟨[], none, rfl, hL, e1, rfl, Nat.le_refl _⟩ ?_
    rintro m σ' H' ⟨acc, fig, rfl, hL, e, hd, hm⟩
    refine ⟨decide ((0 : Int) < (m : Int)), et_test (ev_op (ev_var rfl) ev_c rv_I0), fun ht H2 e2 => ?_, fun ht H2 e2 => ?_⟩
    · have hm0 : 0 < m := by
        have := of_decide_eq_true ht
        omega
      refine ⟨fun σ2 H2 => ∃ m', m' < m ∧ ∃ (acc : List Nat) (fig : Option V), σ2 = [some (.int ((m' : Nat) : Int)), some (.int (b : Int)), some (.ref p), fig] ∧ H2 p = some (.lst (acc.map fun (d : Nat) => V.int (d : Int))) ∧ Ex H H2 ∧ acc ++ digs b m' = digs b n ∧ m' ≤ n, fun _ _ h => h, ?_⟩
      have hdiv : CDivP ((m : Nat) : Int) ((b : Nat) : Int) := by
        refine divp_ok (by omega) ?_
        have h1 : Builtin.Int.intBits ((m : Nat) : Int) ≤ 3000 := PyProof.Rows.intBits_le (by rw [Int.natAbs_natCast]; exact Nat.lt_of_le_of_lt hm hn)
        omega
      refine q_asgT2 (eu_divmod (ea_cons (ev_var rfl) (ea_cons (ev_var rfl) ea_nil)) hdiv) fun H3 e3 => ?_
      have hacc : acc.length ≤ 3000 := by
        have h1 := congrArg List.length hd
        rw [List.length_append] at h1
        have h2 := digs_len hb 3000 n hn
        omega
      refine s_app (l := p) (xs := acc.map fun (d : Nat) => V.int (d : Int)) (e3 _ _ (e2 _ _ hL)) (ev_var rfl) (ev_var rfl) (by rw [List.length_map]; omega) fun H4 e4 => ?_
      refine ⟨m / b, Nat.div_lt_self hm0 (by omega), acc ++ [m % b], _, rfl, ?_, Ex.mut (((e.trans e2).trans e3).trans e4) hp, ?_, Nat.le_trans (Nat.div_le_self _ _) hm⟩
      · rw [upd_same, List.map_append]
        rfl
      · rw [← hd, digs_pos hb hm0, List.append_assoc]
        rfl
    · have hm0 : m = 0 := by
        have := of_decide_eq_false ht
        omega
      subst hm0
      rw [digs_zero, List.append_nil] at hd
      subst hd
      exact s_ret (ev_var rfl) fun H4 e4 => k p H4 hp ((e.trans e2).trans e4) (e4 _ _ (e2 _ _ hL))
/-! ### shown -/
/-- the signs that write a number -/
def shownL (b n : Nat) : List Nat := if n = 0 then [48] else ((digs b n).map sgn).reverse
def D_shown : List V → Hp → V → Prop := fun vs _ z => ∃ n b : Nat, vs = [.int (n : Int), .int (b : Int)] ∧ 2 ≤ b ∧ b ≤ 16 ∧ n < 2 ^ 3000 ∧ z = .str (txt (shownL b n))
def R_shown (NB NN : Addr) : List V → Hp → Addr → Prop := fun vs _ c => ∃ n b : Int, vs = [.int n, .int b] ∧ (((b < 2 ∨ 16 < b) ∧ c = NB) ∨ (2 ≤ b ∧ b ≤ 16 ∧ n < 0 ∧ c = NN))
theorem eq_dec {x : Int} {y : Int} : decide (V.int x = V.int y) = decide (x = y) := by
  by_cases h : x = y <;> simp [h]
theorem O_shown (T : Txt K mg NB NN FE LA BA ST) : Own P w K mg base "shown" 2 ["number", "base"] (spX D_shown (R_shown NB NN)) := by
  have O_check_base := O_check_base (P := P) (w := w) (base := base) T
  have O_check_number := O_check_number (P := P) (w := w) (base := base) T
  have O_figures_of := O_figures_of (P := P) (w := w) (base := base) T
  refine own_of T.d_shown sc_shown (fun vs H Q E h => ?_) (fun f cdv A outer s H vs Q E hr h => ⟨_, (pss_cons (ps_expr (pe_own O_check_base hr (by decide) ps_out (pa_cons (pv 1) pa_nil)))
    (pss_cons (ps_expr (pe_own O_check_number hr (by decide) ps_out (pa_cons (pv 0) pa_nil)))
    (pss_cons (ps_if (pt_cmpR op_eq (pv 0) pe_int (nomark _))
    (pss_one (ps_ret (pe_ix ix_str (pe_const_str rfl T.g_SIGNS) pe_int (fun _ _ => rfl))))
    pss_nil)
    (pss_cons (ps_setLc (i := 2) (own := [("figure", 3)]) (g := gName 3) (tt := tYes) rfl sc_shown.nd rfl rfl (sw_true rfl rfl rfl (by decide +kernel)) (pi_list (pe_own O_figures_of hr (by decide) passN (pa_cons (pv 0) (pa_cons (pv 1) pa_nil)))) (blkOk_by (own := [("figure", 3)]) (N := ["number", "base", "signs", "figure"]) (sc := defScope s_shown) (by decide +kernel)) (fun _ _ _ _ _ => (pg_name (i := 3) sc_shown.nd rfl (.inl rfl))) (fun _ _ _ _ _ => pts_nil) (fun _ _ _ _ _ => (pe_ix ix_str (pe_const_str rfl T.g_SIGNS) (pv 3) (fun _ _ => rfl))))
    (pss_one (ps_ret (pe_joinRev pe_str (pv 2) T.b_reversed))))))), ?_⟩)
  · rcases h with ⟨z, ⟨n, b, rfl, _⟩, _⟩ | ⟨c, ⟨n, b, rfl, _⟩, _⟩ <;> rfl
  · rcases h with ⟨z, ⟨n, b, rfl, hb, hb2, hn, rfl⟩, k⟩ | ⟨c, ⟨n, b, rfl, ⟨hb, rfl⟩ | ⟨hb, hb2, hn, rfl⟩⟩, k⟩
    · refine q_drop (ev_X (ea_cons (ev_var rfl) ea_nil) fun _ _ => ⟨_, rfl, by omega, by omega, rfl⟩) fun H1 e1 => ?_
      refine q_drop (ev_X (ea_cons (ev_var rfl) ea_nil) fun _ _ => ⟨_, rfl, by omega, rfl⟩) fun H2 e2 => ?_
      refine q_when (et_is (et_test (ev_op (ev_var rfl) ev_c (rv_eq rfl))) eq_dec) (fun ht H3 e3 => ?_) (fun ht H3 e3 => ?_)
      · have h0 : n = 0 := by
          have := of_decide_eq_true ht
          omega
        subst h0
        refine s_ret (v := .str (txt [48])) (ev_op (x := .str signs16) ev_c ev_c (rv_ixS (by decide +kernel) (by rw [signs16_codes] <;> rfl))) fun H4 e4 => ?_
        have h1 : shownL b 0 = [48] := if_pos rfl
        rw [h1] at k
        exact k H4 (((e1.trans e2).trans e3).trans e4)
      · have h0 : n ≠ 0 := by
          have := of_decide_eq_false ht
          omega
        have hlen := digs_len hb 3000 n hn
        refine q_asgL (el_map (fun v => match v with | .int d => .str ⟨#[sgn d.toNat]⟩ | _ => .non) (el_L (ea_cons (ev_var rfl) (ea_cons (ev_var rfl) ea_nil)) fun _ _ => ⟨n, b, rfl, hb, hb2, hn, rfl⟩) (by rw [List.length_map]; omega) (fun _ => rfl) fun x hx H4 e4 => ?_) fun p H4 hp e4 hL => ?_
        · obtain ⟨d, hd, rfl⟩ := List.mem_map.mp hx
          have hlt := digs_lt hb n n (Nat.le_refl _) d hd
          exact ev_op (x := .str signs16) ev_c (ev_var rfl) (rv_ixS (by decide +kernel) (atI_nat (sgn_at (by omega))))
        · rw [List.map_map] at hL
          have e04 := ((e1.trans e2).trans e3).trans e4
          refine ⟨⟨_, rfl⟩, _, rfl, Str.ofString "", p, (digs b n).map (fun d => V.str ⟨#[sgn d]⟩), ((digs b n).map sgn).reverse.map (fun c => (⟨#[c]⟩ : Str)), rfl, rfl, sq_of hL, ?_, ?_, ?_⟩
          · simp [Function.comp_def, List.map_reverse]
          · rw [ones_len, List.length_reverse, List.length_map, List.length_map, List.length_reverse, List.length_map]
            have h1 : (Str.ofString "").length = 0 := by decide +kernel
            rw [h1]
            omega
          · rw [join_ones]
            have h1 : shownL b n = ((digs b n).map sgn).reverse := if_neg h0
            rw [h1] at k
            exact k H4 e04
    · exact s_err (ea_cons (ev_var rfl) ea_nil) (fun _ _ => ⟨_, rfl, hb, rfl⟩) k
    · refine q_drop (ev_X (ea_cons (ev_var rfl) ea_nil) fun _ _ => ⟨_, rfl, by omega, by omega, rfl⟩) fun H1 e1 => ?_
      exact s_err (ea_cons (ev_var rfl) ea_nil) (fun _ _ => ⟨_, rfl, hn, rfl⟩) fun H2 e2 => k H2 (e1.trans e2)
/-! ### figure_of -/
def D_figure_of : List V → Hp → V → Prop := fun vs _ z => ∃ (c : Nat) (b : Int), vs = [.str ⟨#[c]⟩, .int b] ∧ 0 ≤ figI c ∧ figI c < b ∧ z = .int (figI c)
def R_figure_of (NN : Addr) : List V → Hp → Addr → Prop := fun vs _ e => ∃ (c : Nat) (b : Int), vs = [.str ⟨#[c]⟩, .int b] ∧ ¬ (0 ≤ figI c ∧ figI c < b) ∧ e = NN
theorem O_figure_of (T : Txt K mg NB NN FE LA BA ST) : Own P w K mg base "figure_of" 1 ["sign", "base"] (spX D_figure_of (R_figure_of NN)) := by
  refine own_of T.d_figure_of sc_figure_of (fun vs H Q E h => ?_) (fun f cdv A outer s H vs Q E hr h => ⟨_, (pss_cons (ps_set (i := 2) sc_figure_of.nd rfl (Or.inl rfl) (pe_m1 PySem.F.slot_str_find PySem.F.type_str_find mt_find (pe_const_str rfl T.g_SIGNS) (pv 0)))
    (pss_cons (ps_if (PW.pt (pw_or (pt_cmpR op_lt (pv 2) pe_int (nomark _)) (pw_or1 (pt_cmpR op_ge (pv 2) (pv 1) (nomark _)))))
    (pss_one (ps_own_raise T.e_NoNumber tk_out))
    pss_nil)
    (pss_one (ps_ret (pv 2))))), ?_⟩)
  · rcases h with ⟨z, ⟨c, b, rfl, _⟩, _⟩ | ⟨e, ⟨c, b, rfl, _⟩, _⟩ <;> rfl
  · rcases h with ⟨z, ⟨c, b, rfl, h1, h2, rfl⟩, k⟩ | ⟨e, ⟨c, b, rfl, h1, rfl⟩, k⟩
    · refine q_asg (v := .int (figI c)) (ev_is (ev_find (a := signs16) ev_c (ev_var rfl)) (congrArg V.int (find_fig c))) fun H1 e1 => ?_
      refine q_when (b := decide (figI c < 0) || decide (b ≤ figI c)) (et_or (et_test (ev_op (ev_var rfl) ev_c rv_I0)) fun _ => et_test (ev_op (ev_var rfl) (ev_var rfl) rv_I0)) (fun ht => ?_) (fun _ H2 e2 => s_ret (ev_var rfl) fun H3 e3 => k H3 ((e1.trans e2).trans e3))
      have a1 : ¬ figI c < 0 := by omega
      have a2 : ¬ b ≤ figI c := by omega
      simp [a1, a2] at ht
    · refine q_asg (v := .int (figI c)) (ev_is (ev_find (a := signs16) ev_c (ev_var rfl)) (congrArg V.int (find_fig c))) fun H1 e1 => ?_
      refine q_when (b := decide (figI c < 0) || decide (b ≤ figI c)) (et_or (et_test (ev_op (ev_var rfl) ev_c rv_I0)) fun _ => et_test (ev_op (ev_var rfl) (ev_var rfl) rv_I0)) (fun _ H2 e2 => k H2 (e1.trans e2)) (fun ht => ?_)
      rw [Bool.or_eq_false_iff] at ht
      have a1 := of_decide_eq_false ht.1
      have a2 := of_decide_eq_false ht.2
      exact absurd ⟨by omega, by omega⟩ h1
/-! ### read -/
/-- the text writes a number in the base -/
def Good (b : Nat) (L : List Nat) : Prop := L ≠ [] ∧ ¬ (1 < L.length ∧ L[0]? = some 48) ∧ Figs b L
def D_read : List V → Hp → V → Prop := fun vs _ z => ∃ (L : List Nat) (b : Nat), vs = [.str (txt L), .int (b : Int)] ∧ 2 ≤ b ∧ b ≤ 16 ∧ L.length ≤ 5000 ∧ Good b L ∧ z = .int ((valN b L : Nat) : Int)
def R_read (NB NN : Addr) : List V → Hp → Addr → Prop := fun vs _ e => ∃ (L : List Nat) (b : Int), vs = [.str (txt L), .int b] ∧ (((b < 2 ∨ 16 < b) ∧ e = NB) ∨ ∃ c : Nat, b = (c : Int) ∧ 2 ≤ c ∧ c ≤ 16 ∧ L.length ≤ 5000 ∧ ¬ Good c L ∧ e = NN)
theorem str_dec {L M : List Nat} : decide (V.str (txt L) = V.str (txt M)) = decide (L = M) := by
  by_cases h : L = M
  · subst h
    simp
  · have h2 : ¬ (V.str (txt L) = V.str (txt M)) := fun q => h (by injection q with q; exact txt_inj q)
    rw [decide_eq_false h, decide_eq_false h2]
theorem O_read (T : Txt K mg NB NN FE LA BA ST) : Own P w K mg base "read" 2 ["line", "base"] (spX D_read (R_read NB NN)) := by
  have O_check_base := O_check_base (P := P) (w := w) (base := base) T
  have O_figure_of := O_figure_of (P := P) (w := w) (base := base) T
  refine own_of T.d_read sc_read (fun vs H Q E h => ?_) (fun f cdv A outer s H vs Q E hr h => ⟨_, (pss_cons (ps_expr (pe_own O_check_base hr (by decide) ps_out (pa_cons (pv 1) pa_nil)))
    (pss_cons (ps_if (pt_cmpR op_eq (pv 0) pe_str (nomark _))
    (pss_one (ps_own_raise T.e_NoNumber tk_out))
    pss_nil)
    (pss_cons (ps_if (PW.pt (pw_and (pt_cmpR op_gt (pe_callB call_len_str (by rfl) T.b_len PySem.boot_len (pa_cons (pv 0) pa_nil)) pe_int (nomark _)) (pw_and1 (pt_cmpR op_eq (pe_ix ix_str (pv 0) pe_int (fun _ _ => rfl)) (pe_ix ix_str (pe_const_str rfl T.g_SIGNS) pe_int (fun _ _ => rfl)) (nomark _)))))
    (pss_one (ps_own_raise T.e_NoNumber tk_out))
    pss_nil)
    (pss_cons (ps_set (i := 2) sc_read.nd rfl (Or.inl rfl) pe_int)
    (pss_cons (ps_for pw rfl (pi_str (pv 0)) (pg_name (i := 3) sc_read.nd rfl (.inl rfl))
    (pss_one (ps_set (i := 2) sc_read.nd rfl (Or.inl rfl) (pe_op op_add (pe_op op_mulW (pv 2) (pv 1)) (pe_own O_figure_of hr (by decide) ps_out (pa_cons (pv 3) (pa_cons (pv 1) pa_nil)))))))
    (pss_one (ps_ret (pv 2)))))))), ?_⟩)
  · rcases h with ⟨z, ⟨L, b, rfl, _⟩, _⟩ | ⟨c, ⟨L, b, rfl, _⟩, _⟩ <;> rfl
  · have hh : (∃ (L : List Nat) (b : Int), vs = [.str (txt L), .int b] ∧ (b < 2 ∨ 16 < b) ∧ ∀ H1, Ex H H1 → E (.ref NB) none H1) ∨
        ∃ (L : List Nat) (b : Nat), vs = [.str (txt L), .int (b : Int)] ∧ 2 ≤ b ∧ b ≤ 16 ∧ L.length ≤ 5000 ∧ (Good b L → RetV (.int ((valN b L : Nat) : Int)) H Q) ∧ (¬ Good b L → ∀ H1, Ex H H1 → E (.ref NN) none H1) := by
      rcases h with ⟨z, ⟨L, b, rfl, hb, hb2, hl, hg, rfl⟩, k⟩ | ⟨c, ⟨L, b, rfl, ⟨hb, rfl⟩ | ⟨b, rfl, hb, hb2, hl, hg, rfl⟩⟩, k⟩
      · exact Or.inr ⟨L, b, rfl, hb, hb2, hl, fun _ => k, fun q => absurd hg q⟩
      · exact Or.inl ⟨L, b, rfl, hb, k⟩
      · exact Or.inr ⟨L, b, rfl, hb, hb2, hl, fun q => absurd q hg, fun _ => k⟩
    clear h
    rcases hh with ⟨L, b, rfl, hb, k⟩ | ⟨L, b, rfl, hb, hb2, hl, kD, kR⟩
    · exact s_err (ea_cons (ev_var rfl) ea_nil) (fun _ _ => ⟨_, rfl, hb, rfl⟩) k
    · refine q_drop (ev_X (ea_cons (ev_var rfl) ea_nil) fun _ _ => ⟨_, rfl, by omega, by omega, rfl⟩) fun H1 e1 => ?_
      have hE : (Str.ofString "") = txt [] := by decide +kernel
      refine q_when (b := decide (L = [])) (et_is (et_test (ev_op (y := .str (txt [])) (ev_var rfl) (ev_is ev_c (congrArg V.str hE)) (rv_eq rfl))) str_dec) (fun ht H2 e2 => kR (fun q => q.1 (of_decide_eq_true ht)) H2 (e1.trans e2)) (fun ht H2 e2 => ?_)
      have hne := of_decide_eq_false ht
      have e2 := e1.trans e2
      have hz : (txt L).length ≤ 100000 := by rw [txt_len]; omega
      obtain ⟨c0, hc0⟩ : ∃ c0, L[0]? = some c0 := by
        cases L with
        | nil => exact absurd rfl hne
        | cons c r => exact ⟨c, rfl⟩
      refine q_when (b := decide (1 < L.length) && decide (c0 = 48)) (et_and (a := decide (1 < L.length)) (et_is (et_test (ev_op (ev_lenS (ev_var rfl) hz) ev_c rv_I0)) (by rw [txt_len]; exact decide_eq_decide.mpr ⟨fun q => by omega, fun q => by omega⟩)) fun _ => et_is (et_test (ev_op (x := .str (txt [c0])) (y := .str (txt [48])) (ev_op (ev_var rfl) ev_c (rv_ixS hz (atI_nat (j := 0) (by rw [txt_codes]; exact hc0)))) (ev_op (x := .str signs16) ev_c ev_c (rv_ixS (by decide +kernel) (by rw [signs16_codes] <;> rfl))) (rv_eq rfl))) (by rw [str_dec]; simp))
        (fun ht H3 e3 => ?_) (fun ht H3 e3 => ?_)
      · rw [Bool.and_eq_true] at ht
        have a1 := of_decide_eq_true ht.1
        have a2 := of_decide_eq_true ht.2
        subst a2
        exact kR (fun q => q.2.1 ⟨a1, hc0⟩) H3 (e2.trans e3)
      · have e3 := e2.trans e3
        have hg2 : ¬ (1 < L.length ∧ L[0]? = some 48) := by
          rintro ⟨a1, a2⟩
          rw [hc0] at a2
          cases a2
          simp [a1] at ht
        refine q_asg ev_c fun H4 e4 => ?_
        refine q_forS (ev_var rfl) (fun i σ' H' => Ex H H' ∧ Figs b (L.take i) ∧ ∃ v : Option V, σ' = [some (.str (txt L)), some (.int (b : Int)), some (.int ((valN b (L.take i) : Nat) : Int)), v]) (fun H5 e5 => ⟨(e3.trans e4).trans e5, (fun c hc => by cases hc), none, rfl⟩) ?_ ?_
        · rintro i c σ' H' hc ⟨e, hf, v, rfl⟩
          rw [txt_codes] at hc
          have hi : i < L.length := (List.getElem?_eq_some_iff.mp hc).1
          have htk : L.take (i + 1) = L.take i ++ [c] := by
            rw [List.take_succ, hc]
            rfl
          have hbig : valN b (L.take i) < 2 ^ (4 * 5000 + 1) := by
            have h1 := valN_lt hb hb2 i (L.take i) (by rw [List.length_take]; omega) hf
            exact Nat.lt_of_lt_of_le h1 (Nat.pow_le_pow_right (by decide) (by omega))
          by_cases hcf : 0 ≤ figI c ∧ figI c < (b : Int)
          · refine s_asg (ev_op (ev_op (ev_var rfl) (ev_var rfl) (rv_I (g := fun i j => .int (i * j)) (wide_mul (a := 4 * 5000 + 1) (b := 5) (by rw [Int.natAbs_natCast]; exact hbig) (by rw [Int.natAbs_natCast]; omega) (by decide) (by decide) (by decide)))) (ev_X (ea_cons (ev_var rfl) (ea_cons (ev_var rfl) ea_nil)) fun _ _ => ⟨c, _, rfl, hcf.1, hcf.2, rfl⟩) rv_I0) fun H5 e5 => ?_
            refine ⟨e.trans e5, ?_, some (.str ⟨#[c]⟩), ?_⟩
            · rw [htk]
              intro d hd
              rcases List.mem_append.mp hd with hd | hd
              · exact hf d hd
              · rw [List.mem_singleton.mp hd]
                exact hcf
            · rw [htk, valN_snoc, Int.natCast_add, Int.natCast_mul, Int.toNat_of_nonneg hcf.1]
              rfl
          · have hng : ¬ Good b L := fun q => hcf (q.2.2 c (List.mem_of_getElem? hc))
            refine (ev_op (ev_var rfl) (ev_var rfl) (rv_I (g := fun i j => .int (i * j)) (wide_mul (a := 4 * 5000 + 1) (b := 5) (by rw [Int.natAbs_natCast]; exact hbig) (by rw [Int.natAbs_natCast]; omega) (by decide) (by decide) (by decide)))) H' (Ex.refl H') _ fun H5 e5 => ?_
            exact e_err (ea_cons (ev_var rfl) (ea_cons (ev_var rfl) ea_nil)) (fun _ _ => ⟨c, _, rfl, hcf, rfl⟩) (fun H6 e6 => kR hng H6 ((e.trans e5).trans e6)) _
        · rintro σ' H' ⟨e, hf, v, rfl⟩
          rw [txt_codes, List.take_length] at hf
          rw [txt_codes, List.take_length]
          exact s_ret (ev_var rfl) fun H5 e5 => kD ⟨hne, hg2, hf⟩ H5 (e.trans e5)
/-! ### _law_cell_at -/
def D_cell (K : PySem.W.Frag) : List V → Hp → V → Prop := fun vs H z => ∃ (a : Addr) (ns : List Int) (k : Int), vs = [.ref a, .int k] ∧ 0 ≤ k ∧ SqL K H a (ns.map V.int) ∧ z = .int (L2.cellOf ns k.toNat)
theorem O__law_cell_at (T : Txt K mg NB NN FE LA BA ST) : Own P w K mg base "_law_cell_at" 1 ["_law_script", "_law_k"] (spD (D_cell K)) := by
  refine own_of T.d__law_cell_at sc__law_cell_at (fun vs H Q E h => ?_) (fun f cdv A outer s H vs Q E hr h => ⟨_, (pss_cons (ps_if (pt_cmpR op_lt (pv 1) (pe_callB call_len_seq (by rfl) T.b_len PySem.boot_len (pa_cons (pv 0) pa_nil)) (nomark _))
    (pss_one (ps_ret (pe_ix ix_list (pv 0) (pv 1) (fun _ _ => rfl))))
    pss_nil)
    (pss_one (ps_ret pe_int))), ?_⟩)
  · obtain ⟨z, ⟨a, ns, k, rfl, _⟩, _⟩ := h
    rfl
  · obtain ⟨z, ⟨a, ns, k, rfl, hk, hS, rfl⟩, q⟩ := h
    obtain ⟨j, rfl⟩ := Int.eq_ofNat_of_zero_le hk
    rw [Int.toNat_natCast] at q
    refine q_when (et_test (ev_op (ev_var rfl) (ev_len (ev_var rfl) hS) rv_I0)) (fun hb H1 e1 => ?_) (fun hb H1 e1 => ?_)
    · have h1 := of_decide_eq_true hb
      rw [List.length_map] at h1
      refine s_ret (ev_op (ev_var rfl) (ev_var rfl) (rv_ixL (ex_l e1 hS) (atI_cell (by omega)))) fun H2 e2 => q H2 (e1.trans e2)
    · have h1 := of_decide_eq_false hb
      rw [List.length_map] at h1
      rw [cell_out (by omega)] at q
      exact s_ret ev_c fun H2 e2 => q H2 (e1.trans e2)
theorem ev_cell {σ : L2.St} {H : Hp} {ta : TA} {E : XK} {a : Addr} {ns : List Int} {k : Int} (hS : SqL K H a (ns.map V.int)) (h : EvA ta σ H [.ref a, .int k]) (hk : 0 ≤ k) : Ev (tCall (spD (D_cell K)) [] E ta) σ H (.int (L2.cellOf ns k.toNat)) :=
  ev_D h fun H1 e1 => ⟨a, ns, k, rfl, hk, ex_l e1 hS, rfl⟩
/-! ### _law_whole -/
def D_whole : List V → Hp → V → Prop := fun vs _ z => ∃ n : Int, vs = [.int n] ∧ z = .bl true
theorem O__law_whole (T : Txt K mg NB NN FE LA BA ST) : Own P w K mg base "_law_whole" 1 ["_law_found"] (spD D_whole) := by
  refine own_of T.d__law_whole sc__law_whole (fun vs H Q E h => ?_) (fun f cdv A outer s H vs Q E hr h => ⟨_, (pss_one (ps_ret (pe_and (pe_callB call_isi (by rfl) T.b_isinstance (by decide +kernel) (pa_cons (pv 0) (pa_cons (pe_bltn (v := .ty "int") rfl T.b_int (by decide +kernel) rfl) pa_nil))) (pe_one (pe_not (pe_callB call_isi (by rfl) T.b_isinstance (by decide +kernel) (pa_cons (pv 0) (pa_cons (pe_bltn (v := .ty "bool") rfl T.b_bool (by decide +kernel) rfl) pa_nil)))))))), ?_⟩)
  · obtain ⟨z, ⟨n, rfl, _⟩, _⟩ := h
    rfl
  · obtain ⟨z, ⟨n, rfl, rfl⟩, q⟩ := h
    refine s_ret (v := .bl true) (ev_is (v := .bl (true && !false)) (ev_andV (ev_isi (x := .int n) (c := .ty "int") (ea_cons (ev_var rfl) (ea_cons ev_c ea_nil)) (.ty "int") (fun _ _ => .base (.int n)) (kit_ty (b := "int") (by decide +kernel))) fun _ => ev_notV (ev_isi (x := .int n) (c := .ty "bool") (ea_cons (ev_var rfl) (ea_cons ev_c ea_nil)) (.ty "bool") (fun _ _ => .base (.int n)) (kit_ty (b := "bool") (by decide +kernel)))) rfl) q
/-! ### _law_far_by -/
def farPick (c : Int) : Int := if c % 4 = 0 then 10 ^ 60 else if c % 4 = 1 then 10 ^ 60 * 10 ^ 60 else if c % 4 = 2 then 10 ^ 60 * 10 ^ 60 * 10 ^ 60 else 10 ^ 60 * 10 ^ 60 * 10 ^ 60 * 10 ^ 9
def farBy (c : Int) : Int := (1 + c % 10 ^ 60) * farPick c + c % 10 ^ 64
theorem farPick_pos (c : Int) : 0 ≤ farPick c := by
  unfold farPick
  split
  · decide
  · split
    · decide
    · split
      · decide
      · decide
theorem farPick_big (c : Int) : (farPick c).natAbs < 2 ^ 640 := by
  unfold farPick
  split
  · decide
  · split
    · decide
    · split
      · decide
      · decide
theorem mod_big (c : Int) {j : Int} {n : Nat} (h0 : 0 < j) (h : j.natAbs < 2 ^ n) : 0 ≤ c % j ∧ (c % j).natAbs < 2 ^ n := by
  have h1 := Int.emod_nonneg c (show j ≠ 0 by omega)
  have h2 := Int.emod_lt_of_pos c h0
  exact ⟨h1, by omega⟩
theorem big_add {i j : Int} {n : Nat} (h1 : i.natAbs < 2 ^ n) (h2 : j.natAbs < 2 ^ n) : (i + j).natAbs < 2 ^ (n + 1) := by
  rw [Nat.pow_succ]
  omega
theorem one_mod_big (c : Int) : 0 ≤ 1 + c % 10 ^ 60 ∧ (1 + c % 10 ^ 60).natAbs < 2 ^ 201 := by
  have h := mod_big c (j := 10 ^ 60) (n := 200) (by decide) (by decide)
  exact ⟨by omega, big_add (i := 1) (by decide) h.2⟩
theorem farBy_big (c : Int) : 0 ≤ farBy c ∧ (farBy c).natAbs < 2 ^ 842 := by
  have h1 := one_mod_big c
  have h2 := wide_lt h1.2 (farPick_big c)
  have h3 := mod_big c (j := 10 ^ 64) (n := 841) (by decide) (by decide)
  have h4 := Int.mul_nonneg h1.1 (farPick_pos c)
  unfold farBy
  exact ⟨by omega, big_add h2 h3.2⟩
def D_far_by : List V → Hp → V → Prop := fun vs _ z => ∃ c : Int, vs = [.int c] ∧ z = .int (farBy c)
theorem ev_pow10 {σ : L2.St} {H : Hp} {k : Int} (n : Nat) (h : k = (n : Int)) (hn : n ≤ 64) : Ev (tOp (rI CPow fun i j => .int (i ^ j.toNat)) (tC (.int 10)) (tC (.int k))) σ H (.int (10 ^ n)) := by
  subst h
  exact ev_op ev_c ev_c (rv_I (g := fun i j => .int (i ^ j.toNat)) (i := 10) (j := (n : Int)) ⟨by omega, by omega, by decide⟩)
theorem O__law_far_by (T : Txt K mg NB NN FE LA BA ST) : Own P w K mg base "_law_far_by" 1 ["_law_cell"] (spD D_far_by) := by
  refine own_of T.d__law_far_by sc__law_far_by (fun vs H Q E h => ?_) (fun f cdv A outer s H vs Q E hr h => ⟨_, (pss_cons (ps_set (i := 1) sc__law_far_by.nd rfl (Or.inl rfl) (pe_op op_mulW (pe_op op_mulW (pe_op op_pow pe_int pe_int) (pe_op op_pow pe_int pe_int)) (pe_op op_pow pe_int pe_int)))
    (pss_one (ps_ret (pe_op op_add (pe_op op_mulW (pe_op op_add pe_int (pe_op op_mod (pv 0) (pe_op op_pow pe_int pe_int))) (pe_ix ix_list (pe_lst (pa_cons (pe_op op_pow pe_int pe_int) (pa_cons (pe_op op_mulW (pe_op op_pow pe_int pe_int) (pe_op op_pow pe_int pe_int)) (pa_cons (pv 1) (pa_cons (pe_op op_mulW (pv 1) (pe_op op_pow pe_int pe_int)) pa_nil))))) (pe_op op_mod (pv 0) pe_int) (fun _ _ => rfl))) (pe_op op_mod (pv 0) (pe_op op_pow pe_int pe_int)))))), ?_⟩)
  · obtain ⟨z, ⟨b, rfl, _⟩, _⟩ := h
    rfl
  · obtain ⟨z, ⟨c, rfl, rfl⟩, q⟩ := h
    have e60 : ∀ {σ : L2.St} {H : Hp}, Ev (tOp (rI CPow fun i j => .int (i ^ j.toNat)) (tC (.int 10)) (tC (.int 60))) σ H (.int (10 ^ 60)) := ev_pow10 60 rfl (by decide)
    have b60 : ((10 : Int) ^ 60).natAbs < 2 ^ 200 := by decide
    have b120 : ((10 : Int) ^ 60 * 10 ^ 60).natAbs < 2 ^ 400 := by decide
    have b180 : ((10 : Int) ^ 60 * 10 ^ 60 * 10 ^ 60).natAbs < 2 ^ 600 := by decide
    have e120 : ∀ {σ : L2.St} {H : Hp}, Ev (tOp (rI CMulW fun i j => .int (i * j)) (tOp (rI CPow fun i j => .int (i ^ j.toNat)) (tC (.int 10)) (tC (.int 60))) (tOp (rI CPow fun i j => .int (i ^ j.toNat)) (tC (.int 10)) (tC (.int 60)))) σ H (.int (10 ^ 60 * 10 ^ 60)) :=
      ev_op e60 e60 (rv_I (g := fun i j => .int (i * j)) (wide_mul b60 b60 (by decide) (by decide) (by decide)))
    refine q_asg (ev_op e120 e60 (rv_I (g := fun i j => .int (i * j)) (wide_mul b120 b60 (by decide) (by decide) (by decide)))) fun H1 e1 => ?_
    have hat : atI [V.int (10 ^ 60), V.int (10 ^ 60 * 10 ^ 60), V.int (10 ^ 60 * 10 ^ 60 * 10 ^ 60), V.int (10 ^ 60 * 10 ^ 60 * 10 ^ 60 * 10 ^ 9)] (c % 4) = some (.int (farPick c)) := by
      have h4 : c % 4 = 0 ∨ c % 4 = 1 ∨ c % 4 = 2 ∨ c % 4 = 3 := by omega
      unfold farPick
      rcases h4 with h | h | h | h <;> rw [h] <;> rfl
    refine s_ret (v := .int (farBy c)) ?_ fun H2 e2 => q H2 (e1.trans e2)
    refine ev_op (x := .int ((1 + c % 10 ^ 60) * farPick c)) (y := .int (c % 10 ^ 64)) ?_ ?_ rv_I0
    · refine ev_op (x := .int (1 + c % 10 ^ 60)) (y := .int (farPick c)) ?_ ?_ (rv_I (g := fun i j => .int (i * j)) (wide_mul (one_mod_big c).2 (farPick_big c) (by decide) (by decide) (by decide)))
      · exact ev_op ev_c (ev_op (ev_var rfl) e60 (rv_I (g := fun i j => .int (i % j)) (by decide))) rv_I0
      · refine ix_ev (el_lst (ea_cons e60 (ea_cons e120 (ea_cons (ev_var rfl) (ea_cons (ev_op (ev_var rfl) (ev_pow10 9 rfl (by decide)) (rv_I (g := fun i j => .int (i * j)) (wide_mul b180 (b := 40) (by decide) (by decide) (by decide) (by decide)))) ea_nil)))) (by decide)) (fun _ _ => ev_op (ev_var rfl) ev_c (rv_I (g := fun i j => .int (i % j)) (by decide))) hat
    · exact ev_op (ev_var rfl) (ev_pow10 64 rfl (by decide)) (rv_I (g := fun i j => .int (i % j)) (by decide))
/-! ### _law_number_by -/
def numBy (c w : Int) : Int := if w % 5 = 0 then c % 20 else if w % 5 = 1 then c % 1000 else if w % 5 = 2 then c % 10 ^ 12 else if w % 5 = 3 then c % 10 ^ 60 else farBy c
theorem numBy_big (c w : Int) : 0 ≤ numBy c w ∧ (numBy c w).natAbs < 2 ^ 842 := by
  unfold numBy
  split
  · exact mod_big c (by decide) (by decide)
  · split
    · exact mod_big c (by decide) (by decide)
    · split
      · exact mod_big c (by decide) (by decide)
      · split
        · exact mod_big c (by decide) (by decide)
        · exact farBy_big c
def D_number_by : List V → Hp → V → Prop := fun vs _ z => ∃ c w : Int, vs = [.int c, .int w] ∧ z = .int (numBy c w)
theorem O__law_number_by (T : Txt K mg NB NN FE LA BA ST) : Own P w K mg base "_law_number_by" 2 ["_law_cell", "_law_way"] (spD D_number_by) := by
  have O__law_far_by := O__law_far_by (P := P) (w := w) (base := base) T
  refine own_of T.d__law_number_by sc__law_number_by (fun vs H Q E h => ?_) (fun f cdv A outer s H vs Q E hr h => ⟨_, (pss_cons (ps_if (pt_cmpR op_eq (pe_op op_mod (pv 1) pe_int) pe_int (nomark _))
    (pss_one (ps_ret (pe_op op_mod (pv 0) pe_int)))
    pss_nil)
    (pss_cons (ps_if (pt_cmpR op_eq (pe_op op_mod (pv 1) pe_int) pe_int (nomark _))
    (pss_one (ps_ret (pe_op op_mod (pv 0) pe_int)))
    pss_nil)
    (pss_cons (ps_if (pt_cmpR op_eq (pe_op op_mod (pv 1) pe_int) pe_int (nomark _))
    (pss_one (ps_ret (pe_op op_mod (pv 0) (pe_op op_pow pe_int pe_int))))
    pss_nil)
    (pss_cons (ps_if (pt_cmpR op_eq (pe_op op_mod (pv 1) pe_int) pe_int (nomark _))
    (pss_one (ps_ret (pe_op op_mod (pv 0) (pe_op op_pow pe_int pe_int))))
    pss_nil)
    (pss_one (ps_ret (pe_own O__law_far_by hr (by decide) passN (pa_cons (pv 0) pa_nil)))))))), ?_⟩)
  · obtain ⟨z, ⟨c, w, rfl, _⟩, _⟩ := h
    rfl
  · obtain ⟨z, ⟨c, w, rfl, rfl⟩, q⟩ := h
    have hi : ∀ {b : Bool} {i : Int}, decide (V.int (w % 5) = V.int i) = b → b = decide (w % 5 = i) := by
      intro b i h
      rw [← h]
      by_cases hh : w % 5 = i <;> simp [hh]
    have nb : ∀ {b : Bool} {i : Int}, b = decide (w % 5 = i) → b = true → w % 5 = i := fun h hb => by rw [h] at hb; exact of_decide_eq_true hb
    have nf : ∀ {b : Bool} {i : Int}, b = decide (w % 5 = i) → b = false → ¬ w % 5 = i := fun h hb => by rw [h] at hb; exact of_decide_eq_false hb
    have tst : ∀ {σ : L2.St} {H : Hp} (i : Int), σ[1]? = some (some (.int w)) → EvT (tTest (tOp rEq (tOp (rI (fun _ j => 0 < j) fun i j => .int (i % j)) (tVar 1) (tC (.int 5))) (tC (.int i)))) σ H (decide (w % 5 = i)) := fun {σ H} i hσ =>
      et_is (et_test (ev_op (ev_op (ev_var hσ) ev_c (rv_I (g := fun i j => .int (i % j)) (by decide))) ev_c (rv_eq rfl))) (by by_cases hh : w % 5 = i <;> simp [hh])
    unfold numBy at q
    refine q_when (tst 0 rfl) (fun hb H1 e1 => ?_) (fun hb H1 e1 => ?_)
    · rw [if_pos (of_decide_eq_true hb)] at q
      exact s_ret (ev_op (ev_var rfl) ev_c (rv_I (g := fun i j => .int (i % j)) (by decide))) fun H2 e2 => q H2 (e1.trans e2)
    · rw [if_neg (of_decide_eq_false hb)] at q
      refine q_when (tst 1 rfl) (fun hb H2 e2 => ?_) (fun hb H2 e2 => ?_)
      · rw [if_pos (of_decide_eq_true hb)] at q
        exact s_ret (ev_op (ev_var rfl) ev_c (rv_I (g := fun i j => .int (i % j)) (by decide))) fun H3 e3 => q H3 ((e1.trans e2).trans e3)
      · rw [if_neg (of_decide_eq_false hb)] at q
        refine q_when (tst 2 rfl) (fun hb H3 e3 => ?_) (fun hb H3 e3 => ?_)
        · rw [if_pos (of_decide_eq_true hb)] at q
          exact s_ret (ev_op (ev_var rfl) (ev_pow10 12 rfl (by decide)) (rv_I (g := fun i j => .int (i % j)) (by decide))) fun H4 e4 => q H4 (((e1.trans e2).trans e3).trans e4)
        · rw [if_neg (of_decide_eq_false hb)] at q
          refine q_when (tst 3 rfl) (fun hb H4 e4 => ?_) (fun hb H4 e4 => ?_)
          · rw [if_pos (of_decide_eq_true hb)] at q
            exact s_ret (ev_op (ev_var rfl) (ev_pow10 60 rfl (by decide)) (rv_I (g := fun i j => .int (i % j)) (by decide))) fun H5 e5 => q H5 ((((e1.trans e2).trans e3).trans e4).trans e5)
          · rw [if_neg (of_decide_eq_false hb)] at q
            exact s_ret (ev_D (ea_cons (ev_var rfl) ea_nil) fun _ _ => ⟨c, rfl, rfl⟩) fun H5 e5 => q H5 ((((e1.trans e2).trans e3).trans e4).trans e5)
def spLaw (K : PySem.W.Frag) : Sp := fun vs H Q _ => ∃ (a : Addr) (ns : List Int), vs = [.ref a] ∧ SqL K H a (ns.map V.int) ∧ ns.length ≤ 63 ∧ ∀ H', Q (.bl true) H'
theorem nat_of_big {i : Int} {n : Nat} (h : 0 ≤ i ∧ i.natAbs < 2 ^ n) : ∃ m : Nat, i = (m : Int) ∧ m < 2 ^ n := by
  obtain ⟨m, hm⟩ := Int.eq_ofNat_of_zero_le h.1
  exact ⟨m, hm, by have := h.2; rw [hm, Int.natAbs_natCast] at this; exact this⟩
theorem val_digs {b : Nat} (hb : 2 ≤ b) (hb2 : b ≤ 16) : ∀ (m n : Nat), n ≤ m → valN b ((digs b n).map sgn).reverse = n
  | 0, n, h => by
    have e : n = 0 := by omega
    subst e
    rw [digs_zero]
    rfl
  | m + 1, n, h => by
    by_cases hn : n = 0
    · subst hn
      rw [digs_zero]
      rfl
    · have hlt := Nat.mod_lt n (show b > 0 by omega)
      rw [digs_pos hb (by omega), List.map_cons, List.reverse_cons, valN_snoc, val_digs hb hb2 m (n / b) (by have := Nat.div_lt_self (show 0 < n by omega) (show 1 < b by omega); omega), fig_sgn (by omega), Int.toNat_natCast, Nat.mul_comm]
      exact Nat.div_add_mod n b
theorem shown_val {b n : Nat} (hb : 2 ≤ b) (hb2 : b ≤ 16) : valN b (shownL b n) = n := by
  unfold shownL
  split
  · rename_i h
    subst h
    show 0 * b + (figI 48).toNat = 0
    rw [Nat.zero_mul]
    rfl
  · exact val_digs hb hb2 n n (Nat.le_refl _)
theorem shown_good {b n : Nat} (hb : 2 ≤ b) (hb2 : b ≤ 16) : Good b (shownL b n) := by
  unfold shownL
  split
  · refine ⟨by simp, by simp, fun c hc => ?_⟩
    rw [List.mem_singleton.mp hc]
    refine ⟨by decide, ?_⟩
    show (0 : Int) < (b : Int)
    omega
  · rename_i h
    obtain ⟨M, d, e, hd⟩ := digs_last hb n n (Nat.le_refl _) (by omega)
    refine ⟨?_, ?_, ?_⟩
    · rw [e]
      simp
    · rintro ⟨_, h2⟩
      rw [e, List.map_append, List.reverse_append] at h2
      have h3 : some (sgn d) = some 48 := h2
      exact hd (sgn_zero (Option.some.inj h3))
    · intro c hc
      obtain ⟨x, hx, rfl⟩ := List.mem_map.mp (List.mem_reverse.mp hc)
      have hlt := digs_lt hb n n (Nat.le_refl _) x hx
      rw [fig_sgn (by omega)]
      omega
theorem shown_len {b n : Nat} (hb : 2 ≤ b) (hn : n < 2 ^ 3000) : (shownL b n).length ≤ 3000 := by
  unfold shownL
  split
  · decide
  · rw [List.length_reverse, List.length_map]
    exact digs_len hb 3000 n hn
theorem ok_law (T : Txt K mg NB NN FE LA BA ST) {fa : Addr} {fd : FuncData} (F : Fun K "law" "law" s_law fa fd) : FnOk P w K mg base (L2N.CX P w) 3 fa fd ["_law_script"] (spLaw K) := by
  have O__law_number_by := O__law_number_by (P := P) (w := w) (base := base) T
  have O_shown := O_shown (P := P) (w := w) (base := base) T
  have O_read := O_read (P := P) (w := w) (base := base) T
  have O__law_cell_at := O__law_cell_at (P := P) (w := w) (base := base) T
  have O__law_whole := O__law_whole (P := P) (w := w) (base := base) T
  refine okN F sc_law (fun vs H Q E h => ?_) (fun cdv A outer s H vs Q E hr h => ⟨_, (pss_cons (ps_set (i := 1) sc_law.nd rfl (Or.inl rfl) (pe_op op_add pe_int (pe_op op_mod (pe_own O__law_cell_at hr (by decide) passN (pa_cons (pv 0) (pa_cons pe_int pa_nil))) pe_int)))
    (pss_cons (ps_set (i := 2) sc_law.nd rfl (Or.inl rfl) (pe_own O__law_number_by hr (by decide) passN (pa_cons (pe_own O__law_cell_at hr (by decide) passN (pa_cons (pv 0) (pa_cons pe_int pa_nil))) (pa_cons (pe_own O__law_cell_at hr (by decide) passN (pa_cons (pv 0) (pa_cons pe_int pa_nil))) pa_nil))))
    (pss_cons (ps_set (i := 3) sc_law.nd rfl (Or.inl rfl) (pe_own O_shown hr (by decide) ps_out (pa_cons (pv 2) (pa_cons (pv 1) pa_nil))))
    (pss_cons (ps_if (PW.pt (pw_or (pt_not (pt_val (pe_callB call_isi (by rfl) T.b_isinstance (by decide +kernel) (pa_cons (pv 3) (pa_cons (pe_bltn (v := .ty "str") rfl T.b_str (by decide +kernel) rfl) pa_nil))))) (pw_or1 (pt_cmpR op_eq (pv 3) pe_str (nomark _)))))
    (pss_one (ps_ret pe_bl))
    pss_nil)
    (pss_cons (ps_if (PW.pt (pw_and (pt_cmpR op_eq (pe_ix ix_str (pv 3) pe_int (fun _ _ => rfl)) pe_str (nomark _)) (pw_and1 (pt_cmpR op_gt (pe_callB call_len_str (by rfl) T.b_len PySem.boot_len (pa_cons (pv 3) pa_nil)) pe_int (nomark _)))))
    (pss_one (ps_ret pe_bl))
    pss_nil)
    (pss_cons (ps_set (i := 4) sc_law.nd rfl (Or.inl rfl) pe_int)
    (pss_cons (ps_for pw rfl (pi_str (pv 3)) (pg_name (i := 5) sc_law.nd rfl (.inl rfl))
    (pss_cons (ps_set (i := 6) sc_law.nd rfl (Or.inl rfl) (pe_m1 PySem.F.slot_str_find PySem.F.type_str_find mt_find pe_str (pv 5)))
    (pss_cons (ps_if (PW.pt (pw_or (pt_cmpR op_lt (pv 6) pe_int (nomark _)) (pw_or1 (pt_cmpR op_ge (pv 6) (pv 1) (nomark _)))))
    (pss_one (ps_ret pe_bl))
    pss_nil)
    (pss_one (ps_set (i := 4) sc_law.nd rfl (Or.inl rfl) (pe_op op_add (pe_op op_mulW (pv 4) (pv 1)) (pv 6)))))))
    (pss_cons (ps_set (i := 7) sc_law.nd rfl (Or.inl rfl) (pe_own O_read hr (by decide) ps_out (pa_cons (pv 3) (pa_cons (pv 1) pa_nil))))
    (pss_one (ps_ret (pe_and (pe_cmpR op_eq (pv 4) (pv 2) (nomark _)) (pe_and (pe_own O__law_whole hr (by decide) passN (pa_cons (pv 7) pa_nil)) (pe_one (pe_cmpR op_eq (pv 7) (pv 2) (nomark _))))))))))))))), ?_⟩)
  · obtain ⟨a, ns, rfl, _⟩ := h
    rfl
  · obtain ⟨a, ns, rfl, hS, hlen, k⟩ := h
    have cell : ∀ {i : Int} {c : Int}, L2.cellOf ns i.toNat = c → 0 ≤ i → ∀ {σ : L2.St} {H1 : Hp} {E : XK}, Ex H H1 → σ[0]? = some (some (.ref a)) → Ev (tCall (spD (D_cell K)) [] E (tCons (tVar 0) (tCons (tC (.int i)) tNil))) σ H1 (.int c) :=
      fun {i c} hc hi {σ H1 E} e hσ => hc ▸ ev_cell (ex_l e hS) (ea_cons (ev_var hσ) (ea_cons ev_c ea_nil)) hi
    generalize hc0 : L2.cellOf ns (0 : Int).toNat = c0
    generalize hc1 : L2.cellOf ns (1 : Int).toNat = c1
    generalize hc2 : L2.cellOf ns (2 : Int).toNat = c2
    have m15 := Int.emod_nonneg c0 (show (15 : Int) ≠ 0 by decide)
    have l15 := Int.emod_lt_of_pos c0 (show (0 : Int) < 15 by decide)
    obtain ⟨b, hb⟩ : ∃ b : Nat, 2 + c0 % 15 = (b : Int) := Int.eq_ofNat_of_zero_le (by omega)
    have hb1 : 2 ≤ b := by omega
    have hb2 : b ≤ 16 := by omega
    obtain ⟨n, hn, hnb⟩ := nat_of_big (numBy_big c1 c2)
    have hnb : n < 2 ^ 3000 := Nat.lt_of_lt_of_le hnb (Nat.pow_le_pow_right (by decide) (by decide))
    have hg := shown_good (n := n) hb1 hb2
    have hl := shown_len hb1 hnb
    have hv := shown_val (n := n) hb1 hb2
    refine q_asg (v := .int (b : Int)) (ev_is (ev_op ev_c (ev_op (cell hc0 (by decide) (Ex.refl H) rfl) ev_c (rv_I (g := fun i j => .int (i % j)) (by decide))) rv_I0) (congrArg V.int hb)) fun H1 e1 => ?_
    refine q_asg (v := .int (n : Int)) (ev_D (ea_cons (cell hc1 (by decide) e1 rfl) (ea_cons (cell hc2 (by decide) e1 rfl) ea_nil)) fun _ _ => ⟨c1, c2, rfl, congrArg V.int hn.symm⟩) fun H2 e2 => ?_
    refine q_asg (ev_X (ea_cons (ev_var rfl) (ea_cons (ev_var rfl) ea_nil)) fun _ _ => ⟨n, b, rfl, hb1, hb2, hnb, rfl⟩) fun H3 e3 => ?_
    generalize shownL b n = L at hg hl hv
    have hz : (txt L).length ≤ 100000 := by rw [txt_len]; omega
    have hE : (Str.ofString "") = txt [] := by decide +kernel
    have h0s : (Str.ofString "0") = txt [48] := by decide +kernel
    have hne := hg.1
    obtain ⟨d0, hd0⟩ : ∃ c0, L[0]? = some c0 := by
      cases L with
      | nil => exact absurd rfl hne
      | cons c r => exact ⟨c, rfl⟩
    refine q_when (b := (!true) || decide (L = [])) (et_or (et_not (et_B (ev_isi (x := .str (txt L)) (c := .ty "str") (ea_cons (ev_var rfl) (ea_cons ev_c ea_nil)) (.ty "str") (fun _ _ => .base (.str _)) (kit_ty (b := "str") (by decide +kernel))))) fun _ => et_is (et_test (ev_op (y := .str (txt [])) (ev_var rfl) (ev_is ev_c (congrArg V.str hE)) (rv_eq rfl))) str_dec)
      (fun ht => ?_) (fun ht H4 e4 => ?_)
    · simp [hne] at ht
    refine q_when (b := decide (d0 = 48) && decide (1 < L.length)) (et_and (a := decide (d0 = 48)) (et_is (et_test (ev_op (x := .str (txt [d0])) (y := .str (txt [48])) (ev_op (ev_var rfl) ev_c (rv_ixS hz (atI_nat (j := 0) (by rw [txt_codes]; exact hd0)))) (ev_is ev_c (congrArg V.str h0s)) (rv_eq rfl))) (by rw [str_dec]; simp)) fun _ => et_is (et_test (ev_op (ev_lenS (ev_var rfl) hz) ev_c rv_I0)) (by rw [txt_len]; exact decide_eq_decide.mpr ⟨fun q => by omega, fun q => by omega⟩))
      (fun ht => ?_) (fun ht H5 e5 => ?_)
    · rw [Bool.and_eq_true] at ht
      have a1 := of_decide_eq_true ht.1
      have a2 := of_decide_eq_true ht.2
      subst a1
      exact absurd ⟨a2, hd0⟩ hg.2.1
    refine q_asg ev_c fun H6 e6 => ?_
    refine q_forS (ev_var rfl) (fun i σ' H' => ∃ v v2 : Option V, σ' = [some (.ref a), some (.int (b : Int)), some (.int (n : Int)), some (.str (txt L)), some (.int ((valN b (L.take i) : Nat) : Int)), v, v2, none]) (fun H7 e7 => ⟨none, none, rfl⟩) ?_ ?_
    · rintro i c σ' H' hc ⟨v, v2, rfl⟩
      rw [txt_codes] at hc
      have hi : i < L.length := (List.getElem?_eq_some_iff.mp hc).1
      have htk : L.take (i + 1) = L.take i ++ [c] := by
        rw [List.take_succ, hc]
        rfl
      have hf : Figs b (L.take i) := fun d hd => hg.2.2 d (List.mem_of_mem_take hd)
      have hbig : valN b (L.take i) < 2 ^ (4 * 3000 + 1) := by
        have h1 := valN_lt hb1 hb2 i (L.take i) (by rw [List.length_take]; omega) hf
        exact Nat.lt_of_lt_of_le h1 (Nat.pow_le_pow_right (by decide) (by omega))
      have hcf := hg.2.2 c (List.mem_of_getElem? hc)
      refine q_asg (v := .int (figI c)) (ev_is (ev_find (a := signs16) ev_c (ev_var rfl)) (congrArg V.int (find_fig c))) fun H7 e7 => ?_
      refine q_when (b := decide (figI c < 0) || decide ((b : Int) ≤ figI c)) (et_or (et_test (ev_op (ev_var rfl) ev_c rv_I0)) fun _ => et_test (ev_op (ev_var rfl) (ev_var rfl) rv_I0)) (fun ht => ?_) (fun _ H8 e8 => ?_)
      · have a1 : ¬ figI c < 0 := by omega
        have a2 : ¬ (b : Int) ≤ figI c := by omega
        simp [a1, a2] at ht
      refine s_asg (ev_op (ev_op (ev_var rfl) (ev_var rfl) (rv_I (g := fun i j => .int (i * j)) (wide_mul (a := 4 * 3000 + 1) (b := 5) (by rw [Int.natAbs_natCast]; exact hbig) (by rw [Int.natAbs_natCast]; omega) (by decide) (by decide) (by decide)))) (ev_var rfl) rv_I0) fun H9 e9 => ?_
      refine ⟨some (.str ⟨#[c]⟩), some (.int (figI c)), ?_⟩
      rw [htk, valN_snoc, Int.natCast_add, Int.natCast_mul, Int.toNat_of_nonneg hcf.1]
      rfl
    · rintro σ' H' ⟨v, v2, rfl⟩
      rw [txt_codes, List.take_length, hv]
      refine q_asg (ev_X (ea_cons (ev_var rfl) (ea_cons (ev_var rfl) ea_nil)) fun _ _ => ⟨L, b, rfl, hb1, hb2, by omega, hg, rfl⟩) fun H7 e7 => ?_
      rw [hv]
      refine s_ret (v := .bl true) (ev_is (ev_andV (ev_op (ev_var rfl) (ev_var rfl) (rv_eq rfl)) fun _ => ev_andV (ev_D (ea_cons (ev_var rfl) ea_nil) fun _ _ => ⟨_, rfl, rfl⟩) fun _ => ev_op (ev_var rfl) (ev_var rfl) (rv_eq rfl)) ?_) fun H8 _ => k H8
      simp
end
theorem all_mk {l : PySem.W.OpenLaw} {w : World} {K : PySem.W.Frag} {mg : Str → Option Value} {fa : Addr} (hfa : mg "law" = some (.ref fa)) {NB NN FE LA BA ST : Addr} (T : Txt K mg NB NN FE LA BA ST) (d : DefAt K mg "law" s_law ["_law_script"]) :
    ∃ fd : FuncData, (∀ (s : Shared) (v : Value), BindsTo s fd ⟨[v], []⟩ [("_law_script", v)]) ∧ ∀ base : Heap, K.In base → base.Ns mainGlobals mg → FnOk l.prog w K mg base (L2N.CX l.prog w) 3 fa fd ["_law_script"] (spLaw K) := by
  obtain ⟨f, fd, F, hm, hb⟩ := d.ex
  have e := hfa.symm.trans hm
  cases e
  exact ⟨fd, fun s v => .of_eq (hb [v] rfl), fun base _ _ => ok_law T F⟩
theorem walk {l : PySem.W.OpenLaw} {q : Program} {loose : List Str} {XP : (Str → Option Value) → Heap → Prop} {YP : World → Heap → Prop} {d : DefRec} {K : Params → PySem.W.Frag} (hn : l.most = some 63) (hdf : d.params.defaults = [])
    (hY : ∀ (w : World) (h : Heap), YP w h → (K w.params).In h)
    (F : ∀ (w : World) (mg : Str → Option Value) (fa : Addr) (h : Heap), (K w.params).In h → h.Ns mainGlobals mg → mg d.name = some (.ref fa) →
      ∃ fd : FuncData, (∀ (s : Shared) (u : Value), BindsTo s fd ⟨[u], []⟩ [("_law_script", u)]) ∧ ∀ base : Heap, (K w.params).In base → base.Ns mainGlobals mg → FnOk l.prog w (K w.params) mg base (L2N.CX l.prog w) 3 fa fd ["_law_script"] (spLaw (K w.params))) :
    PySem.W.WalkO q loose XP YP l.row.toRowW d [] (fun f vs => PySem.call f vs) :=
  L2.walk_of (n := 63) (k := 3) (x := "_law_script") (CX := fun w => L2N.CX l.prog w) (sp := fun w => spLaw (K w.params)) hn (by decide) hdf ⟨rfl, by decide, by decide⟩ hY F (fun _ _ a ns hl _ hS => ⟨a, ns, rfl, hS, hl, fun _ => rfl⟩) fun w H s e s' z => noCX l.prog w H s e s' z
end BF
open PySem PySem.W PyProof.Rows in
set_option maxRecDepth 100000 in
set_option maxHeartbeats 0 in
theorem PySem.Challenge.cw_bucketfall_k03_written_holds : PySem.Challenge.rw_bucketfall_k03_written.Holds := by
  w_on; o_law; k_head; (case hw => w_witness2)
  k_fill
  refine BF.walk (l := PySem.Challenge.rw_bucketfall_k03_written) rfl rfl (fun w h Y => PySem.W.kIn_of Y) ?F
  case F =>
    intro w mg fa h KX G hmg
    refine' BF.all_mk hmg (NB := ?C_NB) (NN := ?C_NN) (FE := ?C_FE) (LA := 0) (BA := 0) (ST := 0) ⟨BF.ErrAt.mk (PySem.W.mg_of KX G ?g_FallError) ?x_FallError ?k_FallError ?b_FallError ?t_FallError, BF.ErrAt.mk (PySem.W.mg_of KX G ?g_NoBase) ?x_NoBase ?k_NoBase ?b_NoBase ?t_NoBase, BF.ErrAt.mk (PySem.W.mg_of KX G ?g_NoNumber) ?x_NoNumber ?k_NoNumber ?b_NoNumber ?t_NoNumber, BF.const_mk KX G ?c_LEAST_BASE ?v_LEAST_BASE, BF.const_mk KX G ?c_MOST_BASE ?v_MOST_BASE, BF.constS_mk KX G ?c_SIGNS ?v_SIGNS, PySem.W.mg_none_of KX G ?z_divmod, PySem.W.mg_none_of KX G ?z_reversed, PySem.W.mg_none_of KX G ?z_len, PySem.W.mg_none_of KX G ?z_isinstance, PySem.W.mg_none_of KX G ?z_int, PySem.W.mg_none_of KX G ?z_bool, PySem.W.mg_none_of KX G ?z_str, ?d_check_base, ?d_check_number, ?d_figures_of, ?d_shown, ?d_figure_of, ?d_read, ?d__law_cell_at, ?d__law_whole, ?d__law_far_by, ?d__law_number_by⟩ ?d_law
    (case g_FallError => k_is)
    (case x_FallError => k_exc)
    (case k_FallError => k_is)
    (case b_FallError => k_is)
    (case t_FallError => k_is)
    (case g_NoBase => k_is)
    (case x_NoBase => k_exc)
    (case k_NoBase => k_is)
    (case b_NoBase => k_is)
    (case t_NoBase => k_is)
    (case g_NoNumber => k_is)
    (case x_NoNumber => k_exc)
    (case k_NoNumber => k_is)
    (case b_NoNumber => k_is)
    (case t_NoNumber => k_is)
    (case c_LEAST_BASE => k_is)
    (case v_LEAST_BASE => exact ⟨_, rfl⟩)
    (case c_MOST_BASE => k_is)
    (case v_MOST_BASE => exact ⟨_, rfl⟩)
    (case c_SIGNS => k_is)
    (case v_SIGNS => exact ⟨_, rfl⟩)
    (case z_divmod => k_is)
    (case z_reversed => k_is)
    (case z_len => k_is)
    (case z_isinstance => k_is)
    (case z_int => k_is)
    (case z_bool => k_is)
    (case z_str => k_is)
    (case d_check_base => (refine' BF.def_mk KX G ?a ?l ?c ?k ?b; (case a => k_is); (case l => k_is); (case c => k_is); (case k => k_is); (case b => exact fun _ _ _ _ _ _ us hl => match us, hl with | [_], _ => rfl)))
    (case d_check_number => (refine' BF.def_mk KX G ?a ?l ?c ?k ?b; (case a => k_is); (case l => k_is); (case c => k_is); (case k => k_is); (case b => exact fun _ _ _ _ _ _ us hl => match us, hl with | [_], _ => rfl)))
    (case d_figures_of => (refine' BF.def_mk KX G ?a ?l ?c ?k ?b; (case a => k_is); (case l => k_is); (case c => k_is); (case k => k_is); (case b => exact fun _ _ _ _ _ _ us hl => match us, hl with | [_, _], _ => rfl)))
    (case d_shown => (refine' BF.def_mk KX G ?a ?l ?c ?k ?b; (case a => k_is); (case l => k_is); (case c => k_is); (case k => k_is); (case b => exact fun _ _ _ _ _ _ us hl => match us, hl with | [_, _], _ => rfl)))
    (case d_figure_of => (refine' BF.def_mk KX G ?a ?l ?c ?k ?b; (case a => k_is); (case l => k_is); (case c => k_is); (case k => k_is); (case b => exact fun _ _ _ _ _ _ us hl => match us, hl with | [_, _], _ => rfl)))
    (case d_read => (refine' BF.def_mk KX G ?a ?l ?c ?k ?b; (case a => k_is); (case l => k_is); (case c => k_is); (case k => k_is); (case b => exact fun _ _ _ _ _ _ us hl => match us, hl with | [_, _], _ => rfl)))
    (case d__law_cell_at => (refine' BF.def_mk KX G ?a ?l ?c ?k ?b; (case a => k_is); (case l => k_is); (case c => k_is); (case k => k_is); (case b => exact fun _ _ _ _ _ _ us hl => match us, hl with | [_, _], _ => rfl)))
    (case d__law_whole => (refine' BF.def_mk KX G ?a ?l ?c ?k ?b; (case a => k_is); (case l => k_is); (case c => k_is); (case k => k_is); (case b => exact fun _ _ _ _ _ _ us hl => match us, hl with | [_], _ => rfl)))
    (case d__law_far_by => (refine' BF.def_mk KX G ?a ?l ?c ?k ?b; (case a => k_is); (case l => k_is); (case c => k_is); (case k => k_is); (case b => exact fun _ _ _ _ _ _ us hl => match us, hl with | [_], _ => rfl)))
    (case d__law_number_by => (refine' BF.def_mk KX G ?a ?l ?c ?k ?b; (case a => k_is); (case l => k_is); (case c => k_is); (case k => k_is); (case b => exact fun _ _ _ _ _ _ us hl => match us, hl with | [_, _], _ => rfl)))
    (case d_law => (refine' BF.def_mk KX G ?a ?l ?c ?k ?b; (case a => k_is); (case l => k_is); (case c => k_is); (case k => k_is); (case b => exact fun _ _ _ _ _ _ us hl => match us, hl with | [_], _ => rfl)))
#print axioms PySem.Challenge.cw_bucketfall_k03_written_holds

