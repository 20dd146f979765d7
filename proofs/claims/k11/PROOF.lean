import PyProof.Rows.All
import Wide.All
import OpenK.AllK
import Wide.FinOn
import HandS.ForMost
import HandS.ForExc
import HandS.Wide
import HandS.WideBits
import HandS.IsInst
import HandS.Evl
import HandS.More
import HandS.HotCalls
import HandS.ExcCtx
import HandS.SortKw
import KE.DataMinKey
import HandS.SetKeys
import HandS.TupSets
import HandS.Text
import HandS.Iter
import KE.DataMinMax
import HandS.Comp
import HandS.Small
import HandS.WordsDict
import HandS.Walk
import PySem.Challenge.RW_bucketfall_k11_whole_moves_counted
set_option Elab.async false
set_option linter.all false
set_option maxRecDepth 100000
set_option maxHeartbeats 4000000
/-! Prelude: a def of the text and its promise in one bundle; promises of three shapes; what they evaluate to. -/
namespace BF
open PySem L2 Evl
section
variable {X : Cx}
theorem pe_const_int {x : Str} {n : Int} {pos : Pos} (hg : Gl X x) (h : ∃ t, X.mg x = some (.int n t)) (hd : (x == ("__debug__" : Str)) = false := by decide) : PE X (.Name x pos) (tC (.int n)) := by
  obtain ⟨t, h⟩ := h
  exact pe_glob hg h ⟨t, rfl⟩ hd
theorem pe_const_str {x : Str} {n : Str} {pos : Pos} (hg : Gl X x) (h : ∃ t, X.mg x = some (.str n t)) (hd : (x == ("__debug__" : Str)) = false := by decide) : PE X (.Name x pos) (tC (.str n)) := by
  obtain ⟨t, h⟩ := h
  exact pe_glob hg h ⟨t, rfl⟩ hd
end
/-- the def x of the text stands where the module's name x points -/
structure DefAt (K : PySem.W.Frag) (mg : Str → Option Value) (x : Str) (st : Stmt) (ps : List Str) : Prop where
  ex : ∃ f fd, Fun K x x st f fd ∧ mg x = some (.ref f) ∧ ∀ us : List Value, us.length = ps.length → bindArgs fd ⟨us, []⟩ = pure (ps.zip us)
theorem def_mk {K : PySem.W.Frag} {h : Heap} {mg : Str → Option Value} {x : Str} {st : Stmt} {ps : List Str} {f : Addr} {oc : Value} {od an : Option Addr} {osl : Array (Option Value)} {kV doc pm cdv ct : Value} (X : K.In h) (G : h.Ns mainGlobals mg)
    (a : PySem.W.nsIn K mainGlobals x = some (some (.ref f))) (l : K.lookup f = some ⟨oc, od, .func (PySem.W.fnOf x x (defArgs st) (defBody st) (defScope st) .none kV doc pm an cdv ct), osl⟩) (c : PySem.W.codeIn K cdv x = true) (k : PySem.W.keepIn K (.ref f) = true)
    (b : ∀ (kV doc pm : Value) (an : Option Addr) (cdv ct : Value) (us : List Value), us.length = ps.length → bindArgs (PySem.W.fnOf x x (defArgs st) (defBody st) (defScope st) .none kV doc pm an cdv ct) ⟨us, []⟩ = pure (ps.zip us)) : DefAt K mg x st ps :=
  ⟨f, _, fun_mk l c k, PySem.W.mg_of X G a, b _ _ _ _ _ _⟩
theorem const_mk {K : PySem.W.Frag} {h : Heap} {mg : Str → Option Value} {x : Str} {v : Value} {n : Int} (X : K.In h) (G : h.Ns mainGlobals mg) (a : PySem.W.nsIn K mainGlobals x = some (some v)) (r : RelV (.int n) v) : ∃ t, mg x = some (.int n t) := by
  obtain ⟨t, e⟩ := r
  exact ⟨t, e ▸ PySem.W.mg_of X G a⟩
theorem constS_mk {K : PySem.W.Frag} {h : Heap} {mg : Str → Option Value} {x : Str} {v : Value} {n : Str} (X : K.In h) (G : h.Ns mainGlobals mg) (a : PySem.W.nsIn K mainGlobals x = some (some v)) (r : RelV (.str n) v) : ∃ t, mg x = some (.str n t) := by
  obtain ⟨t, e⟩ := r
  exact ⟨t, e ▸ PySem.W.mg_of X G a⟩
/-- the def x keeps the promise sp -/
structure Own (P : Program) (w : World) (K : PySem.W.Frag) (mg : Str → Option Value) (base : Heap) (x : Str) (k : Nat) (ps : List Str) (sp : Sp) : Prop where
  ex : ∃ f fd, FnOk P w K mg base (L2N.CX P w) k f fd ps sp ∧ mg x = some (.ref f) ∧ PySem.W.keepIn K (.ref f) = true ∧ Binds K fd ps []
section
variable {P : Program} {w : World} {K : PySem.W.Frag} {mg : Str → Option Value} {base : Heap}
theorem okN {x qual : Str} {st : Stmt} {f : Addr} {fd : FuncData} {N ps : List Str} {k : Nat} {sp : Sp} (F : Fun K x qual st f fd) (S : FnScope N ps (defScope st)) (len : ∀ vs H Q E, sp vs H Q E → vs.length = ps.length)
    (hbody : ∀ (cdv : Value) (A : Around) (outer : List Env) (s : Shared) (H : Hp) (vs : List V) (Q : VK) (E : XK), Room k (A.deeper (PyProof.Rows.envOfC qual (defScope st) s.heap.objs.size f cdv)) → sp vs H Q E →
      ∃ t, PSs (cxOf (L2N.CX P w) P w K mg base N qual (defScope st) f cdv A outer s H E) (defBody st) t ∧ t { nx := fun _ H' => Q .non H', rt := Q } (start N vs) H) : FnOk P w K mg base (L2N.CX P w) (k + 1) f fd ps sp := by
  obtain ⟨oc, od, kV, doc, pm, an, cdv, ct, osl, rfl, lk, hcd⟩ := F.ex
  exact fn_of lk hcd S len fun A outer s H vs Q E hr hsp => hbody cdv A outer s H vs Q E hr hsp
theorem own_of {x : Str} {st : Stmt} {N ps : List Str} {k : Nat} {sp : Sp} (d : DefAt K mg x st ps) (S : FnScope N ps (defScope st)) (len : ∀ vs H Q E, sp vs H Q E → vs.length = ps.length)
    (hbody : ∀ (f : Addr) (cdv : Value) (A : Around) (outer : List Env) (s : Shared) (H : Hp) (vs : List V) (Q : VK) (E : XK), Room k (A.deeper (PyProof.Rows.envOfC x (defScope st) s.heap.objs.size f cdv)) → sp vs H Q E →
      ∃ t, PSs (cxOf (L2N.CX P w) P w K mg base N x (defScope st) f cdv A outer s H E) (defBody st) t ∧ t { nx := fun _ H' => Q .non H', rt := Q } (start N vs) H) : Own P w K mg base x (k + 1) ps sp := by
  obtain ⟨f, fd, F, hm, hb⟩ := d.ex
  exact ⟨f, fd, okN F S len (hbody f), hm, F.kp, .all hb⟩
theorem tk_out {N : List Str} {qual : Str} {scope : Scope} {f : Addr} {cdv : Value} {A : Around} {outer : List Env} {s : Shared} {H : Hp} {E : XK} :
    L2N.Takes (cxOf (L2N.CX P w) P w K mg base N qual scope f cdv A outer s H E) (fun cls d _ H => E cls d H) := L2N.takes_of rfl rfl rfl rfl
theorem ps_out {N : List Str} {qual : Str} {scope : Scope} {f : Addr} {cdv : Value} {A : Around} {outer : List Env} {s : Shared} {H : Hp} {E : XK} :
    Passes (L2N.CX P w) (cxOf (L2N.CX P w) P w K mg base N qual scope f cdv A outer s H E) E := L2N.passes_call (L2N.takes_of rfl rfl rfl rfl) (fun _ _ _ _ h => h)
theorem passN {X : Cx} : Passes (L2N.CX X.prog X.w) X E0 := fun _ _ _ _ _ _ _ h => by
  obtain ⟨_, _, _, _, _, _, _, _, _, _, _, _, z⟩ := h
  exact z.elim
theorem tk_none {X : Cx} : L2N.Takes X (fun _ _ _ _ => False) := fun _ _ x => by
  obtain ⟨_, _, _, _, _, _, _, _, _, _, _, _, _, _, _, _, z⟩ := x
  exact z.elim
theorem pw {N : List Str} {qual : Str} {scope : Scope} {f : Addr} {cdv : Value} {A : Around} {outer : List Env} {s : Shared} {H : Hp} {E : XK} :
    PassesOwn (model P w) (cxOf (L2N.CX P w) P w K mg base N qual scope f cdv A outer s H E).A (cxOf (L2N.CX P w) P w K mg base N qual scope f cdv A outer s H E).env (cxOf (L2N.CX P w) P w K mg base N qual scope f cdv A outer s H E).xe := passes_of rfl
end
section
variable {X : Cx} {x : Str} {k j : Nat} {ps : List Str} {sp : Sp} {E : XK} {p pos : Pos} {e : Expr} {es : List Expr} {t : TA}
theorem pe_own (O : Own X.prog X.w X.K X.mg X.base x k ps sp) (hr : Room j X.A) (hk : k ≤ j) (hx : Passes (L2N.CX X.prog X.w) X E) (ha : PA X (e :: es) t) (hg : Gl X x := by rfl)
    (hdb : (x == ("__debug__" : Str)) = false := by decide) (he : starEach (e :: es) X.env = (false, eval e X.env) :: starEach es X.env := by rfl) (hpl : (backTo pos (starEach es X.env)).any (·.1) = false := by rfl) :
    PE X (.Call (.Name x p) (e :: es) [] pos) (tCall sp [] E t) := by
  obtain ⟨f, fd, F, hm, hkp, hb⟩ := O.ex
  exact pe_call F (hr.mono hk) hg hm hkp hb .nil hx ha hdb he hpl
/-- within a try -/
theorem pe_ownT {W : WX} (O : Own X.prog X.w X.K X.mg X.base x k ps sp) (hr : Room j X.A) (hk : k ≤ j) (tk : L2N.Takes X W) (ha : PA X (e :: es) t) (hg : Gl X x := by rfl)
    (hdb : (x == ("__debug__" : Str)) = false := by decide) (he : starEach (e :: es) X.env = (false, eval e X.env) :: starEach es X.env := by rfl) (hpl : (backTo pos (starEach es X.env)).any (·.1) = false := by rfl) :
    PE X (.Call (.Name x p) (e :: es) [] pos) (tCallS sp (WE W) t) := by
  obtain ⟨f, fd, F, hm, hkp, hb⟩ := O.ex
  exact pe_callS F (hr.mono hk) hg hm hkp hb (fun σ => L2N.passAt tk σ) ha hdb he hpl
end
/-! ### errors of the program -/
structure ErrAt (K : PySem.W.Frag) (mg : Str → Option Value) (x : Str) (C : Addr) : Prop where
  g : mg x = some (.ref C)
  x' : PySem.W.excIn K C [.type "ValueError", .type "Exception", .type "BaseException", .type "object"] "ValueError.__new__" = true
  k : PySem.W.keepIn K (.ref C) = true
  b : PySem.W.subIn K (.ref C) (.type "BaseException") = some true
  t : PySem.W.typeIn K (.ref C) = some (.type "type")
section
variable {X : Cx} {W : WX} {C : Addr} {x m : Str} {j : Nat} {p p2 pos pos2 : Pos}
def tOwnRaise (W : WX) (C : Addr) : TS := fun _ σ H => W (.ref C) none σ H
theorem ps_own_raise (T : ErrAt X.K X.mg x C) (tk : L2N.Takes X W) (hc : X.calm = true := by rfl) (hg : Gl X x := by rfl) (hdb : (x == ("__debug__" : Str)) = false := by decide) :
    PS X (.Raise (some (.Call (.Name x p) [.Constant (.str m) j p2] [] pos)) none pos2) (tOwnRaise W C) :=
  L2N.ps_raise hc tk (L2N.pmk_own PySem.F.excBase_ValueError T.x' T.g T.k (raises_own T.b T.t) hg hdb)
end
theorem noCX (P : Program) (w : World) (H : Hp) (s : Shared) (e : Value) (s' : Shared) : L2N.CX P w [] H s (fun _ _ _ => False) e s' → False := fun h => by
  obtain ⟨_, _, _, _, _, _, _, _, _, _, _, _, z⟩ := h
  exact z
/-! ### promises -/
/-- what it gives, all as it was but for new objects -/
def spD (D : List V → Hp → V → Prop) : Sp := fun vs H Q _ => ∃ z, D vs H z ∧ RetV z H Q
/-- the same, or an error of the class at c -/
def spX (D : List V → Hp → V → Prop) (R : List V → Hp → Addr → Prop) : Sp := fun vs H Q E => (∃ z, D vs H z ∧ RetV z H Q) ∨ (∃ c, R vs H c ∧ ∀ H1, Ex H H1 → E (.ref c) none H1)
/-- a new list -/
def spL (D : List V → Hp → List V → Prop) : Sp := fun vs H Q _ => ∃ xs, D vs H xs ∧ RetL xs H Q
section
variable {K : PySem.W.Frag} {σ : L2.St} {H H' : Hp} {ta : TA} {te : TE} {vs xs : List V} {z x y : V} {D : List V → Hp → V → Prop} {R : List V → Hp → Addr → Prop} {E : XK}
theorem ev_D (h : EvA ta σ H vs) (hD : ∀ H1, Ex H H1 → D vs H1 z) : Ev (tCall (spD D) [] E ta) σ H z := fun H1 e Q q => h H1 e _ fun H2 e2 => by
  show spD D (vs ++ []) H2 Q E
  rw [List.append_nil]
  exact ⟨z, hD H2 (e.trans e2), fun H3 e3 => q H3 (e2.trans e3)⟩
theorem ev_X (h : EvA ta σ H vs) (hD : ∀ H1, Ex H H1 → D vs H1 z) : Ev (tCall (spX D R) [] E ta) σ H z := fun H1 e Q q => h H1 e _ fun H2 e2 => by
  show spX D R (vs ++ []) H2 Q E
  rw [List.append_nil]
  exact Or.inl ⟨z, hD H2 (e.trans e2), fun H3 e3 => q H3 (e2.trans e3)⟩
theorem el_L {D : List V → Hp → List V → Prop} (h : EvA ta σ H vs) (hD : ∀ H1, Ex H H1 → D vs H1 xs) : EvL (tCall (spL D) [] E ta) σ H xs := fun H1 e Q q => h H1 e _ fun H2 e2 => by
  show spL D (vs ++ []) H2 Q E
  rw [List.append_nil]
  exact ⟨xs, hD H2 (e.trans e2), fun p H3 hp e3 h3 => q p H3 (fresh_back e2 hp) (e2.trans e3) h3⟩
/-- f(..) as a statement, f refuses -/
theorem s_err {C : Addr} {D' : Ends} (h : EvA ta σ H vs) (hR : ∀ H1, Ex H H1 → R vs H1 C) (k : ∀ H1, Ex H H1 → E (.ref C) none H1) : tDrop (tCall (spX D R) [] E ta) D' σ H := h H (Ex.refl H) _ fun H2 e2 => by
  show spX D R (vs ++ []) H2 _ E
  rw [List.append_nil]
  exact Or.inr ⟨C, hR H2 e2, fun H3 e3 => k H3 (e2.trans e3)⟩
/-- a call that refuses, as an expression -/
theorem e_err {C : Addr} (h : EvA ta σ H vs) (hR : ∀ H1, Ex H H1 → R vs H1 C) (k : ∀ H1, Ex H H1 → E (.ref C) none H1) (Q : VK) : tCall (spX D R) [] E ta σ H Q := h H (Ex.refl H) _ fun H2 e2 => by
  show spX D R (vs ++ []) H2 _ E
  rw [List.append_nil]
  exact Or.inr ⟨C, hR H2 e2, fun H3 e3 => k H3 (e2.trans e3)⟩
/-- within a try: it gives; it refuses -/
theorem ev_XS {W : WX} (h : EvA ta σ H vs) (hD : ∀ H1, Ex H H1 → D vs H1 z) : Ev (tCallS (spX D R) (WE W) ta) σ H z := fun H1 e Q q => h H1 e _ fun H2 e2 => Or.inl ⟨z, hD H2 (e.trans e2), fun H3 e3 => q H3 (e2.trans e3)⟩
theorem e_errS {W : WX} {C : Addr} (h : EvA ta σ H vs) (hR : ∀ H1, Ex H H1 → R vs H1 C) (k : ∀ H1, Ex H H1 → W (.ref C) none σ H1) (Q : VK) : tCallS (spX D R) (WE W) ta σ H Q := h H (Ex.refl H) _ fun H2 e2 => Or.inr ⟨C, hR H2 e2, fun H3 e3 => k H3 (e2.trans e3)⟩
/-- some value of a kind -/
def spN (Pre : List V → Hp → Prop) (Post : V → Prop) : Sp := fun vs H Q _ => Pre vs H ∧ ∀ z, Post z → RetV z H Q
theorem q_asgN {Pre : List V → Hp → Prop} {Post : V → Prop} {i : Nat} {tz : TS} {D' : Ends} (h : EvA ta σ H vs) (hP : ∀ H1, Ex H H1 → Pre vs H1) (k : ∀ z, Post z → ∀ H1, Ex H H1 → tz D' (σ.set i (some z)) H1) :
    tSeq (tAsg (tCall (spN Pre Post) [] E ta) (gName i)) tz D' σ H := h H (Ex.refl H) _ fun H2 e2 => by
  show spN Pre Post (vs ++ []) H2 _ E
  rw [List.append_nil]
  exact ⟨hP H2 e2, fun z hz H3 e3 => k z hz H3 (e2.trans e3)⟩
/-! ### built-ins -/
theorem eu_divmod {i j : Int} (h : EvA ta σ H [.int i, .int j]) (hc : CDivP i j) : EvU (tCB (fun xs H Q => ∃ i j, xs = [.int i, .int j] ∧ CDivP i j ∧ ∀ p, H p = none → Q (.ref p) (upd H p (.tup [.int (i / j), .int (i % j)]))) ta) σ H [.int (i / j), .int (i % j)] := fun H1 e Q q =>
  h H1 e _ fun H2 e2 => ⟨i, j, rfl, hc, fun p hp => q p _ (fresh_back e2 hp) (e2.trans (Ex.new hp)) upd_same⟩
theorem ev_isi {c : V} {t u : Value} {b : Bool} (h : EvA ta σ H [x, c]) (hc : ClsV c u) (hx : ∀ H1, Ex H H1 → TyX K H1 x t) (hb : PySem.W.kitOne K t u = some b) : Ev (tCB (rIsi K) ta) σ H (.bl b) := fun H1 e Q q =>
  h H1 e _ fun H2 e2 => ⟨x, c, t, u, b, rfl, hc, hx H2 (e.trans e2), hb, q H2 e2⟩
theorem s_asgT2 {i j : Nat} {D' : Ends} (h : EvU te σ H [x, y]) (k : ∀ H1, Ex H H1 → D'.nx ((σ.set i (some x)).set j (some y)) H1) : tAsg te (gTup K 2 (gCons (gName i) (gCons (gName j) gNil))) D' σ H :=
  h H (Ex.refl H) _ fun p H1 _ e hp => ⟨p, [x, y], rfl, st_of hp, rfl, x, [y], rfl, y, [], rfl, rfl, k H1 e⟩
theorem q_asgT2 {i j : Nat} {D' : Ends} {tz : TS} (h : EvU te σ H [x, y]) (k : ∀ H1, Ex H H1 → tz D' ((σ.set i (some x)).set j (some y)) H1) : tSeq (tAsg te (gTup K 2 (gCons (gName i) (gCons (gName j) gNil)))) tz D' σ H := s_asgT2 (D' := { D' with nx := tz D' }) h k
theorem ix_ev {v : V} {i : Int} {tb tl : TE} (hl : EvL tl σ H xs) (hb : ∀ H1, Ex H H1 → Ev tb σ H1 (.int i)) (ha : atI xs i = some v) : Ev (tOp (rIxL K) tl tb) σ H v :=
  ev_opL1 hl hb fun _ _ hp _ => rv_ixL (sq_of hp) ha
end
/-! ### displays of tuples -/
/-- refs of tuples that hold these -/
def Tups (H : Hp) : List V → List (List V) → Prop
  | [], [] => True
  | v :: r, xs :: rs => (∃ p, v = .ref p ∧ H p = some (.tup xs)) ∧ Tups H r rs
  | _, _ => False
theorem Tups.mono {H H' : Hp} (e : Ex H H') : ∀ {vs : List V} {xss : List (List V)}, Tups H vs xss → Tups H' vs xss
  | [], [], _ => True.intro
  | _ :: _, _ :: _, ⟨⟨p, e1, h⟩, t⟩ => ⟨⟨p, e1, e _ _ h⟩, Tups.mono e t⟩
  | [], _ :: _, h => h.elim
  | _ :: _, [], h => h.elim
def EvTs (ta : TA) (σ : L2.St) (H : Hp) (xss : List (List V)) : Prop := ∀ H1, Ex H H1 → ∀ Q : List V → Hp → Prop, (∀ ps H2, Ex H1 H2 → Tups H2 ps xss → ps.length = xss.length → Q ps H2) → ta σ H1 Q
section
variable {K : PySem.W.Frag} {σ : L2.St} {H : Hp} {ta : TA} {te : TE} {xs : List V} {xss : List (List V)}
theorem ets_nil : EvTs tNil σ H [] := fun H1 _ _ q => q [] H1 (Ex.refl H1) True.intro rfl
theorem ets_cons (h : EvU te σ H xs) (hr : EvTs ta σ H xss) : EvTs (tCons te ta) σ H (xs :: xss) := fun H1 e Q q =>
  h H1 e _ fun p H2 _ e2 hp => hr H2 (e.trans e2) _ fun ps H3 e3 t hl => q (.ref p :: ps) H3 (e2.trans e3) ⟨⟨p, rfl, e3 _ _ hp⟩, t⟩ (by rw [List.length_cons, List.length_cons, hl])
theorem q_asgTs {i : Nat} {D' : Ends} {tz : TS} (h : EvTs ta σ H xss) (hz : xss.length ≤ 100000) (k : ∀ l ps H1, H l = none → Ex H H1 → H1 l = some (.lst ps) → Tups H1 ps xss → tz D' (σ.set i (some (.ref l))) H1) : tSeq (tAsg (tLst ta) (gName i)) tz D' σ H :=
  h H (Ex.refl H) _ fun ps H2 e2 t hl => ⟨sz_of (by rw [hl]; exact hz), fun l nl => k l ps _ (fresh_back e2 nl) (e2.trans (Ex.new nl)) upd_same (t.mono (Ex.new nl))⟩
end
/-! ### int facts for the wide rules -/
theorem big_mod {i j : Int} {n : Nat} (h0 : 0 < j) (h : j.natAbs ≤ 2 ^ n) : (i % j).natAbs < 2 ^ n := by
  have h1 := Int.emod_nonneg i (show j ≠ 0 by omega)
  have h2 := Int.emod_lt_of_pos i h0
  omega
/-! ### the walk of an expression -/
local macro_rules | `(tactic| walk_at "ev") => `(tactic| first
  | exact ev_var rfl
  | exact ev_c
  | exact rv_I0
  | exact ea_nil
  | (apply ea_cons <;> walk_at "ev")
  | (apply ev_op <;> walk_at "ev")
  | (apply rv_I)
  | (exact rv_eq rfl)
  | (apply et_test <;> walk_at "ev")
  | skip)
example {σ : L2.St} {H : Hp} : Ev (tOp (rI0 fun i j => .int (i + j)) (tVar 0) (tC (.int 3))) [some (.int 2)] H (.int 5) := by
  apply ev_is
  · walk_at "ev"
  · rfl
end BF

/-! Figures of a number: plain Lean. -/
namespace BF
/-- the figures, the last one first -/
def digs (b n : Nat) : List Nat := if h : n = 0 ∨ b < 2 then [] else (n % b) :: digs b (n / b)
termination_by n
decreasing_by exact Nat.div_lt_self (by omega) (by omega)
theorem digs_zero (b : Nat) : digs b 0 = [] := by
  unfold digs
  rw [dif_pos (Or.inl rfl)]
theorem digs_pos {b n : Nat} (hb : 2 ≤ b) (hn : 0 < n) : digs b n = (n % b) :: digs b (n / b) := by
  conv => lhs; unfold digs
  rw [dif_neg (by omega)]
theorem digs_len {b : Nat} (hb : 2 ≤ b) : ∀ (m n : Nat), n < 2 ^ m → (digs b n).length ≤ m
  | 0, n, h => by
    have h0 : n = 0 := by simpa using h
    subst h0
    rw [digs_zero]
    exact Nat.le_refl _
  | m + 1, n, h => by
    by_cases hn : n = 0
    · subst hn
      rw [digs_zero]
      exact Nat.zero_le _
    · rw [digs_pos hb (by omega), List.length_cons]
      have h2 : n / b < 2 ^ m := by
        have h3 : n / b ≤ n / 2 := Nat.div_le_div_left hb (by omega)
        have h4 : n / 2 < 2 ^ m := Nat.div_lt_of_lt_mul (by rw [Nat.pow_succ] at h; omega)
        omega
      have := digs_len hb m (n / b) h2
      omega
theorem div_lt_pow {b n m : Nat} (h : n < 2 ^ m) : n / b < 2 ^ m := Nat.lt_of_le_of_lt (Nat.div_le_self n b) h
/-! Where two numbers part. -/
def partAt (b x y : Nat) : Nat := if h : x = y ∨ b < 2 then 0 else partAt b (x / b) (y / b) + 1
termination_by x + y
decreasing_by
  have h1 : x / b ≤ x := Nat.div_le_self x b
  have h2 : y / b ≤ y := Nat.div_le_self y b
  by_cases hx : x = 0
  · have h3 : y / b < y := Nat.div_lt_self (by omega) (by omega)
    omega
  · have h3 : x / b < x := Nat.div_lt_self (by omega) (by omega)
    omega
theorem partAt_eq (b x : Nat) : partAt b x x = 0 := by
  unfold partAt
  rw [dif_pos (Or.inl rfl)]
theorem partAt_ne {b x y : Nat} (hb : 2 ≤ b) (h : x ≠ y) : partAt b x y = partAt b (x / b) (y / b) + 1 := by
  conv => lhs; unfold partAt
  rw [dif_neg (by omega)]
theorem div_sum_lt {b x y : Nat} (hb : 2 ≤ b) (h : x ≠ y) : x / b + y / b < x + y := by
  have h1 : x / b ≤ x := Nat.div_le_self x b
  have h2 : y / b ≤ y := Nat.div_le_self y b
  by_cases hx : x = 0
  · have h3 : y / b < y := Nat.div_lt_self (by omega) (by omega)
    omega
  · have h3 : x / b < x := Nat.div_lt_self (by omega) (by omega)
    omega
theorem partAt_comm {b : Nat} (hb : 2 ≤ b) : ∀ (m x y : Nat), x + y ≤ m → partAt b x y = partAt b y x
  | 0, x, y, h => by
    have e1 : x = 0 := by omega
    have e2 : y = 0 := by omega
    subst e1 e2
    rfl
  | m + 1, x, y, h => by
    by_cases e : x = y
    · subst e
      rfl
    · rw [partAt_ne hb e, partAt_ne hb (Ne.symm e), partAt_comm hb m (x / b) (y / b) (by have := div_sum_lt hb e; omega)]
/-! More of figures. -/
theorem digs_lt {b : Nat} (hb : 2 ≤ b) : ∀ (m n : Nat), n ≤ m → ∀ d ∈ digs b n, d < b
  | 0, n, h, d, hd => by
    have e : n = 0 := by omega
    subst e
    rw [digs_zero] at hd
    cases hd
  | m + 1, n, h, d, hd => by
    by_cases hn : n = 0
    · subst hn
      rw [digs_zero] at hd
      cases hd
    · rw [digs_pos hb (by omega)] at hd
      rcases List.mem_cons.mp hd with e | hd
      · rw [e]
        exact Nat.mod_lt n (by omega)
      · exact digs_lt hb m (n / b) (by have := Nat.div_lt_self (show 0 < n by omega) (show 1 < b by omega); omega) d hd
/-- the first figure is no nought -/
theorem digs_last {b : Nat} (hb : 2 ≤ b) : ∀ (m n : Nat), n ≤ m → 0 < n → ∃ M d, digs b n = M ++ [d] ∧ d ≠ 0
  | 0, n, h, hn => by omega
  | m + 1, n, h, hn => by
    by_cases hq : n / b = 0
    · refine ⟨[], n % b, ?_, ?_⟩
      · rw [digs_pos hb hn, hq, digs_zero]
        rfl
      · have := Nat.div_add_mod n b
        rw [hq, Nat.mul_zero, Nat.zero_add] at this
        omega
    · obtain ⟨M, d, e, hd⟩ := digs_last hb m (n / b) (by have := Nat.div_lt_self hn (show 1 < b by omega); omega) (Nat.pos_of_ne_zero hq)
      exact ⟨(n % b) :: M, d, by rw [digs_pos hb hn, e] <;> rfl, hd⟩
end BF

/-! The store as plain data: what lies in which bucket, in which order; the law of its order. -/
namespace BF
/-! ### the place at which two numbers part -/
theorem partAt_zero {b x y : Nat} (hb : 2 ≤ b) : partAt b x y = 0 ↔ x = y := by
  constructor
  · intro h
    by_cases e : x = y
    · exact e
    · rw [partAt_ne hb e] at h
      omega
  · intro h
    subst h
    exact partAt_eq b x
theorem part_le {b : Nat} (hb : 2 ≤ b) : ∀ (k x y : Nat), partAt b x y ≤ k ↔ x / b ^ k = y / b ^ k
  | 0, x, y => by
    rw [Nat.pow_zero, Nat.div_one, Nat.div_one]
    exact ⟨fun h => (partAt_zero hb).mp (by omega), fun h => Nat.le_of_eq ((partAt_zero hb).mpr h)⟩
  | k + 1, x, y => by
    by_cases e : x = y
    · subst e
      rw [partAt_eq]
      exact ⟨fun _ => rfl, fun _ => Nat.zero_le _⟩
    · rw [partAt_ne hb e, Nat.pow_succ', ← Nat.div_div_eq_div_mul, ← Nat.div_div_eq_div_mul, ← part_le hb k (x / b) (y / b)]
      omega
theorem part_comm {b x y : Nat} (hb : 2 ≤ b) : partAt b x y = partAt b y x := partAt_comm hb (x + y) x y (Nat.le_refl _)
theorem part_trans {b k x y z : Nat} (hb : 2 ≤ b) (h1 : partAt b x y ≤ k) (h2 : partAt b y z ≤ k) : partAt b x z ≤ k :=
  (part_le hb k x z).mpr (((part_le hb k x y).mp h1).trans ((part_le hb k y z).mp h2))
/-- a nearer third one changes nothing -/
theorem part_near {b x y z : Nat} (hb : 2 ≤ b) (h : partAt b y z < partAt b x y) : partAt b x z = partAt b x y := by
  have h1 : partAt b x z ≤ partAt b x y := part_trans hb (Nat.le_refl _) (Nat.le_of_lt h)
  by_cases e : partAt b x z < partAt b x y
  · exfalso
    have h2 : partAt b z y ≤ partAt b x y - 1 := by rw [part_comm hb]; omega
    have h3 := part_trans hb (show partAt b x z ≤ partAt b x y - 1 by omega) h2
    omega
  · omega
/-- of two numbers not less than z the one that parts from z lower is the less -/
theorem part_lt {b x y z : Nat} (hb : 2 ≤ b) (hx : z ≤ x) (hy : z ≤ y) (h : partAt b x z < partAt b y z) : x < y := by
  have e1 := (part_le hb (partAt b y z - 1) x z).mp (by omega)
  have e2 : ¬ y / b ^ (partAt b y z - 1) = z / b ^ (partAt b y z - 1) := fun e => by
    have := (part_le hb (partAt b y z - 1) y z).mpr e
    omega
  have e3 : z / b ^ (partAt b y z - 1) ≤ y / b ^ (partAt b y z - 1) := Nat.div_le_div_right hy
  have e4 : x / b ^ (partAt b y z - 1) < y / b ^ (partAt b y z - 1) := by omega
  by_cases hxy : x < y
  · exact hxy
  · have := Nat.div_le_div_right (c := b ^ (partAt b y z - 1)) (show y ≤ x by omega)
    omega
theorem part_len {b : Nat} (hb : 2 ≤ b) : ∀ (m n : Nat), n ≤ m → partAt b n 0 = (digs b n).length
  | 0, n, h => by
    have e : n = 0 := by omega
    subst e
    rw [partAt_eq, digs_zero]
    rfl
  | m + 1, n, h => by
    by_cases hn : n = 0
    · subst hn
      rw [partAt_eq, digs_zero]
      rfl
    · rw [partAt_ne hb hn, digs_pos hb (by omega), List.length_cons, Nat.zero_div, part_len hb m (n / b) (by have := Nat.div_lt_self (show 0 < n by omega) (show 1 < b by omega); omega)]
/-- two numbers part no further up than the greater one is long -/
theorem part_le_len {b x y : Nat} (hb : 2 ≤ b) (h : y ≤ x) : partAt b x y ≤ (digs b x).length := by
  have h1 := (part_le hb (digs b x).length x 0).mp (Nat.le_of_eq (part_len hb x x (Nat.le_refl _)))
  rw [Nat.zero_div] at h1
  refine (part_le hb _ x y).mpr ?_
  have h2 := Nat.div_le_div_right (c := b ^ (digs b x).length) h
  rw [h1] at h2
  rw [h1]
  exact (Nat.le_zero.mp h2).symm
theorem part_bound {b x y m : Nat} (hb : 2 ≤ b) (hx : x < 2 ^ m) (h : y ≤ x) : partAt b x y ≤ m := Nat.le_trans (part_le_len hb h) (digs_len hb m x hx)
/-! ### the store -/
structure Thing (α : Type) where
  num : Nat
  name : α
  cnt : Nat
def Thing.inc {α : Type} (t : Thing α) : Thing α := { t with cnt := t.cnt + 1 }
structure Sto (α : Type) where
  last : Nat
  B : Nat → List (Thing α)
  moves : Nat
section
variable {α : Type}
def Sto.new : Sto α := ⟨0, fun _ => [], 0⟩
def Sto.put (b : Nat) (s : Sto α) (n : Nat) (nm : α) : Sto α := { s with B := fun q => if q = partAt b n s.last then s.B q ++ [⟨n, nm, 0⟩] else s.B q }
/-- the bucket p is emptied around its least number m -/
def Sto.fallAt (b p m : Nat) (s : Sto α) : Sto α :=
  { last := m
    B := fun q => if q < p then ((s.B p).filter fun t => decide (partAt b t.num m = q)).map Thing.inc else if q = p then (s.B p).filter fun t => decide (partAt b t.num m = p) else s.B q
    moves := s.moves + ((s.B p).filter fun t => decide (partAt b t.num m < p)).length }
def Sto.pop (s : Sto α) : Sto α := { s with B := fun q => if q = 0 then (s.B 0).tail else s.B q }
/-- the bucket with the least number among those that are not empty -/
structure Low (s : Sto α) (p : Nat) : Prop where
  ne : s.B p ≠ []
  em : ∀ q, q < p → s.B q = []
theorem Low.uniq {s : Sto α} {p q : Nat} (h : Low s p) (k : Low s q) : p = q := by
  by_cases e : p < q
  · exact absurd (k.em p e) h.ne
  · by_cases e2 : q < p
    · exact absurd (h.em q e2) k.ne
    · omega
structure Least (l : List (Thing α)) (m : Nat) : Prop where
  mem : ∃ t, t ∈ l ∧ t.num = m
  le : ∀ t, t ∈ l → m ≤ t.num
theorem Least.uniq {l : List (Thing α)} {m n : Nat} (h : Least l m) (k : Least l n) : m = n := by
  obtain ⟨t, ht, e⟩ := h.mem
  obtain ⟨u, hu, e2⟩ := k.mem
  have := k.le t ht
  have := h.le u hu
  omega
/-- each thing lies where its number parts from the last one gone -/
structure Sto.Ok (b : Nat) (s : Sto α) : Prop where
  at_ : ∀ q t, t ∈ s.B q → partAt b t.num s.last = q
  ge : ∀ q t, t ∈ s.B q → s.last ≤ t.num
theorem ok_new (b : Nat) : (Sto.new : Sto α).Ok b := ⟨fun _ _ h => (nomatch h), fun _ _ h => (nomatch h)⟩
theorem ok_put {b : Nat} {s : Sto α} (o : s.Ok b) {n : Nat} (nm : α) (h : s.last ≤ n) : (s.put b n nm).Ok b := by
  refine ⟨fun q t ht => ?_, fun q t ht => ?_⟩
  · have ht : t ∈ (if q = partAt b n s.last then s.B q ++ [⟨n, nm, 0⟩] else s.B q) := ht
    split at ht
    · rename_i hq
      rcases List.mem_append.mp ht with ht | ht
      · exact o.at_ q t ht
      · rw [List.mem_singleton.mp ht]
        exact hq.symm
    · exact o.at_ q t ht
  · have ht : t ∈ (if q = partAt b n s.last then s.B q ++ [⟨n, nm, 0⟩] else s.B q) := ht
    split at ht
    · rcases List.mem_append.mp ht with ht | ht
      · exact o.ge q t ht
      · rw [List.mem_singleton.mp ht]
        exact h
    · exact o.ge q t ht
/-- what lies in bucket p parts from its least at p or lower -/
theorem part_in {b p m : Nat} {s : Sto α} (hb : 2 ≤ b) (o : s.Ok b) (hm : Least (s.B p) m) {t : Thing α} (ht : t ∈ s.B p) : partAt b t.num m ≤ p := by
  obtain ⟨u, hu, e⟩ := hm.mem
  rw [← e]
  exact part_trans hb (Nat.le_of_eq (o.at_ p t ht)) (Nat.le_of_eq ((part_comm hb).trans (o.at_ p u hu)))
theorem ok_fall {b p m : Nat} {s : Sto α} (hb : 2 ≤ b) (o : s.Ok b) (hp : Low s p) (hm : Least (s.B p) m) : (s.fallAt b p m).Ok b := by
  obtain ⟨u, hu, e⟩ := hm.mem
  have eu := o.at_ p u hu
  have gu := o.ge p u hu
  have key : ∀ q t, t ∈ (s.fallAt b p m).B q → partAt b t.num m = q ∧ m ≤ t.num := by
    intro q t ht
    have ht : t ∈ (if q < p then ((s.B p).filter fun t => decide (partAt b t.num m = q)).map Thing.inc else if q = p then (s.B p).filter fun t => decide (partAt b t.num m = p) else s.B q) := ht
    split at ht
    · obtain ⟨t', ht', rfl⟩ := List.mem_map.mp ht
      obtain ⟨h1, h2⟩ := List.mem_filter.mp ht'
      exact ⟨of_decide_eq_true h2, hm.le t' h1⟩
    · split at ht
      · rename_i hq
        obtain ⟨h1, h2⟩ := List.mem_filter.mp ht
        exact ⟨(of_decide_eq_true h2).trans hq.symm, hm.le t h1⟩
      · rename_i h1 h2
        have hq : p < q := by omega
        have et := o.at_ q t ht
        have gt := o.ge q t ht
        have near : partAt b s.last m < partAt b t.num s.last := by
          rw [et, ← e, part_comm hb, eu]
          exact hq
        refine ⟨(part_near hb near).trans et, ?_⟩
        rw [← e]
        exact Nat.le_of_lt (part_lt hb gu gt (by rw [eu, et]; exact hq))
  exact ⟨fun q t ht => (key q t ht).1, fun q t ht => (key q t ht).2⟩
theorem ok_pop {b : Nat} {s : Sto α} (o : s.Ok b) : s.pop.Ok b := by
  have key : ∀ q t, t ∈ s.pop.B q → t ∈ s.B q := by
    intro q t ht
    have ht : t ∈ (if q = 0 then (s.B 0).tail else s.B q) := ht
    split at ht
    · rename_i hq
      rw [hq]
      exact List.mem_of_mem_tail ht
    · exact ht
  exact ⟨fun q t ht => o.at_ q t (key q t ht), fun q t ht => o.ge q t (key q t ht)⟩
/-- bucket 0 holds the things of the last number alone -/
theorem zero_num {b : Nat} {s : Sto α} (hb : 2 ≤ b) (o : s.Ok b) {t : Thing α} (ht : t ∈ s.B 0) : t.num = s.last := (partAt_zero hb).mp (o.at_ 0 t ht)
/-- behind the fall bucket 0 holds what had the least number -/
theorem fall_zero {b p m : Nat} {s : Sto α} (hb : 2 ≤ b) (hp : 0 < p) : (s.fallAt b p m).B 0 = ((s.B p).filter fun t => decide (t.num = m)).map Thing.inc := by
  show (if 0 < p then ((s.B p).filter fun t => decide (partAt b t.num m = 0)).map Thing.inc else _) = _
  rw [if_pos hp]
  congr 1
  apply List.filter_congr
  intro t _
  exact decide_eq_decide.mpr (partAt_zero hb)
/-- the least of the low bucket is the least of all -/
theorem low_least {b p m : Nat} {s : Sto α} (hb : 2 ≤ b) (o : s.Ok b) (hp : Low s p) (hm : Least (s.B p) m) {q : Nat} {t : Thing α} (ht : t ∈ s.B q) : m ≤ t.num := by
  by_cases h1 : q < p
  · rw [hp.em q h1] at ht
    cases ht
  · by_cases h2 : q = p
    · subst h2
      exact hm.le t ht
    · obtain ⟨u, hu, e⟩ := hm.mem
      rw [← e]
      exact Nat.le_of_lt (part_lt hb (o.ge p u hu) (o.ge q t ht) (by rw [o.at_ p u hu, o.at_ q t ht]; omega))
/-- the one that goes: behind the fall (or at once, where bucket 0 is not empty) the first of bucket 0 -/
structure Goes (b : Nat) (s s' : Sto α) (t : Thing α) : Prop where
  ex : ∃ p, Low s p ∧ ((p = 0 ∧ ∃ r, s.B 0 = t :: r ∧ s' = s.pop) ∨ (0 < p ∧ ∃ m r, Least (s.B p) m ∧ (s.fallAt b p m).B 0 = t :: r ∧ s' = (s.fallAt b p m).pop))
theorem ok_goes {b : Nat} {s s' : Sto α} {t : Thing α} (hb : 2 ≤ b) (o : s.Ok b) (g : Goes b s s' t) : s'.Ok b := by
  obtain ⟨p, hp, ⟨_, r, _, rfl⟩ | ⟨_, m, r, hm, _, rfl⟩⟩ := g.ex
  · exact ok_pop o
  · exact ok_pop (ok_fall hb o hp hm)
theorem goes_last {b : Nat} {s s' : Sto α} {t : Thing α} (hb : 2 ≤ b) (o : s.Ok b) (g : Goes b s s' t) : s'.last = t.num := by
  obtain ⟨p, hp, ⟨_, r, e, rfl⟩ | ⟨h0, m, r, hm, e, rfl⟩⟩ := g.ex
  · exact (zero_num hb o (by rw [e]; exact List.mem_cons_self)).symm
  · exact (zero_num hb (ok_fall hb o hp hm) (by rw [e]; exact List.mem_cons_self)).symm
theorem goes_least {b : Nat} {s s' : Sto α} {t : Thing α} (hb : 2 ≤ b) (o : s.Ok b) (g : Goes b s s' t) {q : Nat} {u : Thing α} (hu : u ∈ s.B q) : t.num ≤ u.num := by
  obtain ⟨p, hp, ⟨h0, r, e, rfl⟩ | ⟨h0, m, r, hm, e, rfl⟩⟩ := g.ex
  · rw [zero_num hb o (t := t) (by rw [e]; exact List.mem_cons_self)]
    exact o.ge q u hu
  · have h1 : t.num = m := zero_num hb (ok_fall hb o hp hm) (by rw [e]; exact List.mem_cons_self)
    rw [h1]
    exact low_least hb o hp hm hu
/-! ### the plain list of a law: numbers and names in the order in which they came -/
def nn (t : Thing α) : Nat × α := (t.num, t.name)
/-- of each number the list and the store hold the same, in the same order -/
def Alike (b : Nat) (s : Sto α) (l : List (Nat × α)) : Prop := ∀ n, l.filter (fun x => decide (x.1 = n)) = ((s.B (partAt b n s.last)).filter fun t => decide (t.num = n)).map nn
theorem alike_new (b : Nat) : Alike b (Sto.new : Sto α) [] := fun _ => rfl
theorem filter_other {q n : Nat} {b : Nat} {s : Sto α} (o : s.Ok b) (h : q ≠ partAt b n s.last) : (s.B q).filter (fun t => decide (t.num = n)) = [] := by
  rw [List.filter_eq_nil_iff]
  intro t ht z
  have e := of_decide_eq_true z
  rw [← e] at h
  exact h (o.at_ q t ht).symm
theorem alike_put {b : Nat} {s : Sto α} {l : List (Nat × α)} (a : Alike b s l) (n : Nat) (nm : α) : Alike b (s.put b n nm) (l ++ [(n, nm)]) := by
  intro k
  show (l ++ [(n, nm)]).filter _ = ((if partAt b k s.last = partAt b n s.last then s.B (partAt b k s.last) ++ [⟨n, nm, 0⟩] else s.B (partAt b k s.last)).filter fun t => decide (t.num = k)).map nn
  rw [List.filter_append, a k]
  by_cases hk : n = k
  · subst hk
    rw [if_pos rfl, List.filter_append, List.map_append]
    congr 1
    rw [List.filter_cons_of_pos (by simp), List.filter_cons_of_pos (by simp)]
    rfl
  · rw [List.filter_cons_of_neg (by simpa using hk)]
    split
    · rw [List.filter_append, List.filter_cons_of_neg (by simpa using hk), List.filter_nil, List.append_nil, List.filter_nil, List.append_nil]
    · rw [List.filter_nil, List.append_nil]
theorem nn_inc (l : List (Thing α)) : (l.map Thing.inc).map nn = l.map nn := by
  rw [List.map_map]
  rfl
/-- the fall moves no two things of one number apart -/
theorem alike_fall {b p m : Nat} {s : Sto α} (hb : 2 ≤ b) (o : s.Ok b) (hp : Low s p) (hm : Least (s.B p) m) {l : List (Nat × α)} (a : Alike b s l) : Alike b (s.fallAt b p m) l := by
  intro k
  rw [a k]
  have o2 := ok_fall hb o hp hm
  have inc_filter : ∀ (f : Nat → Bool) (l : List (Thing α)), (l.map Thing.inc).filter (fun t => f t.num) = (l.filter fun t => f t.num).map Thing.inc := by
    intro f l
    induction l with
    | nil => rfl
    | cons t r ih =>
      rw [List.map_cons]
      by_cases hf : f t.num = true
      · rw [List.filter_cons_of_pos (p := fun t : Thing α => f t.num) (show f (Thing.inc t).num = true from hf), List.filter_cons_of_pos (p := fun t : Thing α => f t.num) hf, ih, List.map_cons]
      · rw [List.filter_cons_of_neg (p := fun t : Thing α => f t.num) (show ¬ f (Thing.inc t).num = true from hf), List.filter_cons_of_neg (p := fun t : Thing α => f t.num) hf, ih]
  show _ = ((if partAt b k m < p then ((s.B p).filter fun t => decide (partAt b t.num m = partAt b k m)).map Thing.inc else if partAt b k m = p then (s.B p).filter fun t => decide (partAt b t.num m = p) else s.B (partAt b k m)).filter fun t => decide (t.num = k)).map nn
  obtain ⟨u, hu, eu⟩ := hm.mem
  have em := o.at_ p u hu
  rw [eu] at em
  have sub : ∀ (f : Thing α → Bool), (∀ t ∈ s.B p, t.num = k → f t = true) → ((s.B p).filter f).filter (fun t => decide (t.num = k)) = (s.B p).filter fun t => decide (t.num = k) := by
    intro f hf
    rw [List.filter_filter]
    apply List.filter_congr
    intro t ht
    by_cases hk : t.num = k
    · rw [hf t ht hk, Bool.and_true]
    · rw [decide_eq_false hk, Bool.false_and]
  split
  · rename_i h1
    have h2 : partAt b k s.last = p := by
      rw [part_comm hb] at h1
      have h3 : partAt b m k < partAt b s.last m := by rw [part_comm hb (x := s.last), em]; exact h1
      rw [part_comm hb, part_near hb h3, part_comm hb, em]
    rw [h2, inc_filter (fun n => decide (n = k)), nn_inc, sub _ (fun t ht e => by rw [e]; exact decide_eq_true rfl)]
  · rename_i h1
    split
    · rename_i h2
      rw [sub _ (fun t ht e => by rw [e, h2]; exact decide_eq_true rfl)]
      by_cases h3 : partAt b k s.last = p
      · rw [h3]
      · rw [filter_other o (q := p) (n := k) (Ne.symm h3)]
        have h4 : (s.B (partAt b k s.last)).filter (fun t => decide (t.num = k)) = [] := by
          rw [List.filter_eq_nil_iff]
          intro t ht z
          have e := of_decide_eq_true z
          have h5 : ¬ partAt b k s.last < p := fun q => by
            rw [hp.em _ q] at ht
            cases ht
          have h6 : p < partAt b k s.last := by omega
          have h7 : partAt b s.last m < partAt b k s.last := by rw [part_comm hb, em]; exact h6
          have h8 := part_near hb h7
          omega
        rw [h4]
    · rename_i h2
      have h3 : p < partAt b k m := by omega
      have h4 : partAt b m s.last < partAt b k m := by rw [em]; exact h3
      rw [part_near hb h4]
/-- the first of a number taken out of the plain list -/
def dropFirst (n : Nat) : List (Nat × α) → List (Nat × α)
  | [] => []
  | x :: r => if x.1 = n then r else x :: dropFirst n r
theorem drop_same (n : Nat) : ∀ l : List (Nat × α), (dropFirst n l).filter (fun x => decide (x.1 = n)) = (l.filter fun x => decide (x.1 = n)).tail
  | [] => rfl
  | x :: r => by
    show (if x.1 = n then r else x :: dropFirst n r).filter _ = _
    split
    · rename_i h
      rw [List.filter_cons_of_pos (by simpa using h)]
      rfl
    · rename_i h
      rw [List.filter_cons_of_neg (by simpa using h), List.filter_cons_of_neg (by simpa using h), drop_same n r]
theorem drop_other {n k : Nat} (h : k ≠ n) : ∀ l : List (Nat × α), (dropFirst n l).filter (fun x => decide (x.1 = k)) = l.filter fun x => decide (x.1 = k)
  | [] => rfl
  | x :: r => by
    show (if x.1 = n then r else x :: dropFirst n r).filter _ = _
    split
    · rename_i e
      rw [List.filter_cons_of_neg (by simp only [decide_eq_true_eq]; omega)]
    · by_cases e2 : x.1 = k
      · rw [List.filter_cons_of_pos (by simpa using e2), List.filter_cons_of_pos (by simpa using e2), drop_other h r]
      · rw [List.filter_cons_of_neg (by simpa using e2), List.filter_cons_of_neg (by simpa using e2), drop_other h r]
theorem alike_pop {b : Nat} {s : Sto α} (hb : 2 ≤ b) (o : s.Ok b) {l : List (Nat × α)} (a : Alike b s l) : Alike b s.pop (dropFirst s.last l) := by
  intro k
  show _ = ((if partAt b k s.last = 0 then (s.B 0).tail else s.B (partAt b k s.last)).filter fun t => decide (t.num = k)).map nn
  by_cases hk : k = s.last
  · subst hk
    rw [drop_same, a s.last, partAt_eq, if_pos rfl]
    have h1 : ∀ t ∈ s.B 0, decide (t.num = s.last) = true := fun t ht => decide_eq_true (zero_num hb o ht)
    rw [List.filter_eq_self.mpr h1, List.filter_eq_self.mpr fun t ht => h1 t (List.mem_of_mem_tail ht), List.map_tail]
  · rw [drop_other hk, a k, if_neg fun z => hk ((partAt_zero hb).mp z)]
theorem alike_goes {b : Nat} {s s' : Sto α} {t : Thing α} (hb : 2 ≤ b) (o : s.Ok b) (g : Goes b s s' t) {l : List (Nat × α)} (a : Alike b s l) : Alike b s' (dropFirst t.num l) := by
  have h := goes_last hb o g
  obtain ⟨p, hp, ⟨_, r, e, rfl⟩ | ⟨h0, m, r, hm, e, rfl⟩⟩ := g.ex
  · rw [← h]
    exact alike_pop hb o a
  · rw [← h]
    exact alike_pop hb (ok_fall hb o hp hm) (alike_fall hb o hp hm a)
/-- what goes is the first of its number in the plain list, and its number is the least of the list -/
theorem goes_first {b : Nat} {s s' : Sto α} {t : Thing α} (hb : 2 ≤ b) (o : s.Ok b) (g : Goes b s s' t) {l : List (Nat × α)} (a : Alike b s l) :
    (l.filter fun x => decide (x.1 = t.num)).head? = some (nn t) ∧ ∀ x ∈ l, t.num ≤ x.1 := by
  refine ⟨?_, fun x hx => ?_⟩
  · obtain ⟨p, hp, ⟨_, r, e, rfl⟩ | ⟨h0, m, r, hm, e, rfl⟩⟩ := g.ex
    · have h1 : t.num = s.last := zero_num hb o (by rw [e]; exact List.mem_cons_self)
      rw [a, h1, partAt_eq, e, List.filter_cons_of_pos (by simpa using h1)]
      rfl
    · have o2 := ok_fall hb o hp hm
      have h1 : t.num = m := zero_num hb o2 (by rw [e]; exact List.mem_cons_self)
      have a2 := alike_fall hb o hp hm a
      rw [a2, h1]
      show (List.map nn (List.filter (fun t => decide (t.num = m)) ((s.fallAt b p m).B (partAt b m m)))).head? = _
      rw [partAt_eq, e, List.filter_cons_of_pos (by simpa using h1)]
      rfl
  · have h1 : x ∈ l.filter fun y => decide (y.1 = x.1) := List.mem_filter.mpr ⟨hx, decide_eq_true rfl⟩
    rw [a x.1] at h1
    obtain ⟨u, hu, e⟩ := List.mem_map.mp h1
    have h2 := goes_least hb o g (List.mem_filter.mp hu).1
    have h3 : u.num = x.1 := congrArg Prod.fst e
    omega
end
end BF

/-! The store as plain data: how many there are, one thing at a time, the first least of a plain list, the rows. -/
namespace BF
/-! ### sums -/
def sumTo (f : Nat → Nat) : Nat → Nat
  | 0 => 0
  | M + 1 => sumTo f M + f M
theorem sumTo_up {f : Nat → Nat} {M : Nat} (h : ∀ q, M ≤ q → f q = 0) : ∀ k, sumTo f (M + k) = sumTo f M
  | 0 => rfl
  | k + 1 => by
    show sumTo f (M + k) + f (M + k) = _
    rw [sumTo_up h k, h (M + k) (Nat.le_add_right M k)]
    rfl
theorem sumTo_same {f g : Nat → Nat} : ∀ {M : Nat}, (∀ q, q < M → f q = g q) → sumTo f M = sumTo g M
  | 0, _ => rfl
  | M + 1, h => by
    show sumTo f M + f M = sumTo g M + g M
    rw [sumTo_same (M := M) fun q hq => h q (by omega), h M (by omega)]
theorem sumTo_upd {f g : Nat → Nat} {q : Nat} (h : ∀ p, p ≠ q → g p = f p) : ∀ {M : Nat}, q < M → sumTo g M + f q = sumTo f M + g q ∧ f q ≤ sumTo f M
  | 0, hq => by omega
  | M + 1, hq => by
    show sumTo g M + g M + f q = sumTo f M + f M + g q ∧ f q ≤ sumTo f M + f M
    by_cases e : q = M
    · subst e
      have h1 := sumTo_same (M := q) (f := g) (g := f) fun p hp => h p (by omega)
      omega
    · have h1 := sumTo_upd h (M := M) (by omega)
      have h2 := h M (fun z => e z.symm)
      omega
/-- a list without repeats, of numbers below M that have P, is no longer than those are many -/
theorem nodup_le (P : Nat → Bool) : ∀ (M : Nat) (D : List Nat), D.Nodup → (∀ q ∈ D, q < M ∧ P q = true) → D.length ≤ sumTo (fun q => if P q then 1 else 0) M
  | 0, D, _, h => by
    cases D with
    | nil => exact Nat.le_refl _
    | cons a r => exact absurd (h a List.mem_cons_self).1 (by omega)
  | M + 1, D, hn, h => by
    show _ ≤ sumTo _ M + (if P M = true then 1 else 0)
    by_cases hm : M ∈ D
    · have h1 := nodup_le P M (D.erase M) (hn.erase M) fun q hq => by
        have h2 := (hn.mem_erase_iff.mp hq)
        have h3 := h q h2.2
        exact ⟨by have := h2.1; omega, h3.2⟩
      rw [List.length_erase_of_mem hm] at h1
      rw [if_pos (h M hm).2]
      omega
    · have h1 := nodup_le P M D hn fun q hq => by
        have h3 := h q hq
        refine ⟨?_, h3.2⟩
        have : q ≠ M := fun e => hm (e ▸ hq)
        omega
      omega
theorem sumTo_le {f g : Nat → Nat} (h : ∀ q, f q ≤ g q) : ∀ M, sumTo f M ≤ sumTo g M
  | 0 => Nat.le_refl _
  | M + 1 => Nat.add_le_add (sumTo_le h M) (h M)
theorem sumTo_one : ∀ M, sumTo (fun _ => 1) M = M
  | 0 => rfl
  | M + 1 => by
    show sumTo _ M + 1 = M + 1
    rw [sumTo_one M]
section
variable {α : Type}
/-- n things are there -/
structure Tot (s : Sto α) (n : Nat) : Prop where
  ex : ∃ M, (∀ q, M ≤ q → s.B q = []) ∧ n = sumTo (fun q => (s.B q).length) M
theorem tot_new : Tot (Sto.new : Sto α) 0 := ⟨0, fun _ _ => rfl, rfl⟩
/-- one bucket changed -/
theorem tot_upd {s s' : Sto α} {n q : Nat} {l : List (Thing α)} (h : Tot s n) (e : ∀ p, s'.B p = if p = q then l else s.B p) : (s.B q).length ≤ n ∧ Tot s' (n - (s.B q).length + l.length) := by
  obtain ⟨M, hM, rfl⟩ := h.ex
  have h0 : ∀ p, M ≤ p → (fun q => (s.B q).length) p = 0 := fun p hp => by
    show (s.B p).length = 0
    rw [hM p hp]
    rfl
  have h1 := sumTo_up (f := fun q => (s.B q).length) h0 (q + 1)
  have h2 := sumTo_upd (f := fun q => (s.B q).length) (g := fun q => (s'.B q).length) (q := q) (fun p hp => by
    show (s'.B p).length = (s.B p).length
    rw [e p, if_neg hp]) (M := M + (q + 1)) (by omega)
  have h3 : (s'.B q).length = l.length := by rw [e q, if_pos rfl]
  rw [h1] at h2
  have h2 : sumTo (fun q => (s'.B q).length) (M + (q + 1)) + (s.B q).length = sumTo (fun q => (s.B q).length) M + (s'.B q).length ∧ (s.B q).length ≤ sumTo (fun q => (s.B q).length) M := h2
  rw [h3] at h2
  refine ⟨h2.2, M + (q + 1), fun p hp => ?_, by omega⟩
  rw [e p, if_neg (by omega)]
  exact hM p (by omega)
theorem tot_none {s : Sto α} {n : Nat} (h : Tot s n) (h0 : n = 0) (q : Nat) : s.B q = [] := by
  have h1 := (tot_upd (s' := s) (q := q) (l := s.B q) h fun p => by split <;> simp_all).1
  exact List.length_eq_zero_iff.mp (by omega)
theorem tot_zero {s : Sto α} {n : Nat} (h : Tot s n) (h0 : ∀ q, s.B q = []) : n = 0 := by
  obtain ⟨M, hM, rfl⟩ := h.ex
  have : ∀ M, sumTo (fun q => (s.B q).length) M = 0 := fun M => by
    induction M with
    | zero => rfl
    | succ M ih =>
      show sumTo _ M + (s.B M).length = 0
      rw [ih, h0 M]
      rfl
  exact this M
/-- as long as one is there, one bucket is the lowest that is not empty -/
theorem tot_low {s : Sto α} {n : Nat} (h : Tot s n) (h0 : 0 < n) : ∃ p, Low s p := by
  have key : ∀ M, (∃ p, p < M ∧ Low s p) ∨ ∀ q, q < M → s.B q = [] := by
    intro M
    induction M with
    | zero => exact Or.inr fun q hq => absurd hq (by omega)
    | succ M ih =>
      rcases ih with ⟨p, hp, hl⟩ | ih
      · exact Or.inl ⟨p, by omega, hl⟩
      · by_cases e : s.B M = []
        · refine Or.inr fun q hq => ?_
          by_cases e2 : q = M
          · rw [e2]
            exact e
          · exact ih q (by omega)
        · exact Or.inl ⟨M, by omega, e, ih⟩
  obtain ⟨M, hM, e⟩ := h.ex
  rcases key M with ⟨p, _, hl⟩ | k
  · exact ⟨p, hl⟩
  · have := tot_zero ⟨M, hM, e⟩ fun q => by
      by_cases hq : q < M
      · exact k q hq
      · exact hM q (by omega)
    omega
/-- fewer than 64 buckets are not empty -/
def Few (s : Sto α) : Prop := ∀ D : List Nat, D.Nodup → (∀ q ∈ D, s.B q ≠ []) → D.length < 64
theorem few_tot {s : Sto α} {n : Nat} (h : Tot s n) (hn : n < 64) : Few s := fun D hD hne => by
  obtain ⟨M, hM, rfl⟩ := h.ex
  have h1 := nodup_le (fun q => decide (s.B q ≠ [])) M D hD fun q hq => ⟨by
    have := hne q hq
    have h2 : ¬ M ≤ q := fun z => this (hM q z)
    omega, decide_eq_true (hne q hq)⟩
  have h2 := sumTo_le (f := fun q => if decide (s.B q ≠ []) = true then 1 else 0) (g := fun q => (s.B q).length) (fun q => by
    by_cases e : s.B q = []
    · simp [e]
    · have : 0 < (s.B q).length := List.length_pos_iff.mpr e
      simp only [decide_not, Bool.not_eq_eq_eq_not, Bool.not_true, decide_eq_false_iff_not]
      split <;> omega) M
  omega
theorem few_low {s : Sto α} (h : ∀ q, 63 ≤ q → s.B q = []) : Few s := fun D hD hne => by
  have h1 := nodup_le (fun _ => true) 63 D hD fun q hq => ⟨by
    have := hne q hq
    have h2 : ¬ 63 ≤ q := fun z => this (h q z)
    omega, rfl⟩
  have h2 : sumTo (fun _ => if true = true then 1 else 0) 63 = 63 := sumTo_one 63
  rw [h2] at h1
  omega
/-! ### one thing at a time -/
/-- a thing laid into bucket q -/
def Sto.lay (s : Sto α) (q : Nat) (t : Thing α) : Sto α := { s with B := fun p => if p = q then s.B p ++ [t] else s.B p }
theorem put_lay (b : Nat) (s : Sto α) (n : Nat) (nm : α) : s.put b n nm = s.lay (partAt b n s.last) ⟨n, nm, 0⟩ := rfl
/-- bucket p taken out -/
def Sto.cut (s : Sto α) (p : Nat) : Sto α := { s with B := fun q => if q = p then [] else s.B q }
def Sto.at_ (s : Sto α) (m : Nat) : Sto α := { s with last := m }
def Sto.more (s : Sto α) : Sto α := { s with moves := s.moves + 1 }
def fallOne (b p : Nat) (s : Sto α) (t : Thing α) : Sto α := if partAt b t.num s.last < p then s.more.lay (partAt b t.num s.last) t.inc else s.lay (partAt b t.num s.last) t
theorem fallOn_all (b p m : Nat) : ∀ (l : List (Thing α)) (s : Sto α), s.last = m → (∀ t ∈ l, partAt b t.num m ≤ p) →
    (l.foldl (fallOne b p) s).last = m ∧ (l.foldl (fallOne b p) s).moves = s.moves + (l.filter fun t => decide (partAt b t.num m < p)).length ∧
    ∀ q, (l.foldl (fallOne b p) s).B q = if q < p then s.B q ++ (l.filter fun t => decide (partAt b t.num m = q)).map Thing.inc else if q = p then s.B q ++ l.filter fun t => decide (partAt b t.num m = p) else s.B q
  | [], s, hs, _ => by
    refine ⟨hs, rfl, fun q => ?_⟩
    show s.B q = _
    split
    · exact (List.append_nil _).symm
    · split
      · exact (List.append_nil _).symm
      · rfl
  | t :: r, s, hs, h => by
    have ht := h t List.mem_cons_self
    have hr : ∀ u ∈ r, partAt b u.num m ≤ p := fun u hu => h u (List.mem_cons_of_mem _ hu)
    rw [List.foldl_cons]
    by_cases hp : partAt b t.num m < p
    · have e1 : fallOne b p s t = s.more.lay (partAt b t.num m) t.inc := by
        unfold fallOne
        rw [hs, if_pos hp]
      rw [e1]
      obtain ⟨i1, i2, i3⟩ := fallOn_all b p m r (s.more.lay (partAt b t.num m) t.inc) hs hr
      refine ⟨i1, ?_, fun q => ?_⟩
      · rw [i2, List.filter_cons_of_pos (by simpa using hp), List.length_cons]
        show s.moves + 1 + _ = _
        omega
      · rw [i3 q]
        show (if q < p then (if q = partAt b t.num m then s.B q ++ [t.inc] else s.B q) ++ _ else if q = p then (if q = partAt b t.num m then s.B q ++ [t.inc] else s.B q) ++ _ else (if q = partAt b t.num m then s.B q ++ [t.inc] else s.B q)) = _
        by_cases hq : q < p
        · rw [if_pos hq, if_pos hq]
          by_cases e : q = partAt b t.num m
          · rw [if_pos e, List.filter_cons_of_pos (by simpa using e.symm), List.map_cons, List.append_assoc]
            rfl
          · rw [if_neg e, List.filter_cons_of_neg (by simpa using fun z => e z.symm)]
        · rw [if_neg hq, if_neg hq]
          by_cases hq2 : q = p
          · rw [if_pos hq2, if_pos hq2, if_neg (by omega), List.filter_cons_of_neg (by simp only [decide_eq_true_eq]; omega)]
          · rw [if_neg hq2, if_neg hq2, if_neg (by omega)]
    · have hpe : partAt b t.num m = p := by omega
      have e1 : fallOne b p s t = s.lay (partAt b t.num m) t := by
        unfold fallOne
        rw [hs, if_neg hp]
      rw [e1]
      obtain ⟨i1, i2, i3⟩ := fallOn_all b p m r (s.lay (partAt b t.num m) t) hs hr
      refine ⟨i1, ?_, fun q => ?_⟩
      · rw [i2, List.filter_cons_of_neg (by simpa using hp)]
        rfl
      · rw [i3 q]
        show (if q < p then (if q = partAt b t.num m then s.B q ++ [t] else s.B q) ++ _ else if q = p then (if q = partAt b t.num m then s.B q ++ [t] else s.B q) ++ _ else (if q = partAt b t.num m then s.B q ++ [t] else s.B q)) = _
        by_cases hq : q < p
        · rw [if_pos hq, if_pos hq, if_neg (by omega), List.filter_cons_of_neg (by simp only [decide_eq_true_eq]; omega)]
        · rw [if_neg hq, if_neg hq]
          by_cases hq2 : q = p
          · rw [if_pos hq2, if_pos hq2, if_pos (by omega), List.filter_cons_of_pos (by simpa using hpe), List.append_assoc]
            rfl
          · rw [if_neg hq2, if_neg hq2, if_neg (by omega)]
theorem one_last {b p : Nat} {s : Sto α} {t : Thing α} : (fallOne b p s t).last = s.last := by
  unfold fallOne
  split <;> rfl
theorem on_last {b p : Nat} : ∀ (l : List (Thing α)) (s : Sto α), (l.foldl (fallOne b p) s).last = s.last
  | [], _ => rfl
  | t :: r, s => by
    rw [List.foldl_cons, on_last r]
    exact one_last
theorem flat_len {β γ : Type} {f : β → List γ} {n : Nat} : ∀ {ks : List β}, (∀ q ∈ ks, (f q).length ≤ n) → (ks.flatMap f).length ≤ ks.length * n
  | [], _ => Nat.zero_le _
  | q :: r, h => by
    rw [List.flatMap_cons, List.length_append, List.length_cons, Nat.add_mul]
    have h1 := h q List.mem_cons_self
    have h2 := flat_len (ks := r) fun x hx => h x (List.mem_cons_of_mem _ hx)
    omega
theorem sto_ext {s s' : Sto α} (h1 : s.last = s'.last) (h2 : ∀ q, s.B q = s'.B q) (h3 : s.moves = s'.moves) : s = s' := by
  obtain ⟨a, b, c⟩ := s
  obtain ⟨a', b', c'⟩ := s'
  have e1 : a = a' := h1
  have e3 : c = c' := h3
  have e2 : b = b' := funext h2
  subst e1 e2 e3
  rfl
/-- the fall, one thing at a time -/
theorem fallOn_eq {b p m : Nat} {s : Sto α} (hp : Low s p) (h : ∀ t ∈ s.B p, partAt b t.num m ≤ p) : (s.B p).foldl (fallOne b p) ((s.cut p).at_ m) = s.fallAt b p m := by
  obtain ⟨i1, i2, i3⟩ := fallOn_all b p m (s.B p) ((s.cut p).at_ m) rfl h
  refine sto_ext i1 (fun q => ?_) i2
  rw [i3 q]
  show (if q < p then (if q = p then [] else s.B q) ++ _ else if q = p then (if q = p then [] else s.B q) ++ _ else (if q = p then [] else s.B q)) = if q < p then _ else if q = p then _ else s.B q
  by_cases hq : q < p
  · rw [if_pos hq, if_pos hq, if_neg (by omega), hp.em q hq]
    rfl
  · rw [if_neg hq, if_neg hq]
    by_cases hq2 : q = p
    · rw [if_pos hq2, if_pos hq2, if_pos hq2]
      rfl
    · rw [if_neg hq2, if_neg hq2, if_neg hq2]
theorem tot_lay {s : Sto α} {n q : Nat} {t : Thing α} (h : Tot s n) : Tot (s.lay q t) (n + 1) := by
  have h1 := tot_upd (s' := s.lay q t) (q := q) (l := s.B q ++ [t]) h fun p => by
    show (if p = q then s.B p ++ [t] else s.B p) = _
    split
    · rename_i e
      rw [e]
    · rfl
  rw [List.length_append, List.length_singleton] at h1
  have e : n - (s.B q).length + ((s.B q).length + 1) = n + 1 := by omega
  rw [e] at h1
  exact h1.2
theorem tot_put {b : Nat} {s : Sto α} {n k : Nat} {nm : α} (h : Tot s n) : Tot (s.put b k nm) (n + 1) := tot_lay h
theorem tot_cut {s : Sto α} {n p : Nat} (h : Tot s n) : Tot (s.cut p) (n - (s.B p).length) ∧ (s.B p).length ≤ n := by
  have h1 := tot_upd (s' := s.cut p) (q := p) (l := []) h fun _ => rfl
  exact ⟨h1.2, h1.1⟩
theorem tot_of {s s' : Sto α} {n : Nat} (h : Tot s n) (e : s'.B = s.B) : Tot s' n := by
  obtain ⟨M, h1, h2⟩ := h.ex
  exact ⟨M, fun q hq => by rw [e]; exact h1 q hq, by rw [e]; exact h2⟩
theorem tot_one {b p : Nat} {s : Sto α} {n : Nat} {t : Thing α} (h : Tot s n) : Tot (fallOne b p s t) (n + 1) := by
  unfold fallOne
  split
  · exact tot_lay (tot_of (s' := s.more) h rfl)
  · exact tot_lay h
theorem tot_on {b p : Nat} : ∀ (l : List (Thing α)) {s : Sto α} {n : Nat}, Tot s n → Tot (l.foldl (fallOne b p) s) (n + l.length)
  | [], _, _, h => h
  | t :: r, s, n, h => by
    have h1 := tot_on (b := b) (p := p) r (tot_one (b := b) (p := p) (t := t) h)
    rw [List.foldl_cons, List.length_cons]
    have e : n + 1 + r.length = n + (r.length + 1) := by omega
    rw [e] at h1
    exact h1
theorem tot_fall {b p m : Nat} {s : Sto α} {n : Nat} (hp : Low s p) (hm : ∀ t ∈ s.B p, partAt b t.num m ≤ p) (h : Tot s n) : Tot (s.fallAt b p m) n := by
  rw [← fallOn_eq hp hm]
  have h1 := tot_cut (p := p) h
  have h2 := tot_on (b := b) (p := p) (s.B p) (tot_of (s' := (s.cut p).at_ m) h1.1 rfl)
  have e : n - (s.B p).length + (s.B p).length = n := by have := h1.2; omega
  rw [e] at h2
  exact h2
theorem tot_pop {s : Sto α} {n : Nat} {t : Thing α} {r : List (Thing α)} (h : Tot s n) (e : s.B 0 = t :: r) : Tot s.pop (n - 1) ∧ 0 < n := by
  have h1 := tot_upd (s' := s.pop) (q := 0) (l := r) h fun p => by
    show (if p = 0 then (s.B 0).tail else s.B p) = _
    rw [e]
    rfl
  rw [e, List.length_cons] at h1
  have e2 : n - (r.length + 1) + r.length = n - 1 := by omega
  rw [e2] at h1
  exact ⟨h1.2, by omega⟩
theorem tot_goes {b : Nat} {s s' : Sto α} {n : Nat} {t : Thing α} (hb : 2 ≤ b) (o : s.Ok b) (h : Tot s n) (g : Goes b s s' t) : Tot s' (n - 1) ∧ 0 < n := by
  obtain ⟨p, hp, ⟨_, r, e, rfl⟩ | ⟨_, m, r, hm, e, rfl⟩⟩ := g.ex
  · exact tot_pop h e
  · exact tot_pop (tot_fall hp (fun t ht => part_in hb o hm ht) h) e
/-! ### the first of the least in a plain list -/
structure IsFirst (l : List (Nat × α)) (i : Nat) (x : Nat × α) : Prop where
  at_ : l[i]? = some x
  le : ∀ (j : Nat) (y : Nat × α), l[j]? = some y → x.1 ≤ y.1 ∧ (j < i → x.1 < y.1)
theorem drop_at (n : Nat) : ∀ (l : List (Nat × α)) (i : Nat) (x : Nat × α), l[i]? = some x → x.1 = n → (∀ (j : Nat) (y : Nat × α), l[j]? = some y → j < i → y.1 ≠ n) →
    (l.filter fun y => decide (y.1 = n)).head? = some x ∧ dropFirst n l = l.take i ++ l.drop (i + 1)
  | [], i, x, h, _, _ => by
    cases h
  | y :: r, 0, x, h, hx, _ => by
    have e : y = x := by simpa using h
    subst e
    refine ⟨?_, ?_⟩
    · rw [List.filter_cons_of_pos (by simpa using hx)]
      rfl
    · show (if y.1 = n then r else y :: dropFirst n r) = _
      rw [if_pos hx]
      rfl
  | y :: r, i + 1, x, h, hx, hj => by
    have hy : y.1 ≠ n := hj 0 y rfl (by omega)
    obtain ⟨h1, h2⟩ := drop_at n r i x (by simpa using h) hx fun j z hz hlt => hj (j + 1) z (by simpa using hz) (by omega)
    refine ⟨?_, ?_⟩
    · rw [List.filter_cons_of_neg (by simpa using hy)]
      exact h1
    · show (if y.1 = n then r else y :: dropFirst n r) = _
      rw [if_neg hy, h2]
      rfl
theorem first_goes {b : Nat} {s s' : Sto α} {t : Thing α} (hb : 2 ≤ b) (o : s.Ok b) (g : Goes b s s' t) {l : List (Nat × α)} (a : Alike b s l) {i : Nat} {x : Nat × α} (f : IsFirst l i x) :
    x = nn t ∧ dropFirst t.num l = l.take i ++ l.drop (i + 1) := by
  obtain ⟨g1, g2⟩ := goes_first hb o g a
  have hm : nn t ∈ l := (List.mem_filter.mp (List.mem_of_mem_head? g1)).1
  obtain ⟨j, hj⟩ := List.mem_iff_getElem?.mp hm
  have h1 := (f.le j _ hj).1
  have h2 := g2 x (List.mem_of_getElem? f.at_)
  have hx : x.1 = t.num := by
    have : (nn t).1 = t.num := rfl
    omega
  obtain ⟨k1, k2⟩ := drop_at t.num l i x f.at_ hx fun j y hy hlt => by
    have := (f.le j y hy).2 hlt
    omega
  rw [g1] at k1
  exact ⟨(Option.some.inj k1).symm, k2⟩
theorem drop_len {l : List (Nat × α)} {i : Nat} {x : Nat × α} (h : l[i]? = some x) : (l.take i ++ l.drop (i + 1)).length + 1 = l.length := by
  have := (List.getElem?_eq_some_iff.mp h).1
  rw [List.length_append, List.length_take, List.length_drop]
  omega
/-! ### the whole of what a law knows of a store -/
structure Full (b : Nat) (s : Sto α) (l : List (Nat × α)) : Prop where
  ok : s.Ok b
  al : Alike b s l
  tot : Tot s l.length
theorem full_new (b : Nat) : Full b (Sto.new : Sto α) [] := ⟨ok_new b, alike_new b, tot_new⟩
theorem full_put {b : Nat} {s : Sto α} {l : List (Nat × α)} (f : Full b s l) {n : Nat} (nm : α) (h : s.last ≤ n) : Full b (s.put b n nm) (l ++ [(n, nm)]) :=
  ⟨ok_put f.ok nm h, alike_put f.al n nm, by
    rw [List.length_append, List.length_singleton]
    exact tot_put f.tot⟩
theorem full_goes {b : Nat} {s s' : Sto α} {t : Thing α} (hb : 2 ≤ b) {l : List (Nat × α)} (f : Full b s l) (g : Goes b s s' t) {i : Nat} {x : Nat × α} (hf : IsFirst l i x) :
    x = nn t ∧ s'.last = t.num ∧ Full b s' (l.take i ++ l.drop (i + 1)) := by
  obtain ⟨h1, h2⟩ := first_goes hb f.ok g f.al hf
  refine ⟨h1, goes_last hb f.ok g, ok_goes hb f.ok g, ?_, ?_⟩
  · rw [← h2]
    exact alike_goes hb f.ok g f.al
  · have h3 := (tot_goes hb f.ok f.tot g).1
    have h4 := drop_len hf.at_
    have e : l.length - 1 = (l.take i ++ l.drop (i + 1)).length := by omega
    rw [e] at h3
    exact h3
/-! ### the rows -/
def rowsTo (s : Sto α) : Nat → List (Nat × Thing α)
  | 0 => []
  | M + 1 => rowsTo s M ++ (s.B M).map fun t => (M, t)
theorem rowsTo_up {s : Sto α} {M : Nat} (h : ∀ q, M ≤ q → s.B q = []) : ∀ k, rowsTo s (M + k) = rowsTo s M
  | 0 => rfl
  | k + 1 => by
    show rowsTo s (M + k) ++ (s.B (M + k)).map _ = _
    rw [rowsTo_up h k, h (M + k) (Nat.le_add_right M k), List.map_nil, List.append_nil]
structure IsRows (s : Sto α) (R : List (Nat × Thing α)) : Prop where
  ex : ∃ M, (∀ q, M ≤ q → s.B q = []) ∧ R = rowsTo s M
theorem rows_uniq {s : Sto α} {R R' : List (Nat × Thing α)} (h : IsRows s R) (h' : IsRows s R') : R = R' := by
  obtain ⟨M, hM, rfl⟩ := h.ex
  obtain ⟨M', hM', rfl⟩ := h'.ex
  rw [← rowsTo_up hM M', ← rowsTo_up hM' M, Nat.add_comm]
theorem rows_at {s : Sto α} {R : List (Nat × Thing α)} (h : IsRows s R) {M : Nat} (hM : ∀ q, M ≤ q → s.B q = []) : R = rowsTo s M := rows_uniq h ⟨M, hM, rfl⟩
theorem rowsTo_len (s : Sto α) : ∀ M, (rowsTo s M).length = sumTo (fun q => (s.B q).length) M
  | 0 => rfl
  | M + 1 => by
    show (rowsTo s M ++ _).length = sumTo _ M + (s.B M).length
    rw [List.length_append, List.length_map, rowsTo_len s M]
theorem rows_len {s : Sto α} {R : List (Nat × Thing α)} {n : Nat} (h : IsRows s R) (k : Tot s n) : R.length = n := by
  obtain ⟨M, hM, e⟩ := k.ex
  rw [rows_at h hM, rowsTo_len, e]
theorem rowsTo_mem {s : Sto α} : ∀ {M : Nat} {x : Nat × Thing α}, x ∈ rowsTo s M ↔ x.1 < M ∧ x.2 ∈ s.B x.1
  | 0, x => Iff.intro (fun h => nomatch h) (fun h => absurd h.1 (Nat.not_lt_zero _))
  | M + 1, x => by
    show x ∈ rowsTo s M ++ _ ↔ _
    rw [List.mem_append, rowsTo_mem, List.mem_map]
    constructor
    · rintro (h | ⟨t, ht, rfl⟩)
      · exact ⟨by omega, h.2⟩
      · exact ⟨by show M < M + 1; omega, ht⟩
    · rintro ⟨h1, h2⟩
      by_cases e : x.1 = M
      · refine Or.inr ⟨x.2, by rw [← e]; exact h2, ?_⟩
        rw [← e]
      · exact Or.inl ⟨by omega, h2⟩
theorem rows_mem {s : Sto α} {R : List (Nat × Thing α)} (h : IsRows s R) {x : Nat × Thing α} : x ∈ R ↔ x.2 ∈ s.B x.1 := by
  obtain ⟨M, hM, rfl⟩ := h.ex
  rw [rowsTo_mem]
  refine ⟨fun z => z.2, fun z => ⟨?_, z⟩⟩
  by_cases e : x.1 < M
  · exact e
  · rw [hM x.1 (by omega)] at z
    cases z
/-- told by the numbers of the buckets that are not empty, from the least on -/
theorem rows_keys {s : Sto α} : ∀ (M : Nat) (ks : List Nat), ks.Pairwise (· < ·) → (∀ q ∈ ks, q < M) → (∀ q, q < M → s.B q ≠ [] → q ∈ ks) → (ks.flatMap fun q => (s.B q).map fun t => (q, t)) = rowsTo s M
  | 0, ks, _, h, _ => by
    cases ks with
    | nil => rfl
    | cons a r => exact absurd (h a List.mem_cons_self) (by omega)
  | M + 1, ks, hs, h, hc => by
    show _ = rowsTo s M ++ _
    rcases List.eq_nil_or_concat ks with rfl | ⟨k, a, rfl⟩
    · have h1 := rows_keys (s := s) M [] List.Pairwise.nil (fun q hq => nomatch hq) fun q hq hne => hc q (by omega) hne
      have h2 : s.B M = [] := by
        by_cases e : s.B M = []
        · exact e
        · exact nomatch hc M (by omega) e
      rw [← h1, h2]
      rfl
    · rw [List.concat_eq_append] at hs h hc ⊢
      rw [List.pairwise_append] at hs
      have ha := h a (by simp)
      by_cases e : a = M
      · subst e
        rw [List.flatMap_append, rows_keys a k hs.1 (fun q hq => hs.2.2 q hq a (by simp)) fun q hq hne => by
          have := hc q (by omega) hne
          rcases List.mem_append.mp this with z | z
          · exact z
          · have := List.mem_singleton.mp z
            omega]
        simp
      · rw [rows_keys M (k ++ [a]) (List.pairwise_append.mpr hs) (fun q hq => by
          rcases List.mem_append.mp hq with z | z
          · have := hs.2.2 q z a (by simp)
            omega
          · have := List.mem_singleton.mp z
            omega) fun q hq hne => hc q (by omega) hne]
        have h2 : s.B M = [] := by
          by_cases e2 : s.B M = []
          · exact e2
          · exfalso
            have := hc M (by omega) e2
            rcases List.mem_append.mp this with z | z
            · have := hs.2.2 M z a (by simp)
              omega
            · exact e (List.mem_singleton.mp z).symm
        rw [h2]
        simp
end
end BF

/-! min(list, key=f), f a def of the program's own, over a list of tuples. -/
namespace BFK
open PySem PySem.Spec PyProof.Rows L2 Evl
theorem argBest_first (num : Nat → Int) : ∀ k, ∀ j, j < argBest (fun i j => decide (num i < num j)) k → num (argBest (fun i j => decide (num i < num j)) k) < num j
  | 0, j, h => absurd h (Nat.not_lt_zero _)
  | k + 1, j, h => by
    obtain ⟨h1, h2⟩ := argBest_lt num k
    have h3 := argBest_first num k
    simp only [argBest] at h ⊢
    by_cases hc : num (k + 1) < num (argBest (fun i j => decide (num i < num j)) k)
    · rw [if_pos (by simpa using hc)] at h ⊢
      have := h2 j (by omega)
      omega
    · rw [if_neg (by simpa using hc)] at h ⊢
      exact h3 j h
/-- the item whose key is the least, of several the first -/
structure KeyLeast (ns : Nat → Int) (n i : Nat) : Prop where
  lt : i < n
  le : ∀ j, j < n → ns i ≤ ns j ∧ (j < i → ns i < ns j)
def rMinKey (K : PySem.W.Frag) (f : Addr) (D : List V → Hp → V → Prop) : List V → List V → Hp → VK → Prop := fun vs zs H Q => ∃ (a : Addr) (xs : List V) (ns : Nat → Int), vs = [V.ref a] ∧ zs = [V.ref f] ∧ SqL K H a xs ∧ 0 < xs.length ∧ (∀ x ∈ xs, ∃ p, x = V.ref p) ∧
  (∀ i x H1, xs[i]? = some x → Ex H H1 → D [x] H1 (.int (ns i))) ∧ ∀ i x H1, xs[i]? = some x → KeyLeast ns xs.length i → Ex H H1 → Q x H1
theorem refs_its {xs : List V} {its its' : List Value} (h : ∀ x ∈ xs, ∃ p, x = V.ref p) (r : Vals xs its) (r' : Vals xs its') : its = its' := by
  induction xs generalizing its its' with
  | nil =>
    cases r
    cases r'
    rfl
  | cons x xs ih =>
    obtain ⟨p, rfl⟩ := h x List.mem_cons_self
    cases r with
    | cons a t =>
      cases r' with
      | cons a' t' =>
        obtain rfl := (show _ = Value.ref p from a)
        obtain rfl := (show _ = Value.ref p from a')
        rw [ih (fun y hy => h y (List.mem_cons_of_mem _ hy)) t t']
section
variable {X : Cx} {k : Nat} {f : Addr} {fd : FuncData} {x : Str} {D : List V → Hp → V → Prop}
/-- two untracked records of ours have changed -/
theorem moved2 {pins : List (Addr × Obj)} {σ : L2.St} {H : Hp} {s s' : Shared} {S I : Addr} {G : Array GenState → Array GenState → Prop} (J : Inv X pins σ H s) (hG : ∀ a b, G a b → b = a) (m : Moved [S, I] G s s') (hS : H S = none) (hI : H I = none)
    (gS : X.s_0.heap.objs.size ≤ S ∧ S ≠ X.env.locals ∧ (∀ x c, X.env.cells.lookup x = some c → c ≠ S) ∧ ∀ p ∈ X.pn ++ pins, p.1 ≠ S)
    (gI : X.s_0.heap.objs.size ≤ I ∧ I ≠ X.env.locals ∧ (∀ x c, X.env.cells.lookup x = some c → c ≠ I) ∧ ∀ p ∈ X.pn ++ pins, p.1 ≠ I) : Inv X pins σ H s' := by
  obtain ⟨h', g', d', t', o'⟩ := s'
  obtain ⟨mh, mg, md, mo, mt⟩ := m
  have e1 : o' = s.os := mo
  have e2 : g' = s.gens := hG _ _ mg
  subst e1 e2
  have nit : ∀ b u, H b = some u → b ∉ [S, I] := fun b u e z => by
    rcases List.mem_cons.mp z with rfl | z
    · rw [hS] at e
      cases e
    · rw [List.mem_singleton.mp z, hI] at e
      cases e
  refine J.step (g' := s.gens) (d' := d') (t' := t') (h' := h') (ch := [S, I]) (fun b hb => ?_) (fun b o _ _ hc e _ => mh b o hc e) (fun b o _ _ hc e _ => ⟨o.slots, mh b o hc e⟩) (fun _ _ _ _ n => n)
    (fun b o hc e => ⟨o, mh b o hc e⟩) (fun _ _ e => e) (fun _ _ _ e => e) (fun b ps e => ⟨#[], by rw [e]; simp⟩) (fun m hm => ?_) (fun b u e => ?_) J.bare
  · rcases List.mem_cons.mp hb with rfl | hb
    · exact ⟨.inr gS.1, gS.2⟩
    · rw [List.mem_singleton.mp hb]
      exact ⟨.inr gI.1, gI.2⟩
  · obtain ⟨o, es, ep, ho, r⟩ := hm
    refine ⟨o, es, ep, mh _ o (fun z => ?_) ho, r⟩
    rcases List.mem_cons.mp z with e | z
    · exact gS.2.1 e.symm
    · exact gI.2.1 (List.mem_singleton.mp z).symm
  · refine (J.hok b u e).stay (fun c v hc q => mh c v ?_ q) (fun _ q => q) fun _ _ q => q
    rcases hc with z | z
    · rw [z]; exact nit b u e
    · exact nit c _ z
theorem cr_minKey {p : Str} (F : FnOk X.prog X.w X.K X.mg X.base (L2N.CX X.prog X.w) k f fd [p] (fun vs H Q _ => ∃ z, D vs H z ∧ RetV z H Q)) (hb : Binds X.K fd [p] []) (hr : Room (k + 1) X.A) : CallRK X (.builtin "min") [Str.ofString "key"] (rMinKey X.K f D) := by
  intro pins s σ H vs zs us ws Q I r rz h
  obtain ⟨a, xs, ns, rfl, rfl, hs, hne, href, hD, q⟩ := h
  obtain rfl := Vals.ref1 r
  obtain rfl := Vals.ref1 rz
  obtain ⟨its, rv, hl, hz⟩ := I.list hs
  have hls := hl.isList
  have hh := hr.hd
  have hal : a < s.heap.objs.size := by
    obtain ⟨o, ho, _⟩ := id hls
    exact Heap.lt_size ho
  have hlen : xs.length = its.length := rv.length
  refine call_min_walkK (x := .ref a) (wpAny_pyIter_list hls ?_)
  have hsz : (s.heap.push { cls := .type "list_iterator", data := .fields #[.ref a, .int 0 0] }).objs.size = s.heap.objs.size + 1 := size_push' ..
  have W := (Walks.list (prog := X.prog) (w := X.w) (A := X.A.in1) hh s.heap.objs.size a (Nat.ne_of_lt hal) its.toArray).toS
  have gS : ∀ b, s.heap.objs.size ≤ b → X.s_0.heap.objs.size ≤ b ∧ b ≠ X.env.locals ∧ (∀ x c, X.env.cells.lookup x = some c → c ≠ b) ∧ ∀ p ∈ X.pn ++ pins, p.1 ≠ b := fun b hb => by
    refine ⟨Nat.le_trans I.sz hb, fun e => ?_, fun x c e z => ?_, fun p hp z => ?_⟩
    · exact absurd (Nat.lt_of_lt_of_le I.lt (e ▸ hb)) (Nat.lt_irrefl _)
    · obtain ⟨v, o, ho, _⟩ := I.cell x c e
      exact absurd (Nat.lt_of_lt_of_le (Heap.lt_size ho) (z ▸ hb)) (Nat.lt_irrefl _)
    · exact absurd (Nat.lt_of_lt_of_le (Heap.lt_size (I.pin p hp).1) (z ▸ hb)) (Nat.lt_irrefl _)
  have nofs : ∀ b, s.heap.objs.size ≤ b → b ∉ frs X.stack := fun b hb z => by
    rcases List.mem_cons.mp (I.stkSub b z) with e | z
    · exact absurd (Nat.lt_of_lt_of_le I.lt (e ▸ hb)) (Nat.lt_irrefl _)
    · exact I.nofs hb z
  have hI0 : H s.heap.objs.size = none := I.hok.fresh (Nat.le_refl _)
  have hS0 : H (s.heap.objs.size + 1) = none := I.hok.fresh (Nat.le_succ _)
  have I1 := I.kept (h' := s.heap.push { cls := .type "list_iterator", data := .fields #[.ref a, .int 0 0] }) (t' := s.toks) fun b u e => Heap.get?_push_of_some _ e
  refine ⟨s.heap.objs.size, [s.heap.objs.size, a], [s.heap.objs.size], fun a b => b = a, its.toArray.size, fun i v => its.toArray[i]? = some v, fun i s' => s'.heap.IsListIter s.heap.objs.size a i ∧ s'.heap.IsList a its.toArray,
    fun s' => ∃ H', Ex H H' ∧ H' s.heap.objs.size = none ∧ H' (s.heap.objs.size + 1) = none ∧ Inv X pins σ H' s', fun i v _ => ∃ t, v = .int (ns i) t, fun i j => decide (ns i < ns j), rfl, W, ⟨⟨_, Heap.get?_push_size _ rfl, rfl, rfl⟩, ?_⟩, fun b hb => ?_, by rw [List.size_toArray, ← hlen]; exact hne, ?_, ⟨H, Ex.refl H, hI0, hS0, I1⟩, ?_⟩
  · obtain ⟨o, ho, r⟩ := hls
    exact ⟨o, Heap.get?_push_of_some _ ho, r⟩
  · show b < (s.heap.push _).objs.size
    rw [hsz]
    rcases List.mem_cons.mp hb with e | hb
    · rw [e]
      exact Nat.lt_succ_self _
    · rw [List.mem_singleton.mp hb]
      exact Nat.lt_succ_of_lt hal
  · have key : ∀ (i : Nat) (v : Value), its.toArray[i]? = some v → ∃ x, xs[i]? = some x ∧ RelV x v := fun i v hv => by
      have hv : its[i]? = some v := by simpa using hv
      have hi : i < xs.length := by rw [hlen]; exact (List.getElem?_eq_some_iff.mp hv).1
      obtain ⟨u, hu, ru⟩ := rv.get (List.getElem?_eq_getElem hi)
      rw [hv] at hu
      cases hu
      exact ⟨_, List.getElem?_eq_getElem hi, ru⟩
    have eS : ({ s with heap := s.heap.push { cls := .type "list_iterator", data := .fields #[.ref a, .int 0 0] } } : Shared).heap.objs.size = s.heap.objs.size + 1 := hsz
    refine ⟨fun s1 s2 ⟨H', e, hi, hS, J⟩ m => ⟨H', e, hi, hS, ?_⟩, fun _ _ _ _ h _ => h, fun i v s1 o Q1 E1 hi hP ⟨H', e, hni, hS, J⟩ hst hoS hq => ?_, fun i j ki kj s1 Q1 E1 _ h1 h2 hq => CmpOf.ints_lt (prog := X.prog) (w := X.w) (A := X.A.in1) (P := fun i v => ∃ t, v = .int (ns i) t) ns (fun _ _ h => h) i j ki kj s1 Q1 E1 h1 h2 hq⟩
    · rw [hsz] at m
      exact moved2 J (fun _ _ h => h) m hS hi (gS _ (Nat.le_succ _)) (gS _ (Nat.le_refl _))
    · obtain ⟨x, hx, rx⟩ := key i v hP
      rw [hsz] at hoS hq
      have hbd := hb s1 [v] J.kIn rfl
      refine wpAny_call (codeAny_mono (F.run X.A.in1 X.stack s1 H' ⟨[v], []⟩ [v] [x] (fun z H2 => z = .int (ns i) ∧ Ex H' H2) E0 hr.in1 J.env0.in1 hbd (.cons rx .nil) ⟨.int (ns i), hD i x H' hx e, fun H2 e2 => ⟨rfl, e2⟩⟩) fun r s2 hc => ?_)
      cases r with
      | error e =>
        obtain ⟨_, _, _, _, _, _, _, _, _, _, _, _, z⟩ := hc
        exact z.elim
      | ok fl =>
        cases fl with
        | ret u =>
          obtain ⟨z, H2, os, bare, un, hok, ru, rfl, e2⟩ := hc
          obtain ⟨t, rfl⟩ := ru
          have J2 : Inv X pins σ H2 s2 := J.call' (ch := []) os un hok bare fun b z => absurd z (by simp)
          obtain ⟨⟨oI, hoI, hc1, hc2⟩, _⟩ := id hst
          have kI := un.keep _ _ hoI hni (nofs _ (Nat.le_refl _)) (by simp)
          have kS := un.keep _ _ hoS hS (nofs _ (Nat.le_succ _)) (by simp)
          have fI := un.free _ _ hoI hni (by simp)
          have fS := un.free _ _ hoS hS (by simp)
          obtain ⟨its2, rv2, hl2, _⟩ := J2.list (ex_l (e.trans e2) hs)
          obtain rfl := refs_its href rv rv2
          exact hq _ _ ⟨H2, e.trans e2, fI, fS, J2⟩ ⟨⟨oI, kI, hc1, hc2⟩, hl2.isList⟩ kS ⟨t, rfl⟩ fun _ _ h => h
        | next => exact False.elim hc
        | brk => exact False.elim hc
        | cont => exact False.elim hc
  · rintro v s2 hP ⟨H', e, _, _, J⟩
    obtain ⟨b1, b2⟩ := argBest_lt ns (its.toArray.size - 1)
    have b3 := argBest_first ns (its.toArray.size - 1)
    rw [List.size_toArray] at hP b1 b2 b3
    have hP2 : its[argBest (fun i j => decide (ns i < ns j)) (its.length - 1)]? = some v := by simpa using hP
    have hi : argBest (fun i j => decide (ns i < ns j)) (its.length - 1) < xs.length := by rw [hlen]; exact (List.getElem?_eq_some_iff.mp hP2).1
    obtain ⟨u, hu, ru⟩ := rv.get (List.getElem?_eq_getElem hi)
    rw [hP2] at hu
    cases hu
    exact ⟨_, H', J, ru, q _ _ H' (List.getElem?_eq_getElem hi) ⟨hi, fun j hj => ⟨b2 j (by omega), fun hlt => b3 j hlt⟩⟩ e⟩
end
end BFK

/-! The store as it lies in the heap: an instance, its dict of buckets, a list a bucket, a tuple a thing. -/
namespace BF
open PySem L2 Evl
/-! ### tuples of things -/
theorem tups_len {H : Hp} : ∀ {vs : List V} {xss : List (List V)}, Tups H vs xss → vs.length = xss.length
  | [], [], _ => rfl
  | _ :: _, _ :: _, ⟨_, t⟩ => congrArg Nat.succ (tups_len t)
  | [], _ :: _, h => h.elim
  | _ :: _, [], h => h.elim
theorem tups_get {H : Hp} : ∀ {vs : List V} {xss : List (List V)} {i : Nat} {xs : List V}, Tups H vs xss → xss[i]? = some xs → ∃ p, vs[i]? = some (.ref p) ∧ H p = some (.tup xs)
  | [], [], i, xs, _, h => by simp at h
  | v :: r, ys :: rs, 0, xs, ⟨⟨p, e, hp⟩, t⟩, h => by
    have h : ys = xs := by simpa using h
    subst h e
    exact ⟨p, rfl, hp⟩
  | v :: r, ys :: rs, i + 1, xs, ⟨_, t⟩, h => by
    obtain ⟨p, h1, h2⟩ := tups_get (i := i) (xs := xs) t (by simpa using h)
    exact ⟨p, by simpa using h1, h2⟩
  | [], _ :: _, _, _, h, _ => h.elim
  | _ :: _, [], _, _, h, _ => h.elim
theorem tups_ref {H : Hp} : ∀ {vs : List V} {xss : List (List V)}, Tups H vs xss → ∀ v ∈ vs, ∃ p xs, v = .ref p ∧ H p = some (.tup xs)
  | [], [], _, v, hv => nomatch hv
  | w :: r, ys :: rs, ⟨⟨p, e, hp⟩, t⟩, v, hv => by
    rcases List.mem_cons.mp hv with h | h
    · exact ⟨p, ys, h.trans e, hp⟩
    · exact tups_ref t v h
  | [], _ :: _, h, _, _ => h.elim
  | _ :: _, [], h, _, _ => h.elim
theorem tups_app {H : Hp} : ∀ {vs ws : List V} {xss yss : List (List V)}, Tups H vs xss → Tups H ws yss → Tups H (vs ++ ws) (xss ++ yss)
  | [], _, [], _, _, h => h
  | _ :: _, _, _ :: _, _, ⟨a, t⟩, h => ⟨a, tups_app t h⟩
  | [], _, _ :: _, _, h, _ => h.elim
  | _ :: _, _, [], _, h, _ => h.elim
theorem tups_snoc {H : Hp} {vs : List V} {xss : List (List V)} {p : Addr} {xs : List V} (h : Tups H vs xss) (hp : H p = some (.tup xs)) : Tups H (vs ++ [.ref p]) (xss ++ [xs]) := tups_app h ⟨⟨p, rfl, hp⟩, True.intro⟩
/-- tuples stay: so do these -/
theorem tups_keep {H H' : Hp} (k : ∀ a xs, H a = some (.tup xs) → H' a = some (.tup xs)) : ∀ {vs : List V} {xss : List (List V)}, Tups H vs xss → Tups H' vs xss
  | [], [], _ => True.intro
  | _ :: _, _ :: _, ⟨⟨p, e, hp⟩, t⟩ => ⟨⟨p, e, k _ _ hp⟩, tups_keep k t⟩
  | [], _ :: _, h => h.elim
  | _ :: _, [], h => h.elim
theorem tups_take {H : Hp} : ∀ {vs : List V} {xss : List (List V)} (i : Nat), Tups H vs xss → Tups H (vs.take i) (xss.take i)
  | [], [], i, _ => by simp [Tups]
  | _ :: _, _ :: _, 0, _ => True.intro
  | _ :: _, _ :: _, i + 1, ⟨a, t⟩ => ⟨a, tups_take i t⟩
  | [], _ :: _, _, h => h.elim
  | _ :: _, [], _, h => h.elim
theorem tups_drop {H : Hp} : ∀ {vs : List V} {xss : List (List V)} (i : Nat), Tups H vs xss → Tups H (vs.drop i) (xss.drop i)
  | [], [], i, _ => by simp [Tups]
  | _ :: _, _ :: _, 0, h => h
  | _ :: _, _ :: _, i + 1, ⟨_, t⟩ => tups_drop i t
  | [], _ :: _, _, h => h.elim
  | _ :: _, [], _, h => h.elim
/-- a thing as a tuple -/
def tV (t : Thing Str) : List V := [.int (t.num : Int), .str t.name, .int (t.cnt : Int)]
/-- a row as a tuple -/
def rV (x : Nat × Thing Str) : List V := [.int (x.1 : Int), .int (x.2.num : Int), .str x.2.name, .int (x.2.cnt : Int)]
/-! ### the fields -/
def flds (b last n mv : Nat) (bk : Addr) : List (Str × V) := [("base", .int (b : Int)), ("last", .int (last : Int)), ("many", .int (n : Int)), ("moves", .int (mv : Int)), ("_buckets", .ref bk)]
theorem fne : ¬ (("base" : Str) = "last") ∧ ¬ (("base" : Str) = "many") ∧ ¬ (("base" : Str) = "moves") ∧ ¬ (("base" : Str) = "_buckets") ∧ ¬ (("last" : Str) = "many") ∧ ¬ (("last" : Str) = "moves") ∧ ¬ (("last" : Str) = "_buckets") ∧
    ¬ (("many" : Str) = "moves") ∧ ¬ (("many" : Str) = "_buckets") ∧ ¬ (("moves" : Str) = "_buckets") := by decide +kernel
section
variable {b last n mv : Nat} {bk : Addr}
theorem fp_all : putF "_buckets" (.ref bk) (putF "moves" (.int (mv : Int)) (putF "many" (.int (n : Int)) (putF "last" (.int (last : Int)) (putF "base" (.int (b : Int)) [])))) = flds b last n mv bk := by
  obtain ⟨h1, h2, h3, h4, h5, h6, h7, h8, h9, h10⟩ := fne
  simp only [flds, putF, if_neg h1, if_neg h2, if_neg h3, if_neg h4, if_neg h5, if_neg h6, if_neg h7, if_neg h8, if_neg h9, if_neg h10]
theorem fi_2 {x y : V} : putF "last" y ([("base", x)] : List (Str × V)) = ([("base", x), ("last", y)] : List (Str × V)) := by
  obtain ⟨h1, _⟩ := fne
  simp only [putF, if_neg h1]
theorem fi_3 {x y z : V} : putF "many" z ([("base", x), ("last", y)] : List (Str × V)) = ([("base", x), ("last", y), ("many", z)] : List (Str × V)) := by
  obtain ⟨h1, h2, h3, h4, h5, h6, h7, h8, h9, h10⟩ := fne
  simp only [putF, if_neg h2, if_neg h5]
theorem fi_4 {x y z u : V} : putF "moves" u ([("base", x), ("last", y), ("many", z)] : List (Str × V)) = ([("base", x), ("last", y), ("many", z), ("moves", u)] : List (Str × V)) := by
  obtain ⟨h1, h2, h3, h4, h5, h6, h7, h8, h9, h10⟩ := fne
  simp only [putF, if_neg h3, if_neg h6, if_neg h8]
theorem fi_5 {x y z u v : V} : putF "_buckets" v ([("base", x), ("last", y), ("many", z), ("moves", u)] : List (Str × V)) = ([("base", x), ("last", y), ("many", z), ("moves", u), ("_buckets", v)] : List (Str × V)) := by
  obtain ⟨h1, h2, h3, h4, h5, h6, h7, h8, h9, h10⟩ := fne
  simp only [putF, if_neg h4, if_neg h7, if_neg h9, if_neg h10]
theorem fl_base : (flds b last n mv bk).lookup ("base" : Str) = some (.int (b : Int)) := by
  obtain ⟨h1, h2, h3, h4, h5, h6, h7, h8, h9, h10⟩ := fne
  rw [← fp_all, lookup_putF, if_neg h4, lookup_putF, if_neg h3, lookup_putF, if_neg h2, lookup_putF, if_neg h1, lookup_putF, if_pos rfl]
theorem fl_last : (flds b last n mv bk).lookup ("last" : Str) = some (.int (last : Int)) := by
  obtain ⟨h1, h2, h3, h4, h5, h6, h7, h8, h9, h10⟩ := fne
  rw [← fp_all, lookup_putF, if_neg h7, lookup_putF, if_neg h6, lookup_putF, if_neg h5, lookup_putF, if_pos rfl]
theorem fl_many : (flds b last n mv bk).lookup ("many" : Str) = some (.int (n : Int)) := by
  obtain ⟨h1, h2, h3, h4, h5, h6, h7, h8, h9, h10⟩ := fne
  rw [← fp_all, lookup_putF, if_neg h9, lookup_putF, if_neg h8, lookup_putF, if_pos rfl]
theorem fl_moves : (flds b last n mv bk).lookup ("moves" : Str) = some (.int (mv : Int)) := by
  obtain ⟨h1, h2, h3, h4, h5, h6, h7, h8, h9, h10⟩ := fne
  rw [← fp_all, lookup_putF, if_neg h10, lookup_putF, if_pos rfl]
theorem fl_buckets : (flds b last n mv bk).lookup ("_buckets" : Str) = some (.ref bk) := by
  rw [← fp_all, lookup_putF, if_pos rfl]
theorem fp_last {x : Nat} : putF "last" (.int (x : Int)) (flds b last n mv bk) = flds b x n mv bk := by
  obtain ⟨h1, _⟩ := fne
  simp only [flds, putF, if_neg h1, if_pos]
theorem fp_many {x : Nat} : putF "many" (.int (x : Int)) (flds b last n mv bk) = flds b last x mv bk := by
  obtain ⟨_, h2, _, _, h5, _⟩ := fne
  simp only [flds, putF, if_neg h2, if_neg h5, if_pos]
theorem fp_moves {x : Nat} : putF "moves" (.int (x : Int)) (flds b last n mv bk) = flds b last n x bk := by
  obtain ⟨_, _, h3, _, _, h6, _, h8, _⟩ := fne
  simp only [flds, putF, if_neg h3, if_neg h6, if_neg h8, if_pos]
theorem fl_no {m : Str} (h1 : ¬ m = "base") (h2 : ¬ m = "last") (h3 : ¬ m = "many") (h4 : ¬ m = "moves") (h5 : ¬ m = "_buckets") : (flds b last n mv bk).lookup m = none := by
  rw [← fp_all, lookup_putF, if_neg h5, lookup_putF, if_neg h4, lookup_putF, if_neg h3, lookup_putF, if_neg h2, lookup_putF, if_neg h1]
  rfl
end
/-! ### the dict of buckets -/
abbrev ent (e : Nat × Addr) : Key × V := (Sum.inl (e.1 : Int), V.ref e.2)
theorem key_inj {p q : Nat} : ((Sum.inl (p : Int) : Key) = Sum.inl (q : Int)) ↔ p = q := by
  constructor
  · intro h
    injection h with h
    omega
  · intro h
    rw [h]
theorem val_in : ∀ {D : List (Nat × Addr)} {q : Nat} {l : Addr}, (D.map Prod.fst).Nodup → (q, l) ∈ D → valV (D.map ent) (Sum.inl (q : Int) : Key) = some (.ref l)
  | [], _, _, _, h => nomatch h
  | e :: r, q, l, hn, h => by
    rw [List.map_cons] at hn ⊢
    rcases List.mem_cons.mp h with h | h
    · subst h
      exact valV_pos rfl
    · have hne : ¬ (ent e).1 = Sum.inl (q : Int) := fun z => by
        have e1 := key_inj.mp z
        exact (List.nodup_cons.mp hn).1 (e1 ▸ List.mem_map_of_mem (f := Prod.fst) h)
      rw [valV_neg hne]
      exact val_in (List.nodup_cons.mp hn).2 h
theorem val_out : ∀ {D : List (Nat × Addr)} {q : Nat}, q ∉ D.map Prod.fst → valV (D.map ent) (Sum.inl (q : Int) : Key) = none
  | [], _, _ => rfl
  | e :: r, q, h => by
    rw [List.map_cons]
    have hne : ¬ (ent e).1 = Sum.inl (q : Int) := fun z => h (by
      rw [List.map_cons, key_inj.mp z]
      exact List.mem_cons_self)
    rw [valV_neg hne]
    exact val_out fun z => h (by
      rw [List.map_cons]
      exact List.mem_cons_of_mem _ z)
def cutD (D : List (Nat × Addr)) (p : Nat) : List (Nat × Addr) := D.filter fun e => decide (e.1 ≠ p)
theorem drop_ent {p : Nat} : ∀ D : List (Nat × Addr), dropK (D.map ent) (Sum.inl (p : Int) : Key) = (cutD D p).map ent
  | [] => rfl
  | e :: r => by
    have ih := drop_ent (p := p) r
    unfold dropK cutD at ih ⊢
    rw [List.map_cons]
    by_cases h : e.1 = p
    · rw [List.filter_cons_of_neg (by simp [ent, h]), List.filter_cons_of_neg (by simp [h]), ih]
    · rw [List.filter_cons_of_pos (by simp only [ent, ne_eq, decide_not, Bool.not_eq_eq_eq_not, Bool.not_true, decide_eq_false_iff_not]; exact fun z => h (key_inj.mp z)), List.filter_cons_of_pos (by simp [h]), ih, List.map_cons]
theorem put_ent {D : List (Nat × Addr)} {q : Nat} {l : Addr} (h : q ∉ D.map Prod.fst) : putK (D.map ent) (Sum.inl (q : Int) : Key) (.ref l) = (D ++ [(q, l)]).map ent := by
  have h1 : ¬ (((D.map ent).any fun kv => decide (kv.1 = (Sum.inl (q : Int) : Key))) = true) := by
    rw [valV_any, val_out h]
    exact Bool.false_ne_true
  unfold putK
  rw [if_neg h1, List.map_append]
  rfl
theorem mem_cut {D : List (Nat × Addr)} {p : Nat} {e : Nat × Addr} : e ∈ cutD D p ↔ e ∈ D ∧ e.1 ≠ p := by
  unfold cutD
  rw [List.mem_filter]
  simp
/-! ### the store -/
def foot (st dx bk : Addr) (D : List (Nat × Addr)) (a : Addr) : Prop := a = st ∨ a = dx ∨ a = bk ∨ a ∈ D.map Prod.snd
structure RAt (ST : Addr) (b : Nat) (st dx bk : Addr) (D : List (Nat × Addr)) (s : Sto Str) (n : Nat) (H : Hp) : Prop where
  ins : H st = some (.ins ST dx (flds b s.last n s.moves bk))
  own : H dx = some (.own st)
  dk : H bk = some (.dK (D.map ent))
  nd1 : (D.map Prod.fst).Nodup
  nd2 : (D.map Prod.snd).Nodup
  ls : ∀ e ∈ D, ∃ ps, H e.2 = some (.lst ps) ∧ Tups H ps ((s.B e.1).map tV)
  em : ∀ q, q ∉ D.map Prod.fst → s.B q = []
  ne : ∀ e ∈ D, s.B e.1 ≠ []
section
variable {ST : Addr} {b : Nat} {st dx bk : Addr} {D : List (Nat × Addr)} {s : Sto Str} {n : Nat} {H H' : Hp}
theorem RAt.there (R : RAt ST b st dx bk D s n H) {a : Addr} (h : foot st dx bk D a) : ∃ o, H a = some o := by
  rcases h with rfl | rfl | rfl | h
  · exact ⟨_, R.ins⟩
  · exact ⟨_, R.own⟩
  · exact ⟨_, R.dk⟩
  · obtain ⟨e, he, rfl⟩ := List.mem_map.mp h
    obtain ⟨ps, h1, _⟩ := R.ls e he
    exact ⟨_, h1⟩
theorem RAt.notup (R : RAt ST b st dx bk D s n H) {a : Addr} {xs : List V} (h : H a = some (.tup xs)) : ¬ foot st dx bk D a := by
  rintro (rfl | rfl | rfl | z)
  · rw [R.ins] at h
    cases h
  · rw [R.own] at h
    cases h
  · rw [R.dk] at h
    cases h
  · obtain ⟨e, he, rfl⟩ := List.mem_map.mp z
    obtain ⟨ps, h1, _⟩ := R.ls e he
    rw [h1] at h
    cases h
/-- all of it stays, the tuples stay -/
theorem RAt.keep (R : RAt ST b st dx bk D s n H) (k : ∀ a o, H a = some o → foot st dx bk D a → H' a = some o) (kt : ∀ a xs, H a = some (.tup xs) → H' a = some (.tup xs)) : RAt ST b st dx bk D s n H' :=
  ⟨k _ _ R.ins (Or.inl rfl), k _ _ R.own (Or.inr (Or.inl rfl)), k _ _ R.dk (Or.inr (Or.inr (Or.inl rfl))), R.nd1, R.nd2, fun e he => by
    obtain ⟨ps, h1, h2⟩ := R.ls e he
    exact ⟨ps, k _ _ h1 (Or.inr (Or.inr (Or.inr (List.mem_map_of_mem he)))), tups_keep kt h2⟩, R.em, R.ne⟩
theorem RAt.mono (R : RAt ST b st dx bk D s n H) (e : Ex H H') : RAt ST b st dx bk D s n H' := R.keep (fun a o h _ => e a o h) fun a xs h => e a _ h
/-- st, dx, bk and the lists are all different -/
theorem RAt.apart (R : RAt ST b st dx bk D s n H) : st ≠ dx ∧ st ≠ bk ∧ dx ≠ bk ∧ ∀ e ∈ D, e.2 ≠ st ∧ e.2 ≠ dx ∧ e.2 ≠ bk := by
  refine ⟨ne_of R.ins R.own (by intro z; cases z), ne_of R.ins R.dk (by intro z; cases z), ne_of R.own R.dk (by intro z; cases z), fun e he => ?_⟩
  obtain ⟨ps, h1, _⟩ := R.ls e he
  exact ⟨ne_of h1 R.ins (by intro z; cases z), ne_of h1 R.own (by intro z; cases z), ne_of h1 R.dk (by intro z; cases z)⟩
theorem RAt.one (R : RAt ST b st dx bk D s n H) {e f : Nat × Addr} (he : e ∈ D) (hf : f ∈ D) (h : e.1 = f.1 ∨ e.2 = f.2) : e = f := by
  have key : ∀ {β : Type} (g : Nat × Addr → β) (D : List (Nat × Addr)), (D.map g).Nodup → e ∈ D → f ∈ D → g e = g f → e = f := by
    intro β g D
    induction D with
    | nil => intro _ h; cases h
    | cons x r ih =>
      intro hn h1 h2 hg
      rw [List.map_cons, List.nodup_cons] at hn
      rcases List.mem_cons.mp h1 with z1 | z1
      · rcases List.mem_cons.mp h2 with z2 | z2
        · rw [z1, z2]
        · exfalso
          apply hn.1
          rw [← z1, hg]
          exact List.mem_map_of_mem z2
      · rcases List.mem_cons.mp h2 with z2 | z2
        · exfalso
          apply hn.1
          rw [← z2, ← hg]
          exact List.mem_map_of_mem z1
        · exact ih hn.2 z1 z2 hg
  rcases h with h | h
  · exact key Prod.fst D R.nd1 he hf h
  · exact key Prod.snd D R.nd2 he hf h
/-- a field written -/
theorem RAt.fld (R : RAt ST b st dx bk D s n H) {s' : Sto Str} {n' : Nat} (hB : s'.B = s.B) (h1 : H' st = some (.ins ST dx (flds b s'.last n' s'.moves bk))) (k : ∀ a o, a ≠ st → H a = some o → H' a = some o) : RAt ST b st dx bk D s' n' H' := by
  obtain ⟨a1, a2, a3, a4⟩ := R.apart
  have kt : ∀ a xs, H a = some (.tup xs) → H' a = some (.tup xs) := fun a xs h => k a _ (ne_of h R.ins (by intro z; cases z)) h
  refine ⟨h1, k _ _ (Ne.symm a1) R.own, k _ _ (Ne.symm a2) R.dk, R.nd1, R.nd2, fun e he => ?_, fun q hq => by rw [hB]; exact R.em q hq, fun e he => by rw [hB]; exact R.ne e he⟩
  obtain ⟨ps, h2, h3⟩ := R.ls e he
  rw [hB]
  exact ⟨ps, k _ _ (a4 e he).1 h2, tups_keep kt h3⟩
/-- a thing laid into a bucket that is there -/
theorem RAt.old (R : RAt ST b st dx bk D s n H) {q : Nat} {l t : Addr} {ps : List V} {th : Thing Str} (he : (q, l) ∈ D) (hl : H l = some (.lst ps)) (ht : H t = some (.tup (tV th))) (h1 : H' l = some (.lst (ps ++ [.ref t])))
    (k : ∀ a o, a ≠ l → H a = some o → H' a = some o) : RAt ST b st dx bk D (s.lay q th) n H' := by
  obtain ⟨a1, a2, a3, a4⟩ := R.apart
  obtain ⟨c1, c2, c3⟩ := a4 _ he
  have kt : ∀ a xs, H a = some (.tup xs) → H' a = some (.tup xs) := fun a xs h => k a _ (ne_of h hl (by intro z; cases z)) h
  have hB : ∀ p, (s.lay q th).B p = if p = q then s.B p ++ [th] else s.B p := fun _ => rfl
  refine ⟨k _ _ (Ne.symm c1) R.ins, k _ _ (Ne.symm c2) R.own, k _ _ (Ne.symm c3) R.dk, R.nd1, R.nd2, fun e hm => ?_, fun p hp => ?_, fun e hm => ?_⟩
  · obtain ⟨qs, h2, h3⟩ := R.ls e hm
    rw [hB]
    by_cases e1 : e.1 = q
    · have e2 := R.one hm he (Or.inl e1)
      subst e2
      rw [if_pos rfl]
      rw [hl] at h2
      cases h2
      refine ⟨_, h1, ?_⟩
      rw [List.map_append]
      exact tups_snoc (tups_keep kt h3) (kt _ _ ht)
    · rw [if_neg e1]
      have e2 : e.2 ≠ l := fun z => e1 (congrArg Prod.fst (R.one hm he (Or.inr z)))
      exact ⟨qs, k _ _ e2 h2, tups_keep kt h3⟩
  · rw [hB, if_neg fun (z : p = q) => hp (z ▸ List.mem_map_of_mem (f := Prod.fst) he)]
    exact R.em p hp
  · rw [hB]
    split
    · exact List.append_ne_nil_of_right_ne_nil _ (List.cons_ne_nil _ _)
    · exact R.ne e hm
/-- a thing laid into a new bucket -/
theorem RAt.new (R : RAt ST b st dx bk D s n H) {q : Nat} {l t : Addr} {th : Thing Str} (hq : q ∉ D.map Prod.fst) (hl : H l = none) (ht : H t = some (.tup (tV th))) (h1 : H' l = some (.lst [.ref t])) (h2 : H' bk = some (.dK ((D ++ [(q, l)]).map ent)))
    (k : ∀ a o, a ≠ bk → H a = some o → H' a = some o) : RAt ST b st dx bk (D ++ [(q, l)]) (s.lay q th) n H' := by
  obtain ⟨a1, a2, a3, a4⟩ := R.apart
  have kt : ∀ a xs, H a = some (.tup xs) → H' a = some (.tup xs) := fun a xs h => k a _ (ne_of h R.dk (by intro z; cases z)) h
  have hB : ∀ p, (s.lay q th).B p = if p = q then s.B p ++ [th] else s.B p := fun _ => rfl
  have hl2 : l ∉ D.map Prod.snd := fun z => by
    obtain ⟨o, ho⟩ := R.there (Or.inr (Or.inr (Or.inr z)))
    rw [hl] at ho
    cases ho
  refine ⟨k _ _ a2 R.ins, k _ _ a3 R.own, h2, ?_, ?_, fun e hm => ?_, fun p hp => ?_, fun e hm => ?_⟩
  · rw [List.map_append, List.nodup_append]
    exact ⟨R.nd1, by simp, fun x hx y hy z => hq (by
      have : y = q := by simpa using hy
      rw [← this, ← z]
      exact hx)⟩
  · rw [List.map_append, List.nodup_append]
    exact ⟨R.nd2, by simp, fun x hx y hy z => hl2 (by
      have : y = l := by simpa using hy
      rw [← this, ← z]
      exact hx)⟩
  · rw [hB]
    rcases List.mem_append.mp hm with hm | hm
    · obtain ⟨qs, h3, h4⟩ := R.ls e hm
      rw [if_neg fun (z : e.1 = q) => hq (z ▸ List.mem_map_of_mem (f := Prod.fst) hm)]
      exact ⟨qs, k _ _ (a4 e hm).2.2 h3, tups_keep kt h4⟩
    · have e1 := List.mem_singleton.mp hm
      subst e1
      rw [if_pos rfl, R.em q hq]
      exact ⟨_, h1, ⟨⟨t, rfl, kt _ _ ht⟩, True.intro⟩⟩
  · rw [List.map_append] at hp
    rw [hB, if_neg fun z => hp (List.mem_append_right _ (by simp [z]))]
    exact R.em p fun z => hp (List.mem_append_left _ z)
  · rw [hB]
    split
    · exact List.append_ne_nil_of_right_ne_nil _ (List.cons_ne_nil _ _)
    · rename_i e1
      rcases List.mem_append.mp hm with hm | hm
      · exact R.ne e hm
      · have e2 := List.mem_singleton.mp hm
        subst e2
        exact absurd rfl e1
/-- a bucket taken out of the dict -/
theorem RAt.cut (R : RAt ST b st dx bk D s n H) {p : Nat} {l : Addr} (he : (p, l) ∈ D) (h2 : H' bk = some (.dK ((cutD D p).map ent))) (k : ∀ a o, a ≠ bk → H a = some o → foot st dx bk (cutD D p) a ∨ (∃ xs, o = .tup xs) → H' a = some o) :
    RAt ST b st dx bk (cutD D p) (s.cut p) n H' ∧ ¬ foot st dx bk (cutD D p) l := by
  obtain ⟨a1, a2, a3, a4⟩ := R.apart
  have kt : ∀ a xs, H a = some (.tup xs) → H' a = some (.tup xs) := fun a xs h => k a _ (ne_of h R.dk (by intro z; cases z)) h (Or.inr ⟨xs, rfl⟩)
  have hB : ∀ q, (s.cut p).B q = if q = p then [] else s.B q := fun _ => rfl
  refine ⟨⟨k _ _ a2 R.ins (Or.inl (Or.inl rfl)), k _ _ a3 R.own (Or.inl (Or.inr (Or.inl rfl))), h2, ?_, ?_, fun e hm => ?_, fun q hq => ?_, fun e hm => ?_⟩, ?_⟩
  · exact R.nd1.sublist (List.Sublist.map _ (List.filter_sublist))
  · exact R.nd2.sublist (List.Sublist.map _ (List.filter_sublist))
  · obtain ⟨m1, m2⟩ := mem_cut.mp hm
    obtain ⟨qs, h3, h4⟩ := R.ls e m1
    rw [hB, if_neg m2]
    exact ⟨qs, k _ _ (a4 e m1).2.2 h3 (Or.inl (Or.inr (Or.inr (Or.inr (List.mem_map_of_mem hm))))), tups_keep kt h4⟩
  · rw [hB]
    split
    · rfl
    · rename_i hne
      refine R.em q fun z => hq ?_
      obtain ⟨e, hm, rfl⟩ := List.mem_map.mp z
      exact List.mem_map_of_mem (mem_cut.mpr ⟨hm, hne⟩)
  · obtain ⟨m1, m2⟩ := mem_cut.mp hm
    rw [hB, if_neg m2]
    exact R.ne e m1
  · obtain ⟨c1, c2, c3⟩ := a4 _ he
    rintro (z | z | z | z)
    · exact c1 z
    · exact c2 z
    · exact c3 z
    · obtain ⟨e, hm, hz⟩ := List.mem_map.mp z
      obtain ⟨m1, m2⟩ := mem_cut.mp hm
      exact m2 (congrArg Prod.fst (R.one m1 he (Or.inr hz)))
theorem RAt.cut_not (R : RAt ST b st dx bk D s n H) {p : Nat} {l : Addr} (he : (p, l) ∈ D) : ¬ foot st dx bk (cutD D p) l := by
  obtain ⟨a1, a2, a3, a4⟩ := R.apart
  obtain ⟨c1, c2, c3⟩ := a4 _ he
  rintro (z | z | z | z)
  · exact c1 z
  · exact c2 z
  · exact c3 z
  · obtain ⟨e, hm, hz⟩ := List.mem_map.mp z
    obtain ⟨m1, m2⟩ := mem_cut.mp hm
    exact m2 (congrArg Prod.fst (R.one m1 he (Or.inr hz)))
/-- the list of bucket p has changed (and nothing else): its things -/
theorem RAt.lst (R : RAt ST b st dx bk D s n H) {p : Nat} {l : Addr} {ps : List V} {ts : List (Thing Str)} {s' : Sto Str} (he : (p, l) ∈ D) (h1 : H' l = some (.lst ps)) (ht : Tups H ps (ts.map tV)) (hne : ts ≠ []) (e1 : s'.last = s.last) (e2 : s'.moves = s.moves) (e3 : ∀ q, s'.B q = if q = p then ts else s.B q)
    (k : ∀ a o, a ≠ l → H a = some o → H' a = some o) : RAt ST b st dx bk D s' n H' := by
  obtain ⟨a1, a2, a3, a4⟩ := R.apart
  obtain ⟨c1, c2, c3⟩ := a4 _ he
  obtain ⟨ps0, hl, _⟩ := R.ls _ he
  have kt : ∀ a xs, H a = some (.tup xs) → H' a = some (.tup xs) := fun a xs h => k a _ (ne_of h hl (by intro z; cases z)) h
  refine ⟨by rw [e1, e2]; exact k _ _ (Ne.symm c1) R.ins, k _ _ (Ne.symm c2) R.own, k _ _ (Ne.symm c3) R.dk, R.nd1, R.nd2, fun e hm => ?_, fun q hq => ?_, fun e hm => ?_⟩
  · rw [e3]
    by_cases z : e.1 = p
    · have e4 := R.one hm he (Or.inl z)
      subst e4
      rw [if_pos rfl]
      exact ⟨ps, h1, tups_keep kt ht⟩
    · rw [if_neg z]
      obtain ⟨qs, h3, h4⟩ := R.ls e hm
      exact ⟨qs, k _ _ (fun y => z (congrArg Prod.fst (R.one hm he (Or.inr y)))) h3, tups_keep kt h4⟩
  · rw [e3, if_neg fun (z : q = p) => hq (z ▸ List.mem_map_of_mem (f := Prod.fst) he)]
    exact R.em q hq
  · rw [e3]
    split
    · exact hne
    · exact R.ne e hm
theorem RAt.key (R : RAt ST b st dx bk D s n H) {q : Nat} (h : s.B q ≠ []) : ∃ l, (q, l) ∈ D := by
  by_cases hq : q ∈ D.map Prod.fst
  · obtain ⟨e, he, rfl⟩ := List.mem_map.mp hq
    exact ⟨e.2, he⟩
  · exact absurd (R.em q hq) h
theorem RAt.keys_le (R : RAt ST b st dx bk D s n H) {m : Nat} (h : Tot s m) : D.length ≤ m := by
  obtain ⟨M, hM, rfl⟩ := h.ex
  have h1 := nodup_le (fun q => decide (s.B q ≠ [])) M (D.map Prod.fst) R.nd1 fun q hq => by
    obtain ⟨e, he, rfl⟩ := List.mem_map.mp hq
    have h2 := R.ne e he
    refine ⟨?_, decide_eq_true h2⟩
    have h3 : ¬ M ≤ e.1 := fun z => h2 (hM _ z)
    omega
  rw [List.length_map] at h1
  have h2 := sumTo_le (f := fun q => if decide (s.B q ≠ []) = true then 1 else 0) (g := fun q => (s.B q).length) (fun q => by
    by_cases e : s.B q = []
    · simp [e]
    · have : 0 < (s.B q).length := List.length_pos_iff.mpr e
      simp only [decide_not, Bool.not_eq_eq_eq_not, Bool.not_true, decide_eq_false_iff_not]
      split <;> omega) M
  omega
end
/-- where the store lies: its footprint F -/
structure SAt (ST : Addr) (b : Nat) (st : Addr) (s : Sto Str) (n : Nat) (F : Addr → Prop) (H : Hp) : Prop where
  hb : 2 ≤ b
  hb2 : b ≤ 16
  ex : ∃ dx bk D, RAt ST b st dx bk D s n H ∧ ∀ a, F a ↔ foot st dx bk D a
/-- what lies outside of the footprint stays as it is, and outside -/
def Mv (F F' : Addr → Prop) (H H' : Hp) : Prop := ∀ a o, H a = some o → ¬ F a → H' a = some o ∧ ¬ F' a
section
variable {ST : Addr} {b : Nat} {st : Addr} {s : Sto Str} {n : Nat} {F F' F'' : Addr → Prop} {H H' H'' : Hp}
theorem Mv.trans (x : Mv F F' H H') (y : Mv F' F'' H' H'') : Mv F F'' H H'' := fun a o h f => by
  obtain ⟨h1, f1⟩ := x a o h f
  exact y a o h1 f1
theorem Mv.ex (e : Ex H H') : Mv F F H H' := fun a o h f => ⟨e a o h, f⟩
theorem Mv.refl : Mv F F H H := Mv.ex (Ex.refl H)
theorem SAt.mono (S : SAt ST b st s n F H) (e : Ex H H') : SAt ST b st s n F H' := by
  obtain ⟨dx, bk, D, R, f⟩ := S.ex
  exact ⟨S.hb, S.hb2, dx, bk, D, R.mono e, f⟩
theorem SAt.notup (S : SAt ST b st s n F H) {a : Addr} {xs : List V} (h : H a = some (.tup xs)) : ¬ F a := fun z => by
  obtain ⟨dx, bk, D, R, f⟩ := S.ex
  exact R.notup h ((f a).mp z)
theorem SAt.free (S : SAt ST b st s n F H) {a : Addr} (h : H a = none) : ¬ F a := fun z => by
  obtain ⟨dx, bk, D, R, f⟩ := S.ex
  obtain ⟨o, ho⟩ := R.there ((f a).mp z)
  rw [h] at ho
  cases ho
/-- tuples stay -/
theorem Mv.tup (x : Mv F F' H H') (S : SAt ST b st s n F H) {a : Addr} {xs : List V} (h : H a = some (.tup xs)) : H' a = some (.tup xs) := (x a _ h (S.notup h)).1
theorem Mv.tups (x : Mv F F' H H') (S : SAt ST b st s n F H) {vs : List V} {xss : List (List V)} (h : Tups H vs xss) : Tups H' vs xss := tups_keep (fun a xs z => x.tup S z) h
/-- something else has changed -/
theorem SAt.other (S : SAt ST b st s n F H) {l : Addr} {o : HO} (hl : ¬ F l) (ht : ∀ xs, H l ≠ some (.tup xs)) : SAt ST b st s n F (upd H l o) := by
  obtain ⟨dx, bk, D, R, f⟩ := S.ex
  refine ⟨S.hb, S.hb2, dx, bk, D, R.keep (fun a u h z => ?_) (fun a xs h => ?_), f⟩
  · rw [upd_ne fun (e : a = l) => hl (e ▸ (f a).mpr z)]
    exact h
  · rw [upd_ne fun (e : a = l) => ht xs (e ▸ h)]
    exact h
theorem SAt.otherL (S : SAt ST b st s n F H) {l : Addr} {o : HO} {xs : List V} (hl : ¬ F l) (h : H l = some (.lst xs)) : SAt ST b st s n F (upd H l o) := S.other hl fun ys z => by
  rw [h] at z
  cases z
/-- two stores side by side: what one does leaves the other -/
theorem SAt.beside {ST' : Addr} {b' : Nat} {st' : Addr} {s' : Sto Str} {n' : Nat} {G : Addr → Prop} (S : SAt ST' b' st' s' n' G H) (T : SAt ST b st s n F H) (x : Mv F F' H H') (d : ∀ a, G a → ¬ F a) : SAt ST' b' st' s' n' G H' ∧ ∀ a, G a → ¬ F' a := by
  obtain ⟨dx, bk, D, R, f⟩ := S.ex
  refine ⟨⟨S.hb, S.hb2, dx, bk, D, R.keep (fun a u h z => (x a u h (d a ((f a).mpr z))).1) (fun a xs h => (x a _ h (T.notup h)).1), f⟩, fun a z => ?_⟩
  obtain ⟨o, ho⟩ := R.there ((f a).mp z)
  exact (x a o ho (d a z)).2
end
/-- the keys, sorted -/
theorem keys_of {D : List Nat} {ys : List Int} (hp : ys.Perm (D.map fun (q : Nat) => (q : Int))) (hs : ys.Pairwise (· ≤ ·)) (nd : D.Nodup) : ∃ ks : List Nat, ys = ks.map (fun (q : Nat) => (q : Int)) ∧ ks.Pairwise (· < ·) ∧ ∀ q, q ∈ ks ↔ q ∈ D := by
  have h0 : ∀ y ∈ ys, ∃ q : Nat, q ∈ D ∧ y = (q : Int) := fun y hy => by
    obtain ⟨q, hq, e⟩ := List.mem_map.mp (hp.mem_iff.mp hy)
    exact ⟨q, hq, e.symm⟩
  have e1 : ys = (ys.map Int.toNat).map (fun (q : Nat) => (q : Int)) := by
    rw [List.map_map]
    conv => lhs; rw [← List.map_id ys]
    apply List.map_congr_left
    intro y hy
    obtain ⟨q, _, rfl⟩ := h0 y hy
    rfl
  have hm : ∀ q, q ∈ ys.map Int.toNat ↔ q ∈ D := fun q => by
    constructor
    · intro h
      obtain ⟨y, hy, rfl⟩ := List.mem_map.mp h
      obtain ⟨q, hq, rfl⟩ := h0 y hy
      exact hq
    · intro h
      exact List.mem_map.mpr ⟨(q : Int), hp.mem_iff.mpr (List.mem_map.mpr ⟨q, h, rfl⟩), rfl⟩
  refine ⟨ys.map Int.toNat, e1, ?_, hm⟩
  have nd2 : (D.map fun (q : Nat) => (q : Int)).Nodup := by
    rw [List.Nodup, List.pairwise_map]
    exact nd.imp fun h z => h (by omega)
  have nd3 : ys.Nodup := hp.nodup_iff.mpr nd2
  rw [List.pairwise_map]
  have h2 : ys.Pairwise fun a b => a ≤ b ∧ a ≠ b := List.Pairwise.and hs nd3
  refine h2.imp_of_mem fun {a b} ha hb h => ?_
  obtain ⟨x, _, rfl⟩ := h0 a ha
  obtain ⟨y, _, rfl⟩ := h0 b hb
  have := h.1
  have := h.2
  show x < y
  omega
end BF

/-! Methods and instances in bundles; what the fields of the store evaluate to. -/
namespace BF
open PySem L2 Evl
/-- the method m of the class at C stands in the text -/
structure MethAt (K : PySem.W.Frag) (C : Addr) (m qual : Str) (st : Stmt) (ps : List Str) : Prop where
  ex : ∃ f fd, Fun K m qual st f fd ∧ Meth K C m f ∧ ∀ us : List Value, us.length = ps.length → bindArgs fd ⟨us, []⟩ = pure (ps.zip us)
theorem meth_mk {K : PySem.W.Frag} {C : Addr} {m qual : Str} {st : Stmt} {ps : List Str} {f : Addr} {oc : Value} {od an : Option Addr} {osl : Array (Option Value)} {kV doc pm cdv ct : Value}
    (a : PySem.W.findIn K (.ref C) m = some (some (.ref f))) (i : PySem.W.isFn K (.ref f) = true) (l : K.lookup f = some ⟨oc, od, .func (PySem.W.fnOf m qual (defArgs st) (defBody st) (defScope st) .none kV doc pm an cdv ct), osl⟩) (c : PySem.W.codeIn K cdv qual = true) (k : PySem.W.keepIn K (.ref f) = true)
    (b : ∀ (kV doc pm : Value) (an : Option Addr) (cdv ct : Value) (us : List Value), us.length = ps.length → bindArgs (PySem.W.fnOf m qual (defArgs st) (defBody st) (defScope st) .none kV doc pm an cdv ct) ⟨us, []⟩ = pure (ps.zip us)) : MethAt K C m qual st ps :=
  ⟨f, _, fun_mk l c k, ⟨a, i, k⟩, b _ _ _ _ _ _⟩
/-- .. its __init__, and the class can be made -/
structure InitAt (K : PySem.W.Frag) (C : Addr) (qual : Str) (st : Stmt) (ps : List Str) : Prop where
  ex : ∃ f fd, Fun K "__init__" qual st f fd ∧ Mk K C f ∧ ∀ us : List Value, us.length = ps.length → bindArgs fd ⟨us, []⟩ = pure (ps.zip us)
theorem init_mk {K : PySem.W.Frag} {C : Addr} {qual : Str} {st : Stmt} {ps : List Str} {f : Addr} {oc : Value} {od an : Option Addr} {osl : Array (Option Value)} {kV doc pm cdv ct : Value}
    (a : PySem.W.findIn K (.ref C) "__init__" = some (some (.ref f))) (i : PySem.W.isFn K (.ref f) = true) (l : K.lookup f = some ⟨oc, od, .func (PySem.W.fnOf "__init__" qual (defArgs st) (defBody st) (defScope st) .none kV doc pm an cdv ct), osl⟩) (c : PySem.W.codeIn K cdv qual = true) (k : PySem.W.keepIn K (.ref f) = true)
    (b : ∀ (kV doc pm : Value) (an : Option Addr) (cdv ct : Value) (us : List Value), us.length = ps.length → bindArgs (PySem.W.fnOf "__init__" qual (defArgs st) (defBody st) (defScope st) .none kV doc pm an cdv ct) ⟨us, []⟩ = pure (ps.zip us))
    (mk : PySem.W.makesIn K C = true) (kc : PySem.W.keepIn K (.ref C) = true) : InitAt K C qual st ps :=
  ⟨f, _, fun_mk l c k, ⟨mk, a, i, kc⟩, b _ _ _ _ _ _⟩
theorem noattr_mk {K : PySem.W.Frag} {C : Addr} {f : Str} (h : PySem.W.findIn K (.ref C) f = some none) : NoAttr K C f := h
structure OwnM (P : Program) (w : World) (K : PySem.W.Frag) (mg : Str → Option Value) (base : Heap) (C : Addr) (m : Str) (k : Nat) (ps : List Str) (sp : Sp) : Prop where
  ex : ∃ f fd, FnOk P w K mg base (L2N.CX P w) k f fd ps sp ∧ Meth K C m f ∧ Binds K fd ps []
structure OwnI (P : Program) (w : World) (K : PySem.W.Frag) (mg : Str → Option Value) (base : Heap) (C : Addr) (k : Nat) (ps : List Str) (sp : Sp) : Prop where
  ex : ∃ f fd, FnOk P w K mg base (L2N.CX P w) k f fd ps sp ∧ Mk K C f ∧ Binds K fd ps []
section
variable {P : Program} {w : World} {K : PySem.W.Frag} {mg : Str → Option Value} {base : Heap}
theorem ownM_of {C : Addr} {m qual : Str} {st : Stmt} {N ps : List Str} {k : Nat} {sp : Sp} (d : MethAt K C m qual st ps) (S : FnScope N ps (defScope st)) (len : ∀ vs H Q E, sp vs H Q E → vs.length = ps.length)
    (hbody : ∀ (f : Addr) (cdv : Value) (A : Around) (outer : List Env) (s : Shared) (H : Hp) (vs : List V) (Q : VK) (E : XK), Room k (A.deeper (PyProof.Rows.envOfC qual (defScope st) s.heap.objs.size f cdv)) → sp vs H Q E →
      ∃ t, PSs (cxOf (L2N.CX P w) P w K mg base N qual (defScope st) f cdv A outer s H E) (defBody st) t ∧ t { nx := fun _ H' => Q .non H', rt := Q } (start N vs) H) : OwnM P w K mg base C m (k + 1) ps sp := by
  obtain ⟨f, fd, F, hm, hb⟩ := d.ex
  exact ⟨f, fd, okN F S len (hbody f), hm, .all hb⟩
theorem ownI_of {C : Addr} {qual : Str} {st : Stmt} {N ps : List Str} {k : Nat} {sp : Sp} (d : InitAt K C qual st ps) (S : FnScope N ps (defScope st)) (len : ∀ vs H Q E, sp vs H Q E → vs.length = ps.length)
    (hbody : ∀ (f : Addr) (cdv : Value) (A : Around) (outer : List Env) (s : Shared) (H : Hp) (vs : List V) (Q : VK) (E : XK), Room k (A.deeper (PyProof.Rows.envOfC qual (defScope st) s.heap.objs.size f cdv)) → sp vs H Q E →
      ∃ t, PSs (cxOf (L2N.CX P w) P w K mg base N qual (defScope st) f cdv A outer s H E) (defBody st) t ∧ t { nx := fun _ H' => Q .non H', rt := Q } (start N vs) H) : OwnI P w K mg base C (k + 1) ps sp := by
  obtain ⟨f, fd, F, hm, hb⟩ := d.ex
  exact ⟨f, fd, okN F S len (hbody f), hm, .all hb⟩
end
/-- o.m(..) within a try -/
def tMethT (C : Addr) (m : Str) (sp : Sp) (W : WX) (ta : TE) (t : TA) : TE := fun σ H Q => ta σ H fun x H1 => ∃ a dx fs, x = .ref a ∧ H1 a = some (.ins C dx fs) ∧ fs.lookup m = none ∧ t σ H1 fun vs H2 => sp (x :: vs) H2 Q (WE W σ)
section
variable {X : Cx} {C : Addr} {m x : Str} {k j : Nat} {ps : List Str} {sp : Sp} {E : XK} {p pos apos : Pos} {o e : Expr} {es : List Expr} {ta : TE} {t : TA} {pl : Sem Bool} {W : WX}
theorem pe_ownM (O : OwnM X.prog X.w X.K X.mg X.base C m k ps sp) (c : Cls X.K C) (hr : Room j X.A) (hk : k ≤ j) (hx : Passes (L2N.CX X.prog X.w) X E) (he : PE X o ta) (ha : PA X (e :: es) t)
    (hst : starEach (e :: es) X.env = (false, eval e X.env) :: starEach es X.env := by rfl) (hpl : (backTo pos (starEach es X.env)).any (·.1) = false := by rfl)
    (ht : eval (.Call (.Attribute o m apos) (e :: es) [] pos) X.env = (do
      let ov ← eval o X.env
      standAt apos.atName
      let (f, first) ← holding [ov] (getMethod ov m pl)
      callWith pos f first (backTo pos (starEach (e :: es) X.env)) (backToKw pos (keywordEach [] X.env))) := by rfl) :
    PE X (.Call (.Attribute o m apos) (e :: es) [] pos) (tMeth C m sp [] E ta t) := by
  obtain ⟨f, fd, F, hm, hb⟩ := O.ex
  exact pe_meth he c hm F (hr.mono hk) hb .nil hx ha hst hpl ht
theorem pe_ownM0 (O : OwnM X.prog X.w X.K X.mg X.base C m k ps sp) (c : Cls X.K C) (hr : Room j X.A) (hk : k ≤ j) (hx : Passes (L2N.CX X.prog X.w) X E) (he : PE X o ta)
    (ht : eval (.Call (.Attribute o m apos) [] [] pos) X.env = (do
      let ov ← eval o X.env
      standAt apos.atName
      let (f, first) ← holding [ov] (getMethod ov m pl)
      callWith pos f first (backTo pos (starEach [] X.env)) (backToKw pos (keywordEach [] X.env))) := by rfl) :
    PE X (.Call (.Attribute o m apos) [] [] pos) (tMeth C m sp [] E ta tNil) := by
  obtain ⟨f, fd, F, hm, hb⟩ := O.ex
  exact pe_meth0 he c hm F (hr.mono hk) hb .nil hx ht
theorem pe_ownMT (O : OwnM X.prog X.w X.K X.mg X.base C m k ps sp) (c : Cls X.K C) (hr : Room j X.A) (hk : k ≤ j) (tk : L2N.Takes X W) (he : PE X o ta) (ha : PA X (e :: es) t)
    (hst : starEach (e :: es) X.env = (false, eval e X.env) :: starEach es X.env := by rfl) (hpl : (backTo pos (starEach es X.env)).any (·.1) = false := by rfl)
    (ht : eval (.Call (.Attribute o m apos) (e :: es) [] pos) X.env = (do
      let ov ← eval o X.env
      standAt apos.atName
      let (f, first) ← holding [ov] (getMethod ov m pl)
      callWith pos f first (backTo pos (starEach (e :: es) X.env)) (backToKw pos (keywordEach [] X.env))) := by rfl) :
    PE X (.Call (.Attribute o m apos) (e :: es) [] pos) (tMethT C m sp W ta t) := by
  obtain ⟨f, fd, F, hm, hb⟩ := O.ex
  refine ⟨fun pins s σ H Q I h => ?_⟩
  refine PySem.W.methodCall_KW (pl := pl) (thn (he.run pins s σ H _ I h) fun u s1 ⟨x, H1, I1, rx, a, dx, fs, ex, ea, l, q⟩ => ?_) ht
  subst ex
  obtain rfl : u = Value.ref a := rx
  refine getmeth_ok I1 ea c hm l ?_
  refine PySem.W.callWith_K (first := [.ref a]) (h₀ := X.base) I.ok.mod.kin hm.kp (thn (ha.run pos pins s1 σ H1 _ I1 q) fun us s2 ⟨vs, H2, I2, r, q2⟩ => ⟨I2.kIn, ?_⟩) hst hpl
  exact run_fnS (us := .ref a :: us) (vs := .ref a :: vs) F (hr.mono hk) hb (L2N.passAt tk σ) I2 (.cons rfl r) q2
theorem pe_ownMT0 (O : OwnM X.prog X.w X.K X.mg X.base C m k ps sp) (c : Cls X.K C) (hr : Room j X.A) (hk : k ≤ j) (tk : L2N.Takes X W) (he : PE X o ta)
    (ht : eval (.Call (.Attribute o m apos) [] [] pos) X.env = (do
      let ov ← eval o X.env
      standAt apos.atName
      let (f, first) ← holding [ov] (getMethod ov m pl)
      callWith pos f first (backTo pos (starEach [] X.env)) (backToKw pos (keywordEach [] X.env))) := by rfl) :
    PE X (.Call (.Attribute o m apos) [] [] pos) (tMethT C m sp W ta tNil) := by
  obtain ⟨f, fd, F, hm, hb⟩ := O.ex
  refine ⟨fun pins s σ H Q I h => ?_⟩
  refine PySem.W.methodCall_KW (pl := pl) (thn (he.run pins s σ H _ I h) fun u s1 ⟨x, H1, I1, rx, a, dx, fs, ex, ea, l, q⟩ => ?_) ht
  subst ex
  obtain rfl : u = Value.ref a := rx
  refine getmeth_ok I1 ea c hm l ?_
  exact PySem.W.callWith_K0 (first := [.ref a]) I1.kIn hm.kp (run_fnS (us := [.ref a]) (vs := [.ref a]) F (hr.mono hk) hb (L2N.passAt tk σ) I1 (.cons rfl .nil) q)
theorem pe_ownI (O : OwnI X.prog X.w X.K X.mg X.base C k ps sp) (hm : X.mg x = some (.ref C)) (hr : Room j X.A) (hk : k + 1 ≤ j) (hx : Passes (L2N.CX X.prog X.w) X E) (ha : PA X (e :: es) t) (hg : Gl X x := by rfl)
    (hdb : (x == ("__debug__" : Str)) = false := by decide) (he : starEach (e :: es) X.env = (false, eval e X.env) :: starEach es X.env := by rfl) (hpl : (backTo pos (starEach es X.env)).any (·.1) = false := by rfl) :
    PE X (.Call (.Name x p) (e :: es) [] pos) (tMake C sp [] E t) := by
  obtain ⟨f, fd, F, M, hb⟩ := O.ex
  exact pe_make M F (hr.mono hk) hg hm hb .nil hx ha hdb he hpl
/-- min(e, key=f) -/
def tMinKey (K : PySem.W.Frag) (D : List V → Hp → V → Prop) (t : TA) : TE := fun σ H Q => t σ H fun vs H1 => ∃ (a : Addr) (xs : List V) (ns : Nat → Int), vs = [V.ref a] ∧ SqL K H1 a xs ∧ 0 < xs.length ∧ (∀ x ∈ xs, ∃ p, x = V.ref p) ∧
  (∀ i x H2, xs[i]? = some x → Ex H1 H2 → D [x] H2 (.int (ns i))) ∧ ∀ i x H2, xs[i]? = some x → BFK.KeyLeast ns xs.length i → Ex H1 H2 → Q x H2
theorem pe_minKey {y q : Str} {kp1 kp2 : Pos} {D : List V → Hp → V → Prop} (O : Own X.prog X.w X.K X.mg X.base y k [q] (spD D)) (hr : Room j X.A) (hk : k + 1 ≤ j) (hm : X.mg "min" = none) (ha : PA X [e] t) (hg : Gl X "min" := by rfl) (hgy : Gl X y := by rfl)
    (hdy : (y == ("__debug__" : Str)) = false := by decide)
    (he : backTo pos (starEach [e] X.env) = (false, eval e X.env) :: backTo pos (starEach [] X.env) := by rfl) (hpl : (backTo pos (starEach [e] X.env)).any (·.1) = false := by rfl)
    (hall : (backToKw pos (keywordEach [⟨some "key", .Name y kp1, kp2⟩] X.env)).all (·.1.isSome) = true := by rfl) (hnone : (backToKw pos (keywordEach [⟨some "key", .Name y kp1, kp2⟩] X.env)).any (·.1.isNone) = false := by rfl) (hks : (backToKw pos (keywordEach [⟨some "key", .Name y kp1, kp2⟩] X.env)).filterMap (·.1) = [("key" : Str)] := by rfl) :
    PE X (.Call (.Name "min" p) [e] [⟨some "key", .Name y kp1, kp2⟩] pos) (tMinKey X.K D t) := by
  obtain ⟨f, fd, F, hmf, hkp, hb⟩ := O.ex
  have hkw : PK X [⟨some "key", .Name y kp1, kp2⟩] (tCons (tC (.ref f)) tNil) := pk_cons (pe_glob (v := .ref f) hgy hmf rfl hdy) pk_nil
  refine ⟨fun pins s σ H Q I z => ?_⟩
  refine wpAny_Call_Name_kw (ld_blt I hg hm (u := .builtin "min") (by decide +kernel) ?_ (by decide) (by decide))
  refine PyProof.Rows.callWith_kw (thn (ha.run pos pins s σ H _ I z) fun us s1 ⟨vs, H1, I1, r1, q1⟩ => thn (hkw.run pos pins s1 σ H1 (fun zs H2 => zs = [V.ref f] ∧ H2 = H1) I1 ⟨rfl, rfl⟩) fun ws s2 ⟨zs, H2, I2, r2, q2⟩ => ?_) he hpl hall hnone
  rw [hks]
  obtain ⟨rfl, rfl⟩ := q2
  obtain ⟨a, xs, ns, rfl, h1, h2, h3, h4, h5⟩ := q1
  exact BFK.cr_minKey F hb (hr.mono hk) pins s2 σ H2 _ _ us ws Q I2 r1 r2 ⟨a, xs, ns, rfl, rfl, h1, h2, h3, h4, h5⟩
end
/-! ### readings, as they stand -/
section
variable {K : PySem.W.Frag} {σ : L2.St} {H : Hp} {te ta tv : TE} {t : TA} {tz : TS} {D : Ends} {C dx a : Addr} {fs : List (Str × V)} {f m : Str} {v x y : V} {vs : List V} {sp : Sp} {E : XK} {Q : VK} {W : WX}
theorem q_te {i : Nat} (h : te σ H fun v H1 => tz D (σ.set i (some v)) H1) : tSeq (tAsg te (gName i)) tz D σ H := h
theorem s_te {i : Nat} (h : te σ H fun v H1 => D.nx (σ.set i (some v)) H1) : tAsg te (gName i) D σ H := h
theorem q_dr (h : te σ H fun _ H1 => tz D σ H1) : tSeq (tDrop te) tz D σ H := h
theorem s_dr (h : te σ H fun _ H1 => D.nx σ H1) : tDrop te D σ H := h
theorem s_rt (h : te σ H D.rt) : tRet te D σ H := h
theorem q_tu {g : TGs} {n : Nat} (h : te σ H fun v H1 => gTup K n g v σ H1 (tz D)) : tSeq (tAsg te (gTup K n g)) tz D σ H := h
theorem g_tup3 {i j k : Nat} {a b c : V} {p : Addr} {Q : L2.St → Hp → Prop} (hp : H p = some (.tup [a, b, c])) (h : Q (((σ.set i (some a)).set j (some b)).set k (some c)) H) : gTup K 3 (gCons (gName i) (gCons (gName j) (gCons (gName k) gNil))) (.ref p) σ H Q :=
  ⟨p, _, rfl, st_of hp, rfl, a, _, rfl, b, _, rfl, c, _, rfl, rfl, h⟩
theorem g_tup2 {i j : Nat} {a b : V} {p : Addr} {Q : L2.St → Hp → Prop} (hp : H p = some (.tup [a, b])) (h : Q ((σ.set i (some a)).set j (some b)) H) : gTup K 2 (gCons (gName i) (gCons (gName j) gNil)) (.ref p) σ H Q :=
  ⟨p, _, rfl, st_of hp, rfl, a, _, rfl, b, _, rfl, rfl, h⟩
theorem ev_fld (c : Cls K C) (n : NoAttr K C f) (h : H a = some (.ins C dx fs)) (l : fs.lookup f = some v) (ha : Ev ta σ H (.ref a)) : Ev (tFld K ta f) σ H v := fun H1 e Q q =>
  ha H1 e _ fun H2 e2 => ⟨a, C, dx, fs, v, rfl, e2 _ _ (e _ _ h), c, n, l, q H2 e2⟩
theorem c_meth (h : H a = some (.ins C dx fs)) (l : fs.lookup m = none) (ha : Ev ta σ H (.ref a)) (ht : EvA t σ H vs) (k : ∀ H2, Ex H H2 → sp (.ref a :: vs) H2 Q E) : tMeth C m sp [] E ta t σ H Q :=
  ha H (Ex.refl H) _ fun H1 e1 => ⟨a, dx, fs, rfl, e1 _ _ h, l, ht H1 e1 _ fun H2 e2 => by
    show sp (.ref a :: (vs ++ [])) H2 Q E
    rw [List.append_nil]
    exact k H2 (e1.trans e2)⟩
theorem c_methT (h : H a = some (.ins C dx fs)) (l : fs.lookup m = none) (ha : Ev ta σ H (.ref a)) (ht : EvA t σ H vs) (k : ∀ H2, Ex H H2 → sp (.ref a :: vs) H2 Q (WE W σ)) : tMethT C m sp W ta t σ H Q :=
  ha H (Ex.refl H) _ fun H1 e1 => ⟨a, dx, fs, rfl, e1 _ _ h, l, ht H1 e1 _ fun H2 e2 => k H2 (e1.trans e2)⟩
theorem s_fldw (c : Cls K C) (n : NoAttr K C f) (h : H a = some (.ins C dx fs)) (hz : fs.length < 1000) (hv : Ev tv σ H y) (ha : Ev ta σ H (.ref a)) (k : ∀ H2, Ex H H2 → D.nx σ (upd H2 a (.ins C dx (putF f y fs)))) : sFld K ta tv f D σ H :=
  hv H (Ex.refl H) _ fun H1 e1 => ha H1 e1 _ fun H2 e2 => ⟨a, C, dx, fs, rfl, e2 _ _ (e1 _ _ h), c, n, hz, k H2 (e1.trans e2)⟩
theorem q_fldw (c : Cls K C) (n : NoAttr K C f) (h : H a = some (.ins C dx fs)) (hz : fs.length < 1000) (hv : Ev tv σ H y) (ha : Ev ta σ H (.ref a)) (k : ∀ H2, Ex H H2 → tz D σ (upd H2 a (.ins C dx (putF f y fs)))) : tSeq (sFld K ta tv f) tz D σ H := s_fldw (D := { D with nx := tz D }) c n h hz hv ha k
theorem s_fladd {i j : Int} (c : Cls K C) (n : NoAttr K C f) (h : H a = some (.ins C dx fs)) (hz : fs.length < 1000) (l : fs.lookup f = some (.int i)) (hv : Ev tv σ H (.int j)) (ha : Ev ta σ H (.ref a)) (k : ∀ H2, Ex H H2 → D.nx σ (upd H2 a (.ins C dx (putF f (.int (i + j)) fs)))) : sFldAug K ta tv rAdd f D σ H :=
  ha H (Ex.refl H) _ fun H1 e1 => ⟨a, C, dx, fs, _, rfl, e1 _ _ h, c, n, l, hv H1 e1 _ fun H2 e2 => ⟨i, j, rfl, rfl, dx, fs, e2 _ _ (e1 _ _ h), hz, k H2 (e1.trans e2)⟩⟩
theorem s_flsub {i j : Int} (c : Cls K C) (n : NoAttr K C f) (h : H a = some (.ins C dx fs)) (hz : fs.length < 1000) (l : fs.lookup f = some (.int i)) (hv : Ev tv σ H (.int j)) (ha : Ev ta σ H (.ref a)) (k : ∀ H2, Ex H H2 → D.nx σ (upd H2 a (.ins C dx (putF f (.int (i - j)) fs)))) : sFldAug K ta tv rSub f D σ H :=
  ha H (Ex.refl H) _ fun H1 e1 => ⟨a, C, dx, fs, _, rfl, e1 _ _ h, c, n, l, hv H1 e1 _ fun H2 e2 => ⟨i, j, rfl, rfl, dx, fs, e2 _ _ (e1 _ _ h), hz, k H2 (e1.trans e2)⟩⟩
theorem q_fladd {i j : Int} (c : Cls K C) (n : NoAttr K C f) (h : H a = some (.ins C dx fs)) (hz : fs.length < 1000) (l : fs.lookup f = some (.int i)) (hv : Ev tv σ H (.int j)) (ha : Ev ta σ H (.ref a)) (k : ∀ H2, Ex H H2 → tz D σ (upd H2 a (.ins C dx (putF f (.int (i + j)) fs)))) : tSeq (sFldAug K ta tv rAdd f) tz D σ H := s_fladd (D := { D with nx := tz D }) c n h hz l hv ha k
theorem q_flsub {i j : Int} (c : Cls K C) (n : NoAttr K C f) (h : H a = some (.ins C dx fs)) (hz : fs.length < 1000) (l : fs.lookup f = some (.int i)) (hv : Ev tv σ H (.int j)) (ha : Ev ta σ H (.ref a)) (k : ∀ H2, Ex H H2 → tz D σ (upd H2 a (.ins C dx (putF f (.int (i - j)) fs)))) : tSeq (sFldAug K ta tv rSub f) tz D σ H := s_flsub (D := { D with nx := tz D }) c n h hz l hv ha k
/-- d[k], k an int -/
theorem ev_dget {d : Addr} {kvs : List (Key × V)} {q : Int} {td ty : TE} (hd : Ev td σ H (.ref d)) (hk : Ev ty σ H (.int q)) (h : H d = some (.dK kvs)) (hv : valV kvs (Sum.inl q) = some v) : Ev (tDGet td ty) σ H v := fun H1 e Q k =>
  hd H1 e _ fun H2 e2 => hk H2 (e.trans e2) _ fun H3 e3 => ⟨d, v, rfl, by
    have := DGet.k (k := Sum.inl q) (e3 _ _ (e2 _ _ (e _ _ h)))
    rw [hv] at this
    exact this, k H3 (e2.trans e3)⟩
end
/-- d.setdefault(k, []).append(t) -/
theorem s_setdApp {K : PySem.W.Frag} {σ : L2.St} {H : Hp} {td ty tt : TE} {D : Ends} {d t : Addr} {q : Int} {kvs : List (Key × V)} (hd : Ev td σ H (.ref d)) (hk : Ev ty σ H (.int q)) (ht : ∀ H1, Ev tt σ H1 (.ref t)) (h : H d = some (.dK kvs)) (hz : kvs.length < 100000)
    (k1 : ∀ v, valV kvs (Sum.inl q) = some v → ∃ l ps, v = .ref l ∧ H l = some (.lst ps) ∧ ps.length < 100000 ∧ ∀ H2, Ex H H2 → D.nx σ (upd H2 l (.lst (ps ++ [.ref t]))))
    (k2 : valV kvs (Sum.inl q) = none → ∀ p H2, H p = none → H2 p = some (.lst [.ref t]) → H2 d = some (.dK (putK kvs (Sum.inl q) (.ref p))) → (∀ a o, a ≠ d → H a = some o → H2 a = some o) → D.nx σ H2) :
    tDrop (tBM K "list" rAppend (tDSetd td ty (tLst tNil)) (tCons tt tNil)) D σ H := by
  refine hd H (Ex.refl H) _ fun H1 e1 => ?_
  refine ⟨d, rfl, Or.inl ⟨_, Or.inl (e1 _ _ h)⟩, hk H1 e1 _ fun H2 e2 => ⟨Nat.zero_le _, fun l hl => ?_⟩⟩
  have e12 := e1.trans e2
  have e3 := e12.trans (Ex.new (o := .lst []) hl)
  refine ⟨kvs, Sum.inl q, e3 _ _ h, rfl, sz_lt hz, fun v hv => ?_, fun hn => ?_⟩
  · obtain ⟨l', ps, rfl, h1, h2, k⟩ := k1 v hv
    refine ⟨.inl ⟨rfl, _, sq_of (e3 _ _ h1)⟩, ht _ _ (Ex.refl _) _ fun H4 e4 => ⟨l', ps, .ref t, rfl, rfl, e4 _ _ (e3 _ _ h1), sz_lt h2, k H4 (e3.trans e4)⟩⟩
  · have nl : l ≠ d := fun z => by
      have h3 := e12 _ _ h
      rw [← z, hl] at h3
      cases h3
    have hlst : (upd (upd H2 l (.lst [])) d (.dK (putK kvs (Sum.inl q) (.ref l)))) l = some (.lst []) := by rw [upd_ne nl, upd_same]
    have lnt : ∀ a o, H a = some o → a ≠ l := fun a o h z => by
      have := e12 _ _ h
      rw [z, hl] at this
      cases this
    refine ⟨.inl ⟨rfl, [], sq_of hlst⟩, ht _ _ (Ex.refl _) _ fun H4 e4 => ⟨l, [], .ref t, rfl, rfl, e4 _ _ hlst, sz_lt (by show 0 < 100000; decide), ?_⟩⟩
    refine k2 hn l _ (fresh_back e12 hl) upd_same ?_ fun a o ha h0 => ?_
    · rw [upd_ne (Ne.symm nl)]
      exact e4 _ _ upd_same
    · rw [upd_ne (lnt a o h0)]
      refine e4 _ _ ?_
      rw [upd_ne ha]
      exact e3 _ _ h0
/-! ### fields of the store -/
section
variable {K : PySem.W.Frag} {σ : L2.St} {H : Hp} {ta : TE} {ST : Addr} {b : Nat} {st : Addr} {s : Sto Str} {n : Nat} {F : Addr → Prop}
theorem SAt.inst (S : SAt ST b st s n F H) : ∃ dx bk, H st = some (.ins ST dx (flds b s.last n s.moves bk)) := by
  obtain ⟨dx, bk, D, R, _⟩ := S.ex
  exact ⟨dx, bk, R.ins⟩
theorem ev_base (S : SAt ST b st s n F H) (c : Cls K ST) (h : NoAttr K ST "base") (ha : Ev ta σ H (.ref st)) : Ev (tFld K ta "base") σ H (.int (b : Int)) := by
  obtain ⟨dx, bk, i⟩ := S.inst
  exact ev_fld c h i fl_base ha
theorem ev_last (S : SAt ST b st s n F H) (c : Cls K ST) (h : NoAttr K ST "last") (ha : Ev ta σ H (.ref st)) : Ev (tFld K ta "last") σ H (.int (s.last : Int)) := by
  obtain ⟨dx, bk, i⟩ := S.inst
  exact ev_fld c h i fl_last ha
theorem ev_many (S : SAt ST b st s n F H) (c : Cls K ST) (h : NoAttr K ST "many") (ha : Ev ta σ H (.ref st)) : Ev (tFld K ta "many") σ H (.int (n : Int)) := by
  obtain ⟨dx, bk, i⟩ := S.inst
  exact ev_fld c h i fl_many ha
theorem ev_moves (S : SAt ST b st s n F H) (c : Cls K ST) (h : NoAttr K ST "moves") (ha : Ev ta σ H (.ref st)) : Ev (tFld K ta "moves") σ H (.int (s.moves : Int)) := by
  obtain ⟨dx, bk, i⟩ := S.inst
  exact ev_fld c h i fl_moves ha
/-- a method of the store called -/
theorem c_sto {m : Str} {sp : Sp} {E : XK} {Q : VK} {t : TA} {vs : List V} (S : SAt ST b st s n F H) (hm : ¬ m = "base" ∧ ¬ m = "last" ∧ ¬ m = "many" ∧ ¬ m = "moves" ∧ ¬ m = "_buckets") (ha : Ev ta σ H (.ref st)) (ht : EvA t σ H vs) (k : ∀ H2, Ex H H2 → SAt ST b st s n F H2 → sp (.ref st :: vs) H2 Q E) : tMeth ST m sp [] E ta t σ H Q := by
  obtain ⟨dx, bk, i⟩ := S.inst
  exact c_meth i (fl_no hm.1 hm.2.1 hm.2.2.1 hm.2.2.2.1 hm.2.2.2.2) ha ht fun H2 e => k H2 e (S.mono e)
theorem c_stoT {m : Str} {sp : Sp} {W : WX} {Q : VK} {t : TA} {vs : List V} (S : SAt ST b st s n F H) (hm : ¬ m = "base" ∧ ¬ m = "last" ∧ ¬ m = "many" ∧ ¬ m = "moves" ∧ ¬ m = "_buckets") (ha : Ev ta σ H (.ref st)) (ht : EvA t σ H vs) (k : ∀ H2, Ex H H2 → SAt ST b st s n F H2 → sp (.ref st :: vs) H2 Q (WE W σ)) : tMethT ST m sp W ta t σ H Q := by
  obtain ⟨dx, bk, i⟩ := S.inst
  exact c_methT i (fl_no hm.1 hm.2.1 hm.2.2.1 hm.2.2.2.1 hm.2.2.2.2) ha ht fun H2 e => k H2 e (S.mono e)
/-- .. with a first argument and a new tuple behind it -/
theorem c_stoU {m : Str} {sp : Sp} {E : XK} {Q : VK} {t1 tu : TE} {v : V} {xs : List V} (S : SAt ST b st s n F H) (hm : ¬ m = "base" ∧ ¬ m = "last" ∧ ¬ m = "many" ∧ ¬ m = "moves" ∧ ¬ m = "_buckets") (ha : Ev ta σ H (.ref st)) (h1 : Ev t1 σ H v) (hu : EvU tu σ H xs)
    (k : ∀ p H2, Ex H H2 → H2 p = some (.tup xs) → SAt ST b st s n F H2 → sp [.ref st, v, .ref p] H2 Q E) : tMeth ST m sp [] E ta (tCons t1 (tCons tu tNil)) σ H Q := by
  obtain ⟨dx, bk, i⟩ := S.inst
  exact ha H (Ex.refl H) _ fun H1 e1 => ⟨st, dx, _, rfl, e1 _ _ i, fl_no hm.1 hm.2.1 hm.2.2.1 hm.2.2.2.1 hm.2.2.2.2, h1 H1 e1 _ fun H2 e2 => hu H2 (e1.trans e2) _ fun p H3 _ e3 hp => k p H3 ((e1.trans e2).trans e3) hp (S.mono ((e1.trans e2).trans e3))⟩
/-- d.pop(k) -/
theorem q_dpop {td ty : TE} {tz : TS} {D : Ends} {d : Addr} {q : Int} {kvs : List (Key × V)} {v : V} {i : Nat} (hd : Ev td σ H (.ref d)) (hk : Ev ty σ H (.int q)) (h : H d = some (.dK kvs)) (hv : valV kvs (Sum.inl q) = some v)
    (k : ∀ H2, Ex H H2 → tz D (σ.set i (some v)) (upd H2 d (.dK (dropK kvs (Sum.inl q))))) : tSeq (tAsg (tDPop1 td ty) (gName i)) tz D σ H :=
  hd H (Ex.refl H) _ fun H1 e1 => ⟨d, rfl, Or.inl ⟨_, Or.inl (e1 _ _ h)⟩, hk H1 e1 _ fun H2 e2 => ⟨kvs, Sum.inl q, v, e2 _ _ (e1 _ _ h), rfl, hv, k H2 (e1.trans e2)⟩⟩
/-- del d[k] -/
theorem s_ddel {td ty : TE} {D : Ends} {d : Addr} {q : Int} {kvs : List (Key × V)} {v : V} (hd : Ev td σ H (.ref d)) (hk : Ev ty σ H (.int q)) (h : H d = some (.dK kvs)) (hv : valV kvs (Sum.inl q) = some v)
    (k : ∀ H2, Ex H H2 → D.nx σ (upd H2 d (.dK (dropK kvs (Sum.inl q))))) : sDDel td ty D σ H :=
  hd H (Ex.refl H) _ fun H1 e1 => hk H1 e1 _ fun H2 e2 => ⟨d, kvs, Sum.inl q, rfl, e2 _ _ (e1 _ _ h), rfl, by rw [hv] <;> rfl, k H2 (e1.trans e2)⟩
/-- x = l.pop(0) -/
theorem q_pop0 {K : PySem.W.Frag} {tl ti : TE} {tz : TS} {D : Ends} {l : Addr} {x : V} {xs : List V} {i : Nat} (hl : Ev tl σ H (.ref l)) (hi : Ev ti σ H (.int 0)) (h : H l = some (.lst (x :: xs))) (k : ∀ H2, Ex H H2 → tz D (σ.set i (some x)) (upd H2 l (.lst xs))) :
    tSeq (tAsg (tBM K "list" rPopAt tl (tCons ti tNil)) (gName i)) tz D σ H :=
  hl H (Ex.refl H) _ fun H1 e1 => ⟨.inl ⟨rfl, _, sq_of (e1 _ _ h)⟩, hi H1 e1 _ fun H2 e2 => ⟨l, _, 0, 0, x, rfl, rfl, e2 _ _ (e1 _ _ h), by decide, by decide, by
    unfold seqIndex?
    simp, rfl, k H2 (e1.trans e2)⟩⟩
theorem c_call1 {sp : Sp} {E : XK} {Q : VK} {te : TE} (h : te σ H fun v H1 => sp [v] H1 Q E) : tCall sp [] E (tCons te tNil) σ H Q := h
theorem c_dget {td ty : TE} {d : Addr} {Q : VK} (hd : Ev td σ H (.ref d)) (k : ∀ H1, Ex H H1 → ty σ H1 fun y H2 => ∃ a v, V.ref d = V.ref a ∧ DGet H2 a y (some v) ∧ Q v H2) : tDGet td ty σ H Q :=
  hd H (Ex.refl H) _ k
def rSortDI : List V → Hp → VK → Prop := fun xs H Q => ∃ (a : Addr) (kvs : List (Key × V)) (ks : List Int), xs = [.ref a] ∧ Rd H a (.dK kvs) ∧ kvs.map (·.1) = ks.map Sum.inl ∧ ks.length < 64 ∧
    ∀ (ys : List Int) (p : Addr), ys.Perm ks → ys.Pairwise (· ≤ ·) → H p = none → Q (.ref p) (upd H p (.lst (ys.map V.int)))
theorem call_sortDI {X : Cx} (hc : X.calm = true) : CallR X (.builtin "sorted") rSortDI := call_sortedDI hc
/-- for x in sorted(d) -/
theorem q_forSortDI {K : PySem.W.Frag} {td : TE} {j : Nat} {tu tz : TS} {De : Ends} {d : Addr} {D : List (Nat × Addr)} (hd : Ev td σ H (.ref d)) (h : H d = some (.dK (D.map ent))) (nd : (D.map Prod.fst).Nodup) (hz : D.length < 64)
    (k : ∀ (ks : List Nat) (p : Addr) H1, ks.Pairwise (· < ·) → (∀ q, q ∈ ks ↔ q ∈ D.map Prod.fst) → H p = none → Ex H H1 → H1 p = some (.lst (ks.map fun (q : Nat) => V.int (q : Int))) → ∃ Pv : Nat → L2.St → Hp → Prop, Pv 0 σ H1 ∧ (∀ i σ' H', i ≤ ks.length → Pv i σ' H' → H' p = some (.lst (ks.map fun (q : Nat) => V.int (q : Int)))) ∧
      (∀ (i q : Nat) σ' H', ks[i]? = some q → Pv i σ' H' → tu { De with nx := Pv (i + 1), ct := Pv (i + 1), bk := tz De } (σ'.set j (some (.int (q : Int)))) H') ∧ ∀ σ' H', Pv ks.length σ' H' → tz De σ' H') :
    tSeq (tFor (iList K (tCB rSortDI (tCons td tNil))) (gName j) tu) tz De σ H :=
  hd H (Ex.refl H) _ fun H1 e1 => ⟨d, D.map ent, (D.map Prod.fst).map fun (q : Nat) => (q : Int), rfl, Or.inl (e1 _ _ h), by rw [List.map_map, List.map_map, List.map_map] <;> rfl, by rw [List.length_map, List.length_map]; exact hz, fun ys p hp hs hn => by
    obtain ⟨ks, rfl, k1, k2⟩ := keys_of hp hs nd
    obtain ⟨Pv, h0, hl, ht, he⟩ := k ks p (upd H1 p (.lst ((ks.map fun (q : Nat) => (q : Int)).map V.int))) k1 k2 (fresh_back e1 hn) (e1.trans (Ex.new hn)) (by rw [upd_same, List.map_map] <;> rfl)
    refine ⟨p, rfl, ⟨_, sq_of upd_same⟩, for_list (xs := (ks.map fun (q : Nat) => (q : Int)).map V.int) Pv h0 (fun i σ' H' hi hp' => ?_) (fun i x σ' H' hx hp' => ?_) (fun σ' H' hp' => ?_)⟩
    · rw [List.length_map, List.length_map] at hi
      have := hl i σ' H' hi hp'
      rw [List.map_map]
      exact sq_of this
    · rw [List.map_map, List.getElem?_map] at hx
      obtain ⟨q, hq, rfl⟩ := Option.map_eq_some_iff.mp hx
      exact ht i q σ' H' hq hp'
    · rw [List.length_map, List.length_map] at hp'
      exact he σ' H' hp'⟩
end
end BF

/-! Texts: a sign found in a text, texts of single signs joined, figures as signs. -/
namespace BF
open PySem L2 Evl
/-! ### one sign found -/
theorem at_one {x : Str} {c i : Nat} : PySem.StrLaws.At x ⟨#[c]⟩ x.length i ↔ x.cps.toList[i]? = some c := by
  have hx : x.length = x.cps.toList.length := by simp [Str.length]
  have h1 : (⟨#[c]⟩ : Str).length = 1 := rfl
  have h2 : (⟨#[c]⟩ : Str).cps.toList = [c] := rfl
  unfold PySem.StrLaws.At
  rw [PySem.StrLaws.subAt_eq, h1, h2]
  constructor
  · intro h
    have h3 := eq_of_beq h.2
    have hi : i < x.cps.toList.length := by omega
    rw [List.drop_eq_getElem_cons hi, List.take_succ_cons, List.take_zero] at h3
    injection h3 with h3 _
    rw [List.getElem?_eq_getElem hi, h3]
  · intro h
    obtain ⟨hi, e⟩ := List.getElem?_eq_some_iff.mp h
    refine ⟨by omega, ?_⟩
    rw [List.drop_eq_getElem_cons hi, List.take_succ_cons, List.take_zero, e]
    exact beq_self_eq_true _
theorem find_hit {x : Str} {c i : Nat} (h : x.cps.toList[i]? = some c) (hn : ∀ k, k < i → x.cps.toList[k]? ≠ some c) : Txt.find x ⟨#[c]⟩ = (i : Int) := by
  unfold Txt.find
  rcases PySem.StrLaws.occ_head x ⟨#[c]⟩ 1 (Nat.le_refl _) with ⟨_, h2⟩ | ⟨j, r, e, h1, h2⟩
  · exact absurd (at_one.mpr h) (h2 i)
  · rw [e]
    have h3 := at_one.mp h1
    have h4 : ¬ j < i := fun q => hn j q h3
    have h5 : ¬ i < j := fun q => h2 i q (at_one.mpr h)
    have h6 : j = i := by omega
    rw [h6]
theorem find_miss {x : Str} {c : Nat} (h : c ∉ x.cps.toList) : Txt.find x ⟨#[c]⟩ = -1 := by
  unfold Txt.find
  rcases PySem.StrLaws.occ_head x ⟨#[c]⟩ 1 (Nat.le_refl _) with ⟨e, _⟩ | ⟨j, r, e, h1, h2⟩
  · rw [e]
  · exact absurd (List.mem_of_getElem? (at_one.mp h1)) h
/-- the sixteen signs -/
def signs16 : Str := "0123456789abcdef"
theorem signs16_codes : signs16.cps.toList = [48, 49, 50, 51, 52, 53, 54, 55, 56, 57, 97, 98, 99, 100, 101, 102] := by decide +kernel
/-- the figure of a sign, -1 where it is none -/
def figI (c : Nat) : Int := if 48 ≤ c ∧ c ≤ 57 then (c : Int) - 48 else if 97 ≤ c ∧ c ≤ 102 then (c : Int) - 87 else -1
theorem find_fig (c : Nat) : Txt.find signs16 ⟨#[c]⟩ = figI c := by
  by_cases h : c ∈ signs16.cps.toList
  · have h1 := h
    rw [signs16_codes] at h1
    have key : ∀ i : Nat, signs16.cps.toList[i]? = some c → (∀ k, k < i → signs16.cps.toList[k]? ≠ some c) → (i : Int) = figI c → Txt.find signs16 ⟨#[c]⟩ = figI c := fun i a b e => (find_hit a b).trans e
    simp only [List.mem_cons, List.not_mem_nil, or_false] at h1
    rcases h1 with rfl | rfl | rfl | rfl | rfl | rfl | rfl | rfl | rfl | rfl | rfl | rfl | rfl | rfl | rfl | rfl
    · exact key 0 (by rw [signs16_codes] <;> rfl) (by rw [signs16_codes]; decide) (by decide)
    · exact key 1 (by rw [signs16_codes] <;> rfl) (by rw [signs16_codes]; decide) (by decide)
    · exact key 2 (by rw [signs16_codes] <;> rfl) (by rw [signs16_codes]; decide) (by decide)
    · exact key 3 (by rw [signs16_codes] <;> rfl) (by rw [signs16_codes]; decide) (by decide)
    · exact key 4 (by rw [signs16_codes] <;> rfl) (by rw [signs16_codes]; decide) (by decide)
    · exact key 5 (by rw [signs16_codes] <;> rfl) (by rw [signs16_codes]; decide) (by decide)
    · exact key 6 (by rw [signs16_codes] <;> rfl) (by rw [signs16_codes]; decide) (by decide)
    · exact key 7 (by rw [signs16_codes] <;> rfl) (by rw [signs16_codes]; decide) (by decide)
    · exact key 8 (by rw [signs16_codes] <;> rfl) (by rw [signs16_codes]; decide) (by decide)
    · exact key 9 (by rw [signs16_codes] <;> rfl) (by rw [signs16_codes]; decide) (by decide)
    · exact key 10 (by rw [signs16_codes] <;> rfl) (by rw [signs16_codes]; decide) (by decide)
    · exact key 11 (by rw [signs16_codes] <;> rfl) (by rw [signs16_codes]; decide) (by decide)
    · exact key 12 (by rw [signs16_codes] <;> rfl) (by rw [signs16_codes]; decide) (by decide)
    · exact key 13 (by rw [signs16_codes] <;> rfl) (by rw [signs16_codes]; decide) (by decide)
    · exact key 14 (by rw [signs16_codes] <;> rfl) (by rw [signs16_codes]; decide) (by decide)
    · exact key 15 (by rw [signs16_codes] <;> rfl) (by rw [signs16_codes]; decide) (by decide)
  · rw [find_miss h]
    rw [signs16_codes] at h
    simp only [List.mem_cons, List.not_mem_nil, or_false, not_or] at h
    unfold figI
    rw [if_neg (by omega), if_neg (by omega)]
/-- the sign of a figure -/
def sgn (d : Nat) : Nat := if d < 10 then 48 + d else 87 + d
theorem sgn_at {d : Nat} (h : d < 16) : signs16.cps.toList[d]? = some (sgn d) := by
  rw [signs16_codes]
  have hd : d = 0 ∨ d = 1 ∨ d = 2 ∨ d = 3 ∨ d = 4 ∨ d = 5 ∨ d = 6 ∨ d = 7 ∨ d = 8 ∨ d = 9 ∨ d = 10 ∨ d = 11 ∨ d = 12 ∨ d = 13 ∨ d = 14 ∨ d = 15 := by omega
  rcases hd with rfl | rfl | rfl | rfl | rfl | rfl | rfl | rfl | rfl | rfl | rfl | rfl | rfl | rfl | rfl | rfl <;> rfl
theorem fig_sgn {d : Nat} (h : d < 16) : figI (sgn d) = (d : Int) := by
  unfold sgn figI
  split
  · rw [if_pos (by omega)]
    omega
  · rw [if_neg (by omega), if_pos (by omega)]
    omega
theorem sgn_zero {d : Nat} (h : sgn d = 48) : d = 0 := by
  unfold sgn at h
  split at h <;> omega
/-- a text of these signs -/
abbrev txt (L : List Nat) : Str := ⟨L.toArray⟩
theorem txt_len (L : List Nat) : (txt L).length = L.length := by simp [Str.length]
theorem txt_codes (L : List Nat) : (txt L).cps.toList = L := by simp
theorem txt_inj {L M : List Nat} (h : txt L = txt M) : L = M := by
  have := congrArg (fun z : Str => z.cps.toList) h
  simpa using this
theorem txt_of (z : Str) : z = txt z.cps.toList := by
  cases z with
  | mk c => simp
/-- texts of single signs, joined -/
theorem join_ones (L : List Nat) : Txt.join (Str.ofString "") (L.map fun c => (⟨#[c]⟩ : Str)) = txt L := by
  have h0 : (Str.ofString "").cps = #[] := by decide +kernel
  rw [TL.join_eq]
  have key : ∀ M : List Nat, TL.tl (Str.join (Str.ofString "") (M.map fun c => (⟨#[c]⟩ : Str))) = M := by
    intro M
    rw [TL.tl_join]
    have h1 : TL.tl (Str.ofString "") = [] := by decide +kernel
    rw [h1, List.map_map]
    induction M with
    | nil => rfl
    | cons c r ih =>
      cases r with
      | nil => rfl
      | cons d r' =>
        show [c] ++ [] ++ TL.joinL [] (List.map (TL.tl ∘ fun c => (⟨#[c]⟩ : Str)) (d :: r')) = _
        rw [ih]
        rfl
  exact TL.ext_tl (by rw [key] <;> simp [TL.tl])
theorem ones_len (L : List Nat) : ((L.map fun c => (⟨#[c]⟩ : Str)).map (·.length)).sum = L.length := by
  induction L with
  | nil => rfl
  | cons c r ih =>
    rw [List.map_cons, List.map_cons, List.sum_cons, ih, List.length_cons]
    show 1 + r.length = r.length + 1
    omega
/-! ### what a text is worth -/
def valN (b : Nat) (L : List Nat) : Nat := L.foldl (fun m c => m * b + (figI c).toNat) 0
/-- all signs are figures of the base -/
def Figs (b : Nat) (L : List Nat) : Prop := ∀ c ∈ L, 0 ≤ figI c ∧ figI c < (b : Int)
theorem valN_snoc (b : Nat) (L : List Nat) (c : Nat) : valN b (L ++ [c]) = valN b L * b + (figI c).toNat := by
  unfold valN
  rw [List.foldl_append]
  rfl
theorem valN_lt {b : Nat} (hb : 2 ≤ b) (hb2 : b ≤ 16) : ∀ (n : Nat) (L : List Nat), L.length = n → Figs b L → valN b L < 2 ^ (4 * n + 1)
  | 0, L, h, _ => by
    have e : L = [] := List.eq_nil_of_length_eq_zero h
    subst e
    show 0 < 2
    omega
  | n + 1, L, h, hf => by
    rcases List.eq_nil_or_concat L with e | ⟨M, c, e⟩
    · subst e
      simp at h
    · rw [List.concat_eq_append] at e
      subst e
      rw [List.length_append, List.length_singleton] at h
      have ih := valN_lt hb hb2 n M (by omega) fun d hd => hf d (List.mem_append_left _ hd)
      have hc := hf c (List.mem_append_right _ List.mem_cons_self)
      rw [valN_snoc]
      have h1 : valN b M * b ≤ valN b M * 16 := Nat.mul_le_mul_left _ hb2
      have h2 : (figI c).toNat < 16 := by omega
      have h3 : (2 : Nat) ^ (4 * (n + 1) + 1) = 2 ^ (4 * n + 1) * 16 := by
        rw [show 4 * (n + 1) + 1 = (4 * n + 1) + 4 by omega, Nat.pow_add]
      omega
section
variable {K : PySem.W.Frag} {σ : L2.St} {H H' : Hp} {ta tb te tl : TE} {xs : List V}
theorem ev_find {a b : Str} (ha : Ev ta σ H (.str a)) (hb : Ev tb σ H (.str b)) : Ev (tM1 (fun x xs H Q => ∃ a b, x = .str a ∧ xs = [.str b] ∧ Q (.int (Txt.find a b)) H) ta tb) σ H (.int (Txt.find a b)) := fun H1 e Q q =>
  ha H1 e _ fun H2 e2 => ⟨⟨a, rfl⟩, hb H2 (e.trans e2) _ fun H3 e3 => ⟨a, b, rfl, rfl, q H3 (e2.trans e3)⟩⟩
theorem ev_lenS {z : Str} (ha : Ev ta σ H (.str z)) (hz : z.length ≤ 100000) : Ev (tCB (fun xs H Q => ∃ z, xs = [.str z] ∧ z.length ≤ sizeLine ∧ Q (.int z.length) H) (tCons ta tNil)) σ H (.int (z.length : Int)) := fun H1 e Q q =>
  ha H1 e _ fun H2 e2 => ⟨z, rfl, sz_of hz, q H2 e2⟩
theorem rv_addS {a b : Str} (h : a.length + b.length ≤ 100000) : RV (fun x y H Q => ∃ i j, x = .str i ∧ y = .str j ∧ i.length + j.length ≤ sizeLine ∧ Q (.str (i ++ j)) H) (.str a) (.str b) H (.str (a ++ b)) := fun H1 _ _ q =>
  ⟨a, b, rfl, rfl, sz_of h, q H1 (Ex.refl H1)⟩
theorem et_yes : EvT tYes σ H true := fun H1 _ _ q => q H1 (Ex.refl H1)
/-- [g(x) for x in a new list] -/
theorem el_map {j : Nat} {vs : List Nat} (g : V → V) (h : EvL tl σ H xs) (hz : xs.length ≤ 40000) (hw : ∀ x, wipe ((wipe σ vs).set j (some x)) vs = wipe σ vs)
    (he : ∀ x ∈ xs, ∀ H1, Ex H H1 → Ev te ((wipe σ vs).set j (some x)) H1 (g x)) : EvL (tLc (iList K tl) (gName j) tYes te vs) σ H (xs.map g) := by
  have e := el_lcNL (K := K) (te := te) (t := tYes) (j := j) (vs := vs) (fun _ => true) (fun i => g (xs.getD i .non)) h hz hw (fun _ _ _ _ _ => et_yes) (fun i x H1 e1 hx _ => by
    have h1 : xs.getD i .non = x := by rw [List.getD_eq_getElem?_getD, hx]; rfl
    rw [h1]
    exact he x (List.mem_of_getElem? hx) H1 e1)
  have h2 : given xs.length (fun _ => true) (fun i => g (xs.getD i .non)) = xs.map g := by
    unfold given
    rw [List.filter_eq_self.mpr (fun _ _ => rfl)]
    apply List.ext_getElem?
    intro i
    rw [List.getElem?_map, List.getElem?_map]
    by_cases hi : i < xs.length
    · rw [List.getElem?_range hi, List.getElem?_eq_getElem hi]
      show some (g (xs.getD i .non)) = some (g xs[i])
      rw [List.getD_eq_getElem?_getD, List.getElem?_eq_getElem hi]
      rfl
    · rw [List.getElem?_eq_none (by rw [List.length_range]; omega), List.getElem?_eq_none (by omega)]
      rfl
  rw [← h2]
  exact e
/-- for c in a text -/
theorem s_forS {j : Nat} {z : Str} {tu : TS} {D : Ends} (h : Ev te σ H (.str z)) (Pv : Nat → L2.St → Hp → Prop) (h0 : ∀ H1, Ex H H1 → Pv 0 σ H1)
    (hs : ∀ (i c : Nat) σ' H', z.cps.toList[i]? = some c → Pv i σ' H' → tu { D with nx := Pv (i + 1), ct := Pv (i + 1), bk := D.nx } (σ'.set j (some (.str ⟨#[c]⟩))) H') (hd : ∀ σ' H', Pv z.cps.toList.length σ' H' → D.nx σ' H') :
    tFor (iStr te) (gName j) tu D σ H := h H (Ex.refl H) _ fun H1 e => by
  have hz : z.cps.size = z.cps.toList.length := by simp
  refine ⟨z, rfl, fun i m σ H => m = z.cps.size - i ∧ i ≤ z.cps.size ∧ Pv i σ H, ⟨z.cps.size, rfl, Nat.zero_le _, h0 H1 e⟩, ?_⟩
  rintro i m σ' H' ⟨rfl, hi, p⟩
  by_cases hlt : i < z.cps.size
  · refine Or.inr ⟨hlt, Pv (i + 1), fun σ2 H2 p' => ⟨z.cps.size - (i + 1), by omega, rfl, hlt, p'⟩, ?_⟩
    rintro x H2 ⟨rfl, c, hc, rfl⟩
    exact hs i c σ' _ (by rw [← hc]; simp) p
  · have e : i = z.cps.size := by omega
    subst e
    exact Or.inl ⟨Nat.le_refl _, hd σ' H' (hz ▸ p)⟩
theorem q_forS {j : Nat} {z : Str} {tu tz : TS} {D : Ends} (h : Ev te σ H (.str z)) (Pv : Nat → L2.St → Hp → Prop) (h0 : ∀ H1, Ex H H1 → Pv 0 σ H1)
    (hs : ∀ (i c : Nat) σ' H', z.cps.toList[i]? = some c → Pv i σ' H' → tu { D with nx := Pv (i + 1), ct := Pv (i + 1), bk := tz D } (σ'.set j (some (.str ⟨#[c]⟩))) H') (hd : ∀ σ' H', Pv z.cps.toList.length σ' H' → tz D σ' H') :
    tSeq (tFor (iStr te) (gName j) tu) tz D σ H := s_forS (D := { D with nx := tz D }) h Pv h0 hs hd
end
end BF

/-! max(list of ints, default=d). -/
namespace BFK
open PySem PySem.Spec PyProof.Rows L2 Evl
def rMaxDef (K : PySem.W.Frag) : List V → List V → Hp → VK → Prop := fun vs zs H Q => ∃ (a : Addr) (ns : List Int) (d : Int), vs = [V.ref a] ∧ zs = [V.int d] ∧ SqL K H a (ns.map V.int) ∧ (ns = [] → Q (.int d) H) ∧ ∀ m, m ∈ ns → (∀ y ∈ ns, y ≤ m) → Q (.int m) H
section
variable {X : Cx}
theorem cr_maxDef (hc : X.calm = true) : CallRK X (.builtin "max") [Str.ofString "default"] (rMaxDef X.K) := by
  intro pins s σ H vs zs us ws Q I r rz h
  obtain ⟨a, ns, d, rfl, rfl, hs, q0, q⟩ := h
  obtain rfl := Vals.ref1 r
  obtain ⟨w1, rfl, t1, rfl⟩ := vals1 rz
  obtain ⟨its, rv, hl, hz⟩ := I.list hs
  have hi := rv.ints
  have hlen : its.length = ns.length := hi.length
  have hh : X.A.handled = none := I.ok.hd hc
  have hval : ∀ (i : Nat) (v : Value), its.toArray[i]? = some v → ∃ t, v = Value.int (ns.getD i 0) t := fun i v hv => by
    have hv : its[i]? = some v := by simpa using hv
    have hil : i < ns.length := by
      have := (List.getElem?_eq_some_iff.mp hv).1
      omega
    obtain ⟨t, ht⟩ := hi.get i (ns.getD i 0) (by rw [List.getD_eq_getElem?_getD, List.getElem?_eq_getElem hil] <;> rfl)
    rw [ht] at hv
    cases hv
    exact ⟨t, rfl⟩
  refine PySem.call_max_walkD (x := .ref a) (d := .int d t1) (PySem.W.iter_listW (A := X.A.in1) hh hl.isList fun s₂ e W st hfp hw hk => ?_)
  refine ⟨_, _, _, _, _, _, _, s.heap, (fun i j => decide (ns.getD i 0 > ns.getD j 0)), rfl, W, st, hfp, hw, hk, fun hz s' m => ?_, fun hp => ⟨fun i j vi vj s' Q' E' _ h1 h2 hq => CmpOf.ints_gt (prog := X.prog) (w := X.w) (A := X.A.in1) (P := fun i v => ∃ t, v = Value.int (ns.getD i 0) t) (fun i => ns.getD i 0) (fun _ _ h => h) i j vi vj s' Q' E' (hval _ _ h1) (hval _ _ h2) hq, fun v s' hP m => ?_⟩⟩
  · obtain ⟨h', tk, rfl, hk'⟩ := PySem.W.moved_old e rfl m
    have : ns = [] := by
      rw [List.size_toArray] at hz
      exact List.length_eq_zero_iff.mp (by omega)
    exact ⟨.int d, H, I.kept hk', ⟨t1, rfl⟩, q0 this⟩
  · obtain ⟨h', tk, rfl, hk'⟩ := PySem.W.moved_old e rfl m
    rw [List.size_toArray] at hp hP
    obtain ⟨t, rfl⟩ := hval _ _ hP
    obtain ⟨b1, b2⟩ := argBest_gt (fun i => ns.getD i 0) (its.length - 1)
    refine ⟨.int _, H, I.kept hk', ⟨t, rfl⟩, q _ (getD_mem (by omega)) fun y hy => ?_⟩
    obtain ⟨j, hj, rfl⟩ := mem_getD hy
    exact b2 j (by omega)
end
end BFK

/-! What the laws over the store share: data that is compared, readings with a call that changes the heap, slices, the first least. -/
namespace BF
open PySem L2 Evl
/-! ### data of ints and texts -/
def flatOk : V → Bool
  | .int _ => true
  | .str x => PyData.strOk x
  | _ => false
def pD : V → PyData
  | .int i => .int i
  | .str x => .str x
  | .bl b => .bool b
  | _ => .none
abbrev tD (xs : List V) : PyData := .tuple (xs.map pD)
section
variable {K : PySem.W.Frag} {H : Hp}
theorem dp_flat : ∀ {xs : List V}, xs.all flatOk = true → DpAll K H xs (xs.map pD)
  | [], _ => .nil
  | .int i :: r, h => .cons (.int i) (dp_flat (by simpa [flatOk] using h))
  | .str x :: r, h => .cons (.str x) (dp_flat (by
      rw [List.all_cons, Bool.and_eq_true] at h
      exact h.2))
  | .non :: r, h => by simp [flatOk] at h
  | .bl _ :: r, h => by simp [flatOk] at h
  | .byt _ :: r, h => by simp [flatOk] at h
  | .flt _ :: r, h => by simp [flatOk] at h
  | .ref _ :: r, h => by simp [flatOk] at h
  | .ty _ :: r, h => by simp [flatOk] at h
theorem dp_tup {p : Addr} {xs : List V} (h : H p = some (.tup xs)) (hf : xs.all flatOk = true) : Dp K H (.ref p) (tD xs) := .tup (st_of h) (dp_flat hf)
theorem dp_tups : ∀ {vs : List V} {xss : List (List V)}, Tups H vs xss → (∀ xs ∈ xss, xs.all flatOk = true) → DpAll K H vs (xss.map tD)
  | [], [], _, _ => .nil
  | _ :: _, xs :: rs, ⟨⟨p, e, hp⟩, t⟩, h => by
    subst e
    exact .cons (dp_tup hp (h xs List.mem_cons_self)) (dp_tups t fun ys hy => h ys (List.mem_cons_of_mem _ hy))
  | [], _ :: _, h, _ => h.elim
  | _ :: _, [], h, _ => h.elim
theorem lay_one {x : V} (h : flatOk x = true) : PyData.canLay0 (pD x) = true ∧ PyData.depth (pD x) = 0 ∧ PyData.eqv (pD x) (pD x) = true := by
  cases x with
  | int i => exact ⟨rfl, rfl, by simp [pD, PyData.eqv]⟩
  | str x =>
    exact ⟨by simp only [pD, PyData.canLay0]; exact h, rfl, by simp [pD, PyData.eqv]⟩
  | non => cases h
  | bl _ => cases h
  | byt _ => cases h
  | flt _ => cases h
  | ref _ => cases h
  | ty _ => cases h
theorem lay_all : ∀ {xs : List V}, xs.all flatOk = true → PyData.canLayAll0 (xs.map pD) = true ∧ PyData.depthAll (xs.map pD) = 0 ∧ PyData.eqvAll (xs.map pD) (xs.map pD) = true
  | [], _ => ⟨rfl, rfl, rfl⟩
  | x :: r, h => by
    rw [List.all_cons, Bool.and_eq_true] at h
    obtain ⟨a1, a2, a3⟩ := lay_one h.1
    obtain ⟨b1, b2, b3⟩ := lay_all h.2
    rw [List.map_cons]
    refine ⟨?_, ?_, ?_⟩
    · simp only [PyData.canLayAll0, a1, b1, Bool.and_self]
    · simp only [PyData.depthAll, a2, b2, Nat.max_self]
    · simp only [PyData.eqvAll, a3, b3, Bool.and_self]
theorem shaped_tup {xs : List V} (h : xs.all flatOk = true) : SeqAt.shaped (tD xs) = true ∧ PyData.eqv (tD xs) (tD xs) = true := by
  obtain ⟨b1, b2, b3⟩ := lay_all h
  refine ⟨?_, by simp only [PyData.eqv, b3]⟩
  unfold SeqAt.shaped
  simp only [PyData.canLay0, b1, PyData.depth, b2]
  decide
theorem lay_tups : ∀ {xss : List (List V)}, (∀ xs ∈ xss, xs.all flatOk = true) → PyData.canLayAll0 (xss.map tD) = true ∧ PyData.depthAll (xss.map tD) ≤ 1 ∧ PyData.eqvAll (xss.map tD) (xss.map tD) = true
  | [], _ => ⟨rfl, Nat.zero_le _, rfl⟩
  | x :: r, h => by
    obtain ⟨b1, b2, b3⟩ := lay_all (h x List.mem_cons_self)
    obtain ⟨c1, c2, c3⟩ := lay_tups fun ys hy => h ys (List.mem_cons_of_mem _ hy)
    rw [List.map_cons]
    refine ⟨?_, ?_, ?_⟩
    · simp only [PyData.canLayAll0, PyData.canLay0, b1, c1, Bool.and_self]
    · simp only [PyData.depthAll, PyData.depth, b2]
      omega
    · simp only [PyData.eqvAll, PyData.eqv, b3, c3, Bool.and_self]
theorem shaped_tups {xss : List (List V)} (h : ∀ xs ∈ xss, xs.all flatOk = true) : SeqAt.shaped (.list (xss.map tD)) = true ∧ PyData.eqv (.list (xss.map tD)) (.list (xss.map tD)) = true := by
  obtain ⟨b1, b2, b3⟩ := lay_tups h
  refine ⟨?_, by simp only [PyData.eqv, b3]⟩
  unfold SeqAt.shaped
  simp only [PyData.canLay0, b1, PyData.depth, Bool.true_and]
  exact decide_eq_true (by omega)
end
theorem ok_txt {L : List Nat} (h : ∀ c ∈ L, c < 0x110000) : PyData.strOk (txt L) = true := by
  unfold PyData.strOk
  rw [Array.all_eq_true']
  intro c hc
  have : c ∈ L := by simpa using hc
  exact decide_eq_true (h c this)
theorem ok_of (s : String) : PyData.strOk (Str.ofString s) = true := by
  unfold PyData.strOk
  rw [Str.ofString_eq_toList, Array.all_eq_true']
  intro c hc
  obtain ⟨x, _, rfl⟩ : ∃ x : Char, x ∈ s.toList ∧ x.toNat = c := by simpa using hc
  refine decide_eq_true ?_
  have h := x.valid
  have h2 : x.toNat < 0xd800 ∨ (0xdfff < x.toNat ∧ x.toNat < 0x110000) := h
  omega
/-! ### readings -/
section
variable {K : PySem.W.Frag} {σ : L2.St} {H : Hp} {te ta tb : TE} {tu tz : TS} {D : Ends} {r : R2} {x y : V}
theorem rvl_neD {d e : PyData} (hx : ∀ H1, Ex H H1 → Dp K H1 x d) (hy : ∀ H1, Ex H H1 → Dp K H1 y e) (sd : SeqAt.shaped d = true) (se : SeqAt.shaped e = true) : RV (rNeD K) x y H (.bl (!PyData.eqv d e)) := fun H1 e1 _ q =>
  ⟨d, e, hx H1 e1, hy H1 e1, sd, se, q H1 (Ex.refl H1)⟩
theorem rvl_eqD {d e : PyData} (hx : ∀ H1, Ex H H1 → Dp K H1 x d) (hy : ∀ H1, Ex H H1 → Dp K H1 y e) (sd : SeqAt.shaped d = true) (se : SeqAt.shaped e = true) : RV (rEqD K) x y H (.bl (PyData.eqv d e)) := fun H1 e1 _ q =>
  ⟨d, e, hx H1 e1, hy H1 e1, sd, se, q H1 (Ex.refl H1)⟩
/-- xs != [], xs == [] for a list of tuples -/
theorem et_neNil {p : Addr} {ps : List V} {xss : List (List V)} (ha : Ev ta σ H (.ref p)) (h : H p = some (.lst ps)) (ht : Tups H ps xss) (hf : ∀ xs ∈ xss, xs.all flatOk = true) : EvT (tTest (tOp (rNeD K) ta (tLst tNil))) σ H (decide (xss ≠ [])) :=
  et_is (et_test (ev_opL ha (el_lst ea_nil (Nat.zero_le _)) fun r H7 hr e7 => rvl_neD (fun H8 e8 => .lst (sq_of (e8 _ _ (e7 _ _ h))) (dp_tups (ht.mono (e7.trans e8)) hf)) (fun H8 e8 => .lst (sq_of (e8 _ _ hr)) .nil) (shaped_tups hf).1 (by decide +kernel))) (by
    cases xss with
    | nil => simp [PyData.eqv, PyData.eqvAll]
    | cons _ _ => simp [PyData.eqv, PyData.eqvAll])
theorem et_eqNil {p : Addr} {ps : List V} {xss : List (List V)} (ha : Ev ta σ H (.ref p)) (h : H p = some (.lst ps)) (ht : Tups H ps xss) (hf : ∀ xs ∈ xss, xs.all flatOk = true) : EvT (tTest (tOp (rEqD K) ta (tLst tNil))) σ H (decide (xss = [])) :=
  et_is (et_test (ev_opL ha (el_lst ea_nil (Nat.zero_le _)) fun r H7 hr e7 => rvl_eqD (fun H8 e8 => .lst (sq_of (e8 _ _ (e7 _ _ h))) (dp_tups (ht.mono (e7.trans e8)) hf)) (fun H8 e8 => .lst (sq_of (e8 _ _ hr)) .nil) (shaped_tups hf).1 (by decide +kernel))) (by
    cases xss with
    | nil => simp [PyData.eqv, PyData.eqvAll]
    | cons _ _ => simp [PyData.eqv, PyData.eqvAll])
theorem et_neSame {p q : Addr} {ps qs : List V} {xss : List (List V)} (ha : Ev ta σ H (.ref p)) (hb : Ev tb σ H (.ref q)) (h : H p = some (.lst ps)) (h2 : H q = some (.lst qs)) (ht : Tups H ps xss) (ht2 : Tups H qs xss) (hf : ∀ xs ∈ xss, xs.all flatOk = true) : EvT (tTest (tOp (rNeD K) ta tb)) σ H false :=
  et_is (et_test (ev_op ha hb (rvl_neD (fun H8 e8 => .lst (sq_of (e8 _ _ h)) (dp_tups (ht.mono e8) hf)) (fun H8 e8 => .lst (sq_of (e8 _ _ h2)) (dp_tups (ht2.mono e8) hf)) (shaped_tups hf).1 (shaped_tups hf).1))) (by rw [(shaped_tups hf).2] <;> rfl)
theorem et_neTup {p q : Addr} {xs : List V} (ha : Ev ta σ H (.ref p)) (hb : Ev tb σ H (.ref q)) (h : H p = some (.tup xs)) (h2 : H q = some (.tup xs)) (hf : xs.all flatOk = true) : EvT (tTest (tOp (rNeD K) ta tb)) σ H false :=
  et_is (et_test (ev_op ha hb (rvl_neD (fun H8 e8 => dp_tup (e8 _ _ h) hf) (fun H8 e8 => dp_tup (e8 _ _ h2) hf) (shaped_tup hf).1 (shaped_tup hf).1))) (by rw [(shaped_tup hf).2] <;> rfl)
/-- isinstance of a tuple, a list, an int, a text -/
theorem et_isTup {p : Addr} {xs : List V} (ha : Ev ta σ H (.ref p)) (h : H p = some (.tup xs)) : EvT (tB (tCB (rIsi K) (tCons ta (tCons (tC (.ty "tuple")) tNil)))) σ H true :=
  et_B (ev_isi (x := .ref p) (c := .ty "tuple") (b := true) (ea_cons ha (ea_cons ev_c ea_nil)) (.ty "tuple") (fun _ e => .base (.tup (e _ _ h))) (kit_ty (b := "tuple") (by decide +kernel)))
theorem et_isLst {p : Addr} {xs : List V} (ha : Ev ta σ H (.ref p)) (h : H p = some (.lst xs)) : EvT (tB (tCB (rIsi K) (tCons ta (tCons (tC (.ty "list")) tNil)))) σ H true :=
  et_B (ev_isi (x := .ref p) (c := .ty "list") (b := true) (ea_cons ha (ea_cons ev_c ea_nil)) (.ty "list") (fun _ e => .base (.lst (e _ _ h))) (kit_ty (b := "list") (by decide +kernel)))
theorem et_isStr {z : Str} (ha : Ev ta σ H (.str z)) : EvT (tB (tCB (rIsi K) (tCons ta (tCons (tC (.ty "str")) tNil)))) σ H true :=
  et_B (ev_isi (x := .str z) (c := .ty "str") (b := true) (ea_cons ha (ea_cons ev_c ea_nil)) (.ty "str") (fun _ _ => .base (.str _)) (kit_ty (b := "str") (by decide +kernel)))
theorem ev_lenT {p : Addr} {xs : List V} (ha : Ev ta σ H (.ref p)) (h : H p = some (.tup xs)) : Ev (tCB (rLenS K) (tCons ta tNil)) σ H (.int (xs.length : Int)) := fun H1 e Q q =>
  ha H1 e _ fun H2 e2 => ⟨p, xs, rfl, Or.inr (ex_t (e.trans e2) (st_of h)), q H2 e2⟩
/-- two new lists put together -/
theorem el_cat {xs ys : List V} (ha : EvL ta σ H xs) (hb : EvL tb σ H ys) (hz : xs.length + ys.length ≤ 100000) : EvL (tOp rCat ta tb) σ H (xs ++ ys) := fun H1 e Q q =>
  ha H1 e _ fun p H2 hp e2 h2 => hb H2 (e.trans e2) _ fun p' H3 hp' e3 h3 => ⟨p, p', xs, ys, rfl, rfl, e3 _ _ h2, h3, sz_of hz, fun r hr => q r _ (fresh_back (e2.trans e3) hr) ((e2.trans e3).trans (Ex.new hr)) upd_same⟩
/-- a test that changes the heap on its way -/
theorem q_ifOp (h : ta σ H fun x H1 => tb σ H1 fun y H2 => r x y H2 fun v H3 => ∃ b, v = .bl b ∧ if b = true then tu { D with nx := tz D } σ H3 else tz D σ H3) : tSeq (tIfS (tTest (tOp r ta tb)) tu tNext) tz D σ H := h
theorem q_ifNotB (h : te σ H fun v H1 => ∃ b, v = .bl b ∧ if (!b) = true then tu { D with nx := tz D } σ H1 else tz D σ H1) : tSeq (tIfS (tNot (tB te)) tu tNext) tz D σ H := h
theorem s_retAnd (ha : Ev ta σ H (.bl true)) (h : ∀ H1, Ex H H1 → tb σ H1 D.rt) : tRet (tAndV ta tb) D σ H := ha H (Ex.refl H) _ fun H1 e1 => ⟨true, rfl, by
  rw [if_pos rfl]
  exact h H1 e1⟩
theorem e_op {Q : VK} (h : ta σ H fun x H1 => tb σ H1 fun y H2 => r x y H2 Q) : tOp r ta tb σ H Q := h
end
/-! ### slices -/
theorem cut_take {xs : List V} {i : Nat} (h : i ≤ xs.length) : cutV xs none (some (i : Int)) = xs.take i := by
  unfold cutV
  rw [HT.sIx_nat, HT.sIx_none, List.drop_zero, Nat.sub_zero, Nat.min_eq_left h]
theorem cut_drop {xs : List V} {i : Nat} (h : i ≤ xs.length) : cutV xs (some (i : Int)) none = xs.drop i := by
  unfold cutV
  rw [HT.sIx_nat, HT.sIx_none, Nat.min_eq_left h, List.take_of_length_le (by rw [List.length_drop]; omega)]
def cutL (ns : List Int) (lo hi : Option Int) : List Int := (ns.drop (HT.sIx ns.length 0 lo)).take (HT.sIx ns.length ns.length hi - HT.sIx ns.length 0 lo)
theorem cut_ints (ns : List Int) (lo hi : Option Int) : cutV (ns.map V.int) lo hi = (cutL ns lo hi).map V.int := by
  unfold cutV cutL
  rw [List.length_map, List.map_take, List.map_drop]
theorem cutL_len (ns : List Int) (lo hi : Option Int) : (cutL ns lo hi).length ≤ ns.length := by
  unfold cutL
  rw [List.length_take, List.length_drop]
  omega
/-! ### a number and a name as a tuple -/
def nV (x : Nat × Str) : List V := [.int (x.1 : Int), .str x.2]
theorem nV_ok {l : List (Nat × Str)} (h : ∀ x ∈ l, PyData.strOk x.2 = true) : ∀ xs ∈ l.map nV, xs.all flatOk = true := fun xs hx => by
  obtain ⟨x, hm, rfl⟩ := List.mem_map.mp hx
  simp [nV, flatOk, h x hm]
theorem IsFirst.uniq {l : List (Nat × Str)} {i j : Nat} {x y : Nat × Str} (h : IsFirst l i x) (k : IsFirst l j y) : i = j ∧ x = y := by
  have e : i = j := by
    have h1 := h.le j y k.at_
    have h2 := k.le i x h.at_
    by_cases e : i < j
    · have := h2.2 e
      omega
    · by_cases e2 : j < i
      · have := h1.2 e2
        omega
      · omega
  subst e
  refine ⟨rfl, ?_⟩
  have h1 := h.at_
  rw [k.at_] at h1
  exact (Option.some.inj h1).symm
theorem isFirst_ex : ∀ {l : List (Nat × Str)}, l ≠ [] → ∃ i x, IsFirst l i x
  | [], h => absurd rfl h
  | [t], _ => ⟨0, t, rfl, fun j u hj => by
    cases j with
    | zero =>
      have : t = u := by simpa using hj
      subst this
      exact ⟨Nat.le_refl _, fun h => absurd h (Nat.not_lt_zero _)⟩
    | succ j => simp at hj⟩
  | t :: v :: r, _ => by
    obtain ⟨i, x, hx⟩ := isFirst_ex (l := v :: r) (List.cons_ne_nil _ _)
    by_cases hc : t.1 ≤ x.1
    · refine ⟨0, t, rfl, fun j u hj => ?_⟩
      cases j with
      | zero =>
        have : t = u := by simpa using hj
        subst this
        exact ⟨Nat.le_refl _, fun h => absurd h (Nat.not_lt_zero _)⟩
      | succ j =>
        have h1 := (hx.le j u (by simpa using hj)).1
        exact ⟨by omega, fun h => absurd h (Nat.not_lt_zero _)⟩
    · refine ⟨i + 1, x, by simpa using hx.at_, fun j u hj => ?_⟩
      cases j with
      | zero =>
        have : t = u := by simpa using hj
        subst this
        exact ⟨by omega, fun _ => by omega⟩
      | succ j =>
        have h1 := hx.le j u (by simpa using hj)
        exact ⟨h1.1, fun h => h1.2 (by omega)⟩
/-! ### the store and a plain list beside it -/
structure LawSt (ST : Addr) (b : Nat) (st : Addr) (s : Sto Str) (F : Addr → Prop) (l : List (Nat × Str)) (pl : Addr) (H : Hp) : Prop where
  S : SAt ST b st s l.length F H
  fu : Full b s l
  ok : ∀ x ∈ l, PyData.strOk x.2 = true
  nf : ¬ F pl
  tl : ∃ ps, H pl = some (.lst ps) ∧ Tups H ps (l.map nV)
section
variable {K : PySem.W.Frag} {ST : Addr} {b : Nat} {st : Addr} {s : Sto Str} {F : Addr → Prop} {l : List (Nat × Str)} {pl : Addr} {H H' : Hp} {σ : L2.St} {ta tb tl : TE}
theorem LawSt.mono (L : LawSt ST b st s F l pl H) (e : Ex H H') : LawSt ST b st s F l pl H' := by
  obtain ⟨ps, h1, h2⟩ := L.tl
  exact ⟨L.S.mono e, L.fu, L.ok, L.nf, ps, e _ _ h1, h2.mono e⟩
theorem lawSt_new (hp : ¬ F pl) (S : SAt ST b st Sto.new 0 F H) (h : H pl = some (.lst [])) : LawSt ST b st Sto.new F [] pl H :=
  ⟨S, full_new b, (fun _ h => nomatch h), hp, [], h, True.intro⟩
/-- a thing has been put: the list grows -/
theorem LawSt.push (L : LawSt ST b st s F l pl H) {n : Nat} {nm : Str} {F' : Addr → Prop} {H1 H2 : Hp} (h : s.last ≤ n) (hnm : PyData.strOk nm = true) (S : SAt ST b st (s.put b n nm) (l.length + 1) F' H1) (M : Mv F F' H H1) (e : Ex H1 H2) {pt : Addr} (hpt : H2 pt = some (.tup (nV (n, nm)))) :
    ∃ ps, H2 pl = some (.lst ps) ∧ ps.length = l.length ∧ LawSt ST b st (s.put b n nm) F' (l ++ [(n, nm)]) pl (upd H2 pl (.lst (ps ++ [.ref pt]))) := by
  obtain ⟨ps, h1, h2⟩ := L.tl
  obtain ⟨h3, nf⟩ := M _ _ h1 L.nf
  have h4 := e _ _ h3
  refine ⟨ps, h4, by rw [tups_len h2, List.length_map], ?_, full_put L.fu nm h, fun x hx => ?_, nf, _, upd_same, ?_⟩
  · rw [List.length_append, List.length_singleton]
    exact (S.mono e).otherL nf h4
  · rcases List.mem_append.mp hx with hx | hx
    · exact L.ok x hx
    · rw [List.mem_singleton.mp hx]
      exact hnm
  · rw [List.map_append]
    have k : ∀ a xs, H2 a = some (.tup xs) → (upd H2 pl (.lst (ps ++ [.ref pt]))) a = some (.tup xs) := fun a xs z => by
      rw [upd_ne (ne_of z h4 (by intro q; cases q))]
      exact z
    exact tups_snoc (tups_keep k ((M.tups L.S h2).mono e)) (k _ _ hpt)
/-- one has gone: the list without it, a new list -/
theorem LawSt.gone (L : LawSt ST b st s F l pl H) {i : Nat} {x : Nat × Str} {s' : Sto Str} {t : Thing Str} {F' : Addr → Prop} {H1 H2 : Hp} (f : IsFirst l i x) (g : Goes b s s' t) (S : SAt ST b st s' (l.length - 1) F' H1) (M : Mv F F' H H1) (e : Ex H1 H2) {p2 : Addr} {ps : List V} (h1 : H pl = some (.lst ps)) (h2 : Tups H ps (l.map nV))
    (hp : H1 p2 = none) (h3 : H2 p2 = some (.lst (ps.take i ++ ps.drop (i + 1)))) : x = nn t ∧ s'.last = x.1 ∧ LawSt ST b st s' F' (l.take i ++ l.drop (i + 1)) p2 H2 := by
  obtain ⟨g1, g2, g3⟩ := full_goes L.S.hb L.fu g f
  refine ⟨g1, by rw [g2, g1] <;> rfl, ?_, g3, fun y hy => ?_, S.free hp, _, h3, ?_⟩
  · have h4 := drop_len f.at_
    have e4 : l.length - 1 = (l.take i ++ l.drop (i + 1)).length := by omega
    rw [← e4]
    exact S.mono e
  · rcases List.mem_append.mp hy with hy | hy
    · exact L.ok y (List.mem_of_mem_take hy)
    · exact L.ok y (List.mem_of_mem_drop hy)
  · rw [List.map_append, List.map_take, List.map_drop]
    have h5 := (M.tups L.S h2).mono e
    exact tups_app (tups_take i h5) (tups_drop (i + 1) h5)
/-- xs[:i] + xs[i + 1:] -/
theorem el_without {tl2 ti ti2 : TE} {a : Addr} {ps : List V} {i : Nat} (h : Ev tl σ H (.ref a)) (h2 : Ev tl2 σ H (.ref a)) (hi : Ev ti σ H (.int (i : Int))) (hi2 : Ev ti2 σ H (.int ((i : Int) + 1))) (ha : H a = some (.lst ps)) (hle : i < ps.length) (hz : ps.length ≤ 50000) :
    EvL (tOp rCat (tSl (rSlL K) tl tNoPart (tPart ti)) (tSl (rSlL K) tl2 (tPart ti2) tNoPart)) σ H (ps.take i ++ ps.drop (i + 1)) := by
  have e1 := cut_take (xs := ps) (i := i) (by omega)
  have e2 := cut_drop (xs := ps) (i := i + 1) (by omega)
  rw [← e1, ← e2]
  refine el_cat (el_sl h eo_none (eo_some hi) (sq_of ha)) (el_sl h2 (eo_some (i := (i : Int) + 1) hi2) eo_none (sq_of ha)) ?_
  have := cutV_length ps none (some (i : Int))
  have := cutV_length ps (some ((i + 1 : Nat) : Int)) none
  omega
theorem el_slI {te : TE} {tlo thi : TO} {a : Addr} {ns : List Int} {lo hi : Option Int} (h : Ev te σ H (.ref a)) (h1 : EvO tlo σ H lo) (h2 : EvO thi σ H hi) (hs : SqL K H a (ns.map V.int)) : EvL (tSl (rSlL K) te tlo thi) σ H ((cutL ns lo hi).map V.int) := by
  rw [← cut_ints]
  exact el_sl h h1 h2 hs
end
/-- xs.append((a, f(..))), f giving some value of a kind -/
theorem s_appTN {K : PySem.W.Frag} {σ : L2.St} {H : Hp} {ta t1 : TE} {targs : TA} {D : Ends} {Pre : List V → Hp → Prop} {Post : V → Prop} {E : XK} {l : Addr} {xs vs : List V} {v1 : V} (hl : H l = some (.lst xs)) (ha : Ev ta σ H (.ref l)) (h1 : Ev t1 σ H v1) (h2 : EvA targs σ H vs) (hP : ∀ H1, Ex H H1 → Pre vs H1) (hz : xs.length < 100000)
    (k : ∀ z p H1, Post z → H p = none → Ex H H1 → H1 p = some (.tup [v1, z]) → D.nx σ (upd H1 l (.lst (xs ++ [.ref p])))) :
    tDrop (tBM K "list" rAppend ta (tCons (tTup (tCons t1 (tCons (tCall (spN Pre Post) [] E targs) tNil))) tNil)) D σ H := ha H (Ex.refl H) _ fun H1 e1 =>
  ⟨Or.inl ⟨rfl, xs, sq_of (e1 l _ hl)⟩, h1 H1 e1 _ fun H2 e2 => h2 H2 (e1.trans e2) _ fun H3 e3 => by
    show spN Pre Post (vs ++ []) H3 _ E
    rw [List.append_nil]
    have e13 := (e1.trans e2).trans e3
    refine ⟨hP H3 e13, fun z hz' H4 e4 => ⟨by show 2 ≤ sizeLine; exact sz_of (by decide), fun p hp => ?_⟩⟩
    have e14 := e13.trans e4
    exact ⟨l, xs, .ref p, rfl, rfl, (e14.trans (Ex.new hp)) l _ hl, sz_lt hz, k z p _ hz' (fresh_back e14 hp) (e14.trans (Ex.new hp)) upd_same⟩⟩
theorem mod_nat (c : Int) {j : Int} (h0 : 0 < j) (h : j.natAbs ≤ 2 ^ 900) : ∃ n : Nat, c % j = (n : Int) ∧ n < 2 ^ 900 := by
  have h1 := Int.emod_nonneg c (show j ≠ 0 by omega)
  have h2 := Int.emod_lt_of_pos c h0
  obtain ⟨n, hn⟩ := Int.eq_ofNat_of_zero_le h1
  exact ⟨n, hn, by omega⟩
def Post_num : V → Prop := fun z => ∃ n : Nat, z = .int (n : Int) ∧ n < 2 ^ 900
/-! ### a list put in order by inserting -/
theorem ins_ok {β : Type} (f : β → Nat) {D : List β} {i : Nat} {x : β} (hs : D.Pairwise fun a b => f a ≤ f b) (h1 : ∀ (j : Nat) (y : β), i ≤ j → D[j]? = some y → f x < f y) (h2 : i = 0 ∨ ∃ y, D[i - 1]? = some y ∧ f y ≤ f x) :
    ((D.take i ++ x :: D.drop i).Pairwise fun a b => f a ≤ f b) ∧ ∀ n, (D.take i ++ x :: D.drop i).filter (fun y => decide (f y = n)) = (D ++ [x]).filter fun y => decide (f y = n) := by
  have hd : ∀ y ∈ D.drop i, f x < f y := fun y hy => by
    obtain ⟨j, hj⟩ := List.mem_iff_getElem?.mp hy
    rw [List.getElem?_drop] at hj
    exact h1 (i + j) y (by omega) hj
  have ht : ∀ y ∈ D.take i, f y ≤ f x := fun y hy => by
    obtain ⟨j, hj⟩ := List.mem_iff_getElem?.mp hy
    have hji : j < i := by
      have := (List.getElem?_eq_some_iff.mp hj).1
      rw [List.length_take] at this
      omega
    rw [List.getElem?_take_of_lt hji] at hj
    rcases h2 with h2 | ⟨z, hz, hle⟩
    · omega
    · by_cases e : j = i - 1
      · rw [e, hz] at hj
        cases hj
        exact hle
      · obtain ⟨a1, a2⟩ := List.getElem?_eq_some_iff.mp hj
        obtain ⟨b1, b2⟩ := List.getElem?_eq_some_iff.mp hz
        have := List.pairwise_iff_getElem.mp hs j (i - 1) a1 b1 (by omega)
        rw [a2, b2] at this
        omega
  have hs2 : (D.take i ++ D.drop i).Pairwise fun a b => f a ≤ f b := by rw [List.take_append_drop]; exact hs
  rw [List.pairwise_append] at hs2
  obtain ⟨p1, p2, p3⟩ := hs2
  refine ⟨List.pairwise_append.mpr ⟨p1, List.pairwise_cons.mpr ⟨fun y hy => Nat.le_of_lt (hd y hy), p2⟩, fun a ha b hb => ?_⟩, fun n => ?_⟩
  · rcases List.mem_cons.mp hb with e | hb
    · rw [e]
      exact ht a ha
    · exact p3 a ha b hb
  · conv => rhs; rw [← List.take_append_drop i D]
    simp only [List.filter_append]
    by_cases hn : f x = n
    · have e1 : (D.drop i).filter (fun y => decide (f y = n)) = [] := by
        rw [List.filter_eq_nil_iff]
        intro y hy z
        have := of_decide_eq_true z
        have := hd y hy
        omega
      rw [List.filter_cons_of_pos (by simpa using hn), List.filter_cons_of_pos (by simpa using hn), e1, List.filter_nil, List.append_nil]
    · rw [List.filter_cons_of_neg (by simpa using hn), List.filter_cons_of_neg (by simpa using hn), List.filter_nil, List.append_nil]
/-- xs[k][0] -/
theorem ev_num {K : PySem.W.Frag} {σ : L2.St} {H : Hp} {tl ti : TE} {a : Addr} {ps : List V} {l : List (Nat × Str)} {k : Nat} {y : Nat × Str} (hl : Ev tl σ H (.ref a)) (hi : Ev ti σ H (.int (k : Int))) (ha : H a = some (.lst ps)) (ht : Tups H ps (l.map nV)) (hk : l[k]? = some y) :
    Ev (tOp (rIxT K) (tOp (rIxL K) tl ti) (tC (.int 0))) σ H (.int (y.1 : Int)) := by
  obtain ⟨p, h1, h2⟩ := tups_get (i := k) (xs := nV y) ht (by rw [List.getElem?_map, hk] <;> rfl)
  exact ev_op (ev_op hl hi (rv_ixL (sq_of ha) (atI_nat h1))) ev_c (rv_ixT (st_of h2) (atI_nat (j := 0) rfl))
/-! ### the greatest of some numbers, 0 for none -/
def maxN : List Nat → Nat
  | [] => 0
  | n :: r => max n (maxN r)
theorem le_maxN : ∀ {l : List Nat} {n : Nat}, n ∈ l → n ≤ maxN l
  | m :: r, n, h => by
    show n ≤ max m (maxN r)
    rcases List.mem_cons.mp h with z | z
    · omega
    · have := le_maxN z
      omega
theorem maxN_mem : ∀ {l : List Nat}, l ≠ [] → maxN l ∈ l
  | [], h => absurd rfl h
  | [n], _ => by
    show max n 0 ∈ [n]
    rw [Nat.max_eq_left (Nat.zero_le _)]
    exact List.mem_singleton_self n
  | n :: m :: r, _ => by
    have h := maxN_mem (l := m :: r) (List.cons_ne_nil _ _)
    show max n (maxN (m :: r)) ∈ _
    by_cases e : n ≤ maxN (m :: r)
    · rw [Nat.max_eq_right e]
      exact List.mem_cons_of_mem _ h
    · rw [Nat.max_eq_left (by omega)]
      exact List.mem_cons_self
theorem maxN_le {l : List Nat} {b : Nat} (h : ∀ n ∈ l, n ≤ b) : maxN l ≤ b := by
  by_cases e : l = []
  · subst e
    exact Nat.zero_le _
  · exact h _ (maxN_mem e)
theorem ev_maxDef {K : PySem.W.Frag} {σ : L2.St} {H : Hp} {tl : TE} {l : List Nat} (hl : EvL tl σ H (l.map fun (n : Nat) => V.int (n : Int))) : Ev (tCKw (BFK.rMaxDef K) (tCons tl tNil) (tCons (tC (.int 0)) tNil)) σ H (.int (maxN l : Int)) := fun H1 e Q q =>
  hl H1 e _ fun p H2 _ e2 hp => ⟨p, l.map fun (n : Nat) => (n : Int), 0, rfl, rfl, by rw [List.map_map]; exact sq_of hp, fun h0 => by
    have : l = [] := List.map_eq_nil_iff.mp h0
    subst this
    exact q H2 e2, fun m hm hle => by
    obtain ⟨n, hn, rfl⟩ := List.mem_map.mp hm
    have h1 := le_maxN hn
    have h2 := hle (maxN l : Int) (List.mem_map.mpr ⟨maxN l, maxN_mem (fun z => by rw [z] at hn; cases hn), rfl⟩)
    have e3 : n = maxN l := by omega
    rw [e3]
    exact q H2 e2⟩
theorem c_len {K : PySem.W.Frag} {σ : L2.St} {H : Hp} {te : TE} {Q : VK} (h : te σ H fun v H1 => ∃ p ys, [v] = [V.ref p] ∧ (SqL K H1 p ys ∨ SqT K H1 p ys) ∧ Q (.int ys.length) H1) : tCB (rLenS K) (tCons te tNil) σ H Q := h
theorem rV_ok {R : List (Nat × Thing Str)} (h : ∀ x ∈ R, PyData.strOk x.2.name = true) : ∀ xs ∈ R.map rV, xs.all flatOk = true := fun xs hx => by
  obtain ⟨x, hm, rfl⟩ := List.mem_map.mp hx
  simp [rV, flatOk, h x hm]
/-! ### insert, clear -/
def rIns : V → List V → Hp → VK → Prop := fun x vs H Q => ∃ (l : Addr) (xs : List V) (i : Int) (y : V), x = .ref l ∧ vs = [.int i, y] ∧ H l = some (.lst xs) ∧ xs.length < sizeLine ∧ 0 ≤ i ∧ i < 2 ^ 63 ∧ Q .non (upd H l (.lst (xs.take i.toNat ++ [y] ++ xs.drop i.toNat)))
theorem mt_ins {X : Cx} : MtR X "list.insert" rIns := mt_insert
section
variable {K : PySem.W.Frag} {σ : L2.St} {H : Hp} {ta ti tv : TE} {tz : TS} {D : Ends} {l : Addr} {xs : List V} {v : V}
theorem s_ins {i : Nat} (hl : H l = some (.lst xs)) (ha : Ev ta σ H (.ref l)) (hi : Ev ti σ H (.int (i : Int))) (hv : Ev tv σ H v) (hz : xs.length < 50000) (hle : i ≤ xs.length) (k : ∀ H1, Ex H H1 → D.nx σ (upd H1 l (.lst (xs.take i ++ v :: xs.drop i)))) :
    tDrop (tBM K "list" rIns ta (tCons ti (tCons tv tNil))) D σ H := ha H (Ex.refl H) _ fun H1 e1 => ⟨Or.inl ⟨rfl, xs, sq_of (e1 l _ hl)⟩, hi H1 e1 _ fun H2 e2 => hv H2 (e1.trans e2) _ fun H3 e3 => by
  have e13 := (e1.trans e2).trans e3
  refine ⟨l, xs, (i : Int), v, rfl, rfl, e13 _ _ hl, sz_lt (by omega), by omega, by omega, ?_⟩
  have h := k H3 e13
  rw [Int.toNat_natCast, List.append_assoc]
  exact h⟩
theorem q_clear (hl : H l = some (.lst xs)) (ha : Ev ta σ H (.ref l)) (k : ∀ H1, Ex H H1 → tz D σ (upd H1 l (.lst []))) : tSeq (tDrop (tBM0 K "list" rClear ta)) tz D σ H :=
  ha H (Ex.refl H) _ fun H1 e1 => ⟨Or.inl ⟨rfl, xs, sq_of (e1 l _ hl)⟩, l, xs, rfl, rfl, e1 l _ hl, k H1 e1⟩
end
/-! ### powers of ten, an int and what a def gives, in one sum -/
theorem ev_pow10s {σ : L2.St} {H : Hp} {k : Int} (n : Nat) (h : k = (n : Int)) (hn : n ≤ 64) : Ev (tOp (rI CPow fun i j => .int (i ^ j.toNat)) (tC (.int 10)) (tC (.int k))) σ H (.int (10 ^ n)) := by
  subst h
  exact ev_op ev_c ev_c (rv_I (g := fun i j => .int (i ^ j.toNat)) (i := 10) (j := (n : Int)) ⟨by omega, by omega, by decide⟩)
section
variable {K : PySem.W.Frag} {σ : L2.St} {H : Hp} {ta tb te t1 : TE} {targs t : TA} {tt tz : TS} {D : Ends} {E : XK} {vs : List V}
theorem q_tr (h : tt { D with nx := tz D } σ H) : tSeq tt tz D σ H := h
theorem q_addN {Pre : List V → Hp → Prop} {i : Nat} {j : Int} (ha : Ev ta σ H (.int j)) (h : EvA targs σ H vs) (hP : ∀ H1, Ex H H1 → Pre vs H1) (k : ∀ n : Nat, n < 2 ^ 900 → ∀ H1, Ex H H1 → tz D (σ.set i (some (.int (j + (n : Int))))) H1) :
    tSeq (tAsg (tOp (rI0 fun i j => .int (i + j)) ta (tCall (spN Pre Post_num) [] E targs)) (gName i)) tz D σ H :=
  ha H (Ex.refl H) _ fun H1 e1 => h H1 e1 _ fun H2 e2 => by
    show spN Pre Post_num (vs ++ []) H2 _ E
    rw [List.append_nil]
    refine ⟨hP H2 (e1.trans e2), fun z hz H3 e3 => ?_⟩
    obtain ⟨n, rfl, hn⟩ := hz
    exact ⟨j, (n : Int), rfl, rfl, k n hn H3 ((e1.trans e2).trans e3)⟩
/-! ### a new list of tuples; a list ahead of some flat values -/
def EvLT (te : TE) (σ : L2.St) (H : Hp) (xss : List (List V)) : Prop := ∀ H1, Ex H H1 → ∀ Q : VK, (∀ p ps H2, H1 p = none → Ex H1 H2 → H2 p = some (.lst ps) → Tups H2 ps xss → Q (.ref p) H2) → te σ H1 Q
theorem elt_list {xss : List (List V)} (h : EvLT te σ H xss) : EvLT (tCB (fun xs H Q => ∃ p ys, xs = [.ref p] ∧ (SqL K H p ys ∨ SqT K H p ys) ∧ ∀ l, H l = none → Q (.ref l) (upd H l (.lst ys))) (tCons te tNil)) σ H xss := fun H1 e Q q =>
  h H1 e _ fun p ps H2 hp e2 h2 t2 => ⟨p, ps, rfl, Or.inl (sq_of h2), fun l hl => q l ps _ (fresh_back e2 hl) (e2.trans (Ex.new hl)) upd_same (t2.mono (Ex.new hl))⟩
def NestAt (H : Hp) (p : Addr) (xss : List (List V)) (rest : List V) : Prop := ∃ q ps, H p = some (.lst (.ref q :: rest)) ∧ H q = some (.lst ps) ∧ Tups H ps xss
theorem NestAt.mono {H H' : Hp} {p : Addr} {xss : List (List V)} {rest : List V} (h : NestAt H p xss rest) (e : Ex H H') : NestAt H' p xss rest := by
  obtain ⟨q, ps, h1, h2, h3⟩ := h
  exact ⟨q, ps, e _ _ h1, e _ _ h2, h3.mono e⟩
def EvNest (te : TE) (σ : L2.St) (H : Hp) (xss : List (List V)) (rest : List V) : Prop := ∀ H1, Ex H H1 → ∀ Q : VK, (∀ p H2, H1 p = none → Ex H1 H2 → NestAt H2 p xss rest → Q (.ref p) H2) → te σ H1 Q
theorem en_mk {xss : List (List V)} {rest : List V} (h : EvLT t1 σ H xss) (h2 : ∀ H1, Ex H H1 → EvA t σ H1 rest) (hz : rest.length < 50000) : EvNest (tLst (tCons t1 t)) σ H xss rest := fun H1 e Q q =>
  h H1 e _ fun p ps H2 hp e2 hps htp => h2 H2 (e.trans e2) H2 (Ex.refl H2) _ fun H3 e3 => ⟨sz_of (by rw [List.length_cons]; omega), fun l hl => q l _ (fresh_back (e2.trans e3) hl) ((e2.trans e3).trans (Ex.new hl)) ⟨p, ps, upd_same, (Ex.new hl) _ _ (e3 _ _ hps), (htp.mono e3).mono (Ex.new hl)⟩⟩
theorem dp_nest {p : Addr} {xss : List (List V)} {rest : List V} (h : NestAt H p xss rest) (hf : ∀ xs ∈ xss, xs.all flatOk = true) (hr : rest.all flatOk = true) : Dp K H (.ref p) (.list (.list (xss.map tD) :: rest.map pD)) := by
  obtain ⟨q, ps, h1, h2, h3⟩ := h
  exact .lst (sq_of h1) (.cons (.lst (sq_of h2) (dp_tups h3 hf)) (dp_flat hr))
theorem shaped_nest {xss : List (List V)} {rest : List V} (hf : ∀ xs ∈ xss, xs.all flatOk = true) (hr : rest.all flatOk = true) : SeqAt.shaped (.list (.list (xss.map tD) :: rest.map pD)) = true ∧ PyData.eqv (.list (.list (xss.map tD) :: rest.map pD)) (.list (.list (xss.map tD) :: rest.map pD)) = true := by
  obtain ⟨b1, b2, b3⟩ := lay_tups hf
  obtain ⟨c1, c2, c3⟩ := lay_all hr
  refine ⟨?_, by simp only [PyData.eqv, PyData.eqvAll, b3, c3, Bool.and_self]⟩
  unfold SeqAt.shaped
  simp only [PyData.canLay0, PyData.canLayAll0, b1, c1, PyData.depth, PyData.depthAll, c2, Bool.and_self, Bool.true_and]
  exact decide_eq_true (by omega)
theorem et_neNest {p : Addr} {xss : List (List V)} {rest : List V} (ha : EvNest ta σ H xss rest) (hb : Ev tb σ H (.ref p)) (h : NestAt H p xss rest) (hf : ∀ xs ∈ xss, xs.all flatOk = true) (hr : rest.all flatOk = true) : EvT (tTest (tOp (rNeD K) ta tb)) σ H false := by
  intro H1 e Q q
  refine ha H1 e _ fun r H2 hr2 e2 h2 => hb H2 (e.trans e2) _ fun H3 e3 => ?_
  refine ⟨_, _, dp_nest (h2.mono e3) hf hr, dp_nest (((h.mono e).mono e2).mono e3) hf hr, (shaped_nest hf hr).1, (shaped_nest hf hr).1, ?_⟩
  rw [(shaped_nest hf hr).2]
  exact ⟨false, rfl, q H3 (e2.trans e3)⟩
end
theorem full_mem {b : Nat} {s : Sto Str} {l : List (Nat × Str)} (h : Full b s l) {q : Nat} {t : Thing Str} (ht : t ∈ s.B q) : nn t ∈ l := by
  have h1 := h.ok.at_ q t ht
  have h2 := h.al t.num
  rw [h1] at h2
  have h3 : nn t ∈ ((s.B q).filter fun u => decide (u.num = t.num)).map nn := List.mem_map_of_mem (List.mem_filter.mpr ⟨ht, decide_eq_true rfl⟩)
  rw [← h2] at h3
  exact (List.mem_filter.mp h3).1
theorem rows_ok {b : Nat} {s : Sto Str} {l : List (Nat × Str)} (h : Full b s l) (ok : ∀ x ∈ l, PyData.strOk x.2 = true) {R : List (Nat × Thing Str)} (hR : IsRows s R) : ∀ xs ∈ R.map rV, xs.all flatOk = true :=
  rV_ok fun x hx => ok _ (full_mem h ((rows_mem hR).mp hx))
theorem strOk_app {x y : Str} (hx : PyData.strOk x = true) (hy : PyData.strOk y = true) : PyData.strOk (x ++ y) = true := by
  unfold PyData.strOk at *
  rw [Array.all_eq_true'] at *
  intro c hc
  rcases Array.mem_append.mp hc with h | h
  · exact hx c h
  · exact hy c h
/-! ### the script's list, beside a store and a list that change -/
def Scr (K : PySem.W.Frag) (bad : Addr → Prop) (H : Hp) (a : Addr) (xs : List V) : Prop := (∀ H', SqL K H' a xs) ∨ ∃ o, H a = some o ∧ ¬ bad a ∧ ∀ H', H' a = some o → SqL K H' a xs
abbrev Off (F : Addr → Prop) (pl : Addr) : Addr → Prop := fun x => F x ∨ x = pl
section
variable {K : PySem.W.Frag} {F F' bad : Addr → Prop} {H H' : Hp} {a pl p : Addr} {xs : List V}
theorem scr_of (h : SqL K H a xs) : Scr K (fun _ => False) H a xs := by
  rcases h with (h | ⟨o, h⟩) | h
  · exact Or.inr ⟨_, h, fun z => z, fun H' h' => sq_of h'⟩
  · exact Or.inr ⟨_, h, fun z => z, fun H' h' => Or.inl (Or.inr ⟨o, h'⟩)⟩
  · exact Or.inl fun H' => Or.inr h
theorem Scr.sq (h : Scr K bad H a xs) : SqL K H a xs := by
  rcases h with h | ⟨o, h1, _, h2⟩
  · exact h H
  · exact h2 H h1
theorem Scr.mono (h : Scr K bad H a xs) (e : Ex H H') : Scr K bad H' a xs := by
  rcases h with h | ⟨o, h1, h2, h3⟩
  · exact Or.inl h
  · exact Or.inr ⟨o, e _ _ h1, h2, h3⟩
theorem Scr.mv0 (h : Scr K F H a xs) (M : Mv F F' H H') : Scr K F' H' a xs := by
  rcases h with h | ⟨o, h1, h2, h3⟩
  · exact Or.inl h
  · exact Or.inr ⟨o, (M _ _ h1 h2).1, (M _ _ h1 h2).2, h3⟩
theorem Scr.mv (h : Scr K (Off F pl) H a xs) (M : Mv F F' H H') : Scr K (Off F' pl) H' a xs := by
  rcases h with h | ⟨o, h1, h2, h3⟩
  · exact Or.inl h
  · have h4 := M _ _ h1 fun z => h2 (Or.inl z)
    exact Or.inr ⟨o, h4.1, fun z => z.elim h4.2 fun z => h2 (Or.inr z), h3⟩
theorem Scr.first (h : Scr K F H a xs) (hp : H p = none) (e : Ex H H') : Scr K (Off F p) H' a xs := by
  rcases h with h | ⟨o, h1, h2, h3⟩
  · exact Or.inl h
  · refine Or.inr ⟨o, e _ _ h1, fun z => ?_, h3⟩
    rcases z with z | z
    · exact h2 z
    · rw [z, hp] at h1
      cases h1
theorem Scr.new (h : Scr K (Off F pl) H a xs) (hp : H p = none) (e : Ex H H') : Scr K (Off F p) H' a xs := by
  rcases h with h | ⟨o, h1, h2, h3⟩
  · exact Or.inl h
  · refine Or.inr ⟨o, e _ _ h1, fun z => ?_, h3⟩
    rcases z with z | z
    · exact h2 (Or.inl z)
    · rw [z, hp] at h1
      cases h1
theorem Scr.upd (h : Scr K (Off F pl) H a xs) {o : HO} : Scr K (Off F pl) (L2.upd H pl o) a xs := by
  rcases h with h | ⟨o', h1, h2, h3⟩
  · exact Or.inl h
  · refine Or.inr ⟨o', ?_, h2, h3⟩
    rw [upd_ne fun z => h2 (Or.inr z)]
    exact h1
end
/-! ### ints appended, sorted; nests compared -/
section
variable {K : PySem.W.Frag} {σ : L2.St} {H : Hp} {ta tb te t1 : TE} {targs t : TA} {tt tz : TS} {D : Ends} {E : XK} {vs : List V}
theorem q_appN {Pre : List V → Hp → Prop} {l : Addr} {xs : List V} (hl : H l = some (.lst xs)) (ha : Ev ta σ H (.ref l)) (h2 : EvA targs σ H vs) (hP : ∀ H1, Ex H H1 → Pre vs H1) (hz : xs.length < 100000) (k : ∀ n : Nat, n < 2 ^ 900 → ∀ H1, Ex H H1 → tz D σ (upd H1 l (.lst (xs ++ [.int (n : Int)])))) :
    tSeq (tDrop (tBM K "list" rAppend ta (tCons (tCall (spN Pre Post_num) [] E targs) tNil))) tz D σ H := ha H (Ex.refl H) _ fun H1 e1 =>
  ⟨Or.inl ⟨rfl, xs, sq_of (e1 l _ hl)⟩, h2 H1 e1 _ fun H3 e3 => by
    show spN Pre Post_num (vs ++ []) H3 _ E
    rw [List.append_nil]
    have e13 := e1.trans e3
    refine ⟨hP H3 e13, fun z hz' H4 e4 => ?_⟩
    obtain ⟨n, rfl, hn⟩ := hz'
    exact ⟨l, xs, _, rfl, rfl, e4 l _ (e13 l _ hl), sz_lt hz, k n hn H4 (e13.trans e4)⟩⟩
theorem elt_nil : EvLT (tLst tNil) σ H [] := fun H1 e Q q => ⟨Nat.zero_le _, fun l hl => q l [] _ hl (Ex.new hl) upd_same True.intro⟩
theorem et_neNest2 {xss : List (List V)} {rest : List V} (ha : EvNest ta σ H xss rest) (hb : EvNest tb σ H xss rest) (hf : ∀ xs ∈ xss, xs.all flatOk = true) (hr : rest.all flatOk = true) : EvT (tTest (tOp (rNeD K) ta tb)) σ H false := by
  intro H1 e Q q
  refine ha H1 e _ fun r H2 hr2 e2 h2 => hb H2 (e.trans e2) _ fun r3 H3 hr3 e3 h3 => ?_
  refine ⟨_, _, dp_nest (h2.mono e3) hf hr, dp_nest h3 hf hr, (shaped_nest hf hr).1, (shaped_nest hf hr).1, ?_⟩
  rw [(shaped_nest hf hr).2]
  exact ⟨false, rfl, q H3 (e2.trans e3)⟩
end
theorem srt_ex (L : List Int) : ∃ ys : List Int, ys.Perm L ∧ ys.Pairwise (· ≤ ·) :=
  ⟨L.mergeSort, List.mergeSort_perm _ _, (List.pairwise_mergeSort (by intro a b c h1 h2; simp at *; omega) (by intro a b; simp; omega) L).imp fun {a b} h => by simpa using h⟩
theorem srt_uniq {xs ys : List Int} (h : xs.Perm ys) (h1 : xs.Pairwise (· ≤ ·)) (h2 : ys.Pairwise (· ≤ ·)) : xs = ys := List.Perm.eq_of_pairwise (le := (· ≤ ·)) (fun _ _ _ _ a b => Int.le_antisymm a b) h1 h2 h
theorem srt_step {l : List (Nat × Str)} {j : Nat} {x : Nat × Str} {y : Int} {r : List Int} (hf : IsFirst l j x) (hp : (l.map fun z => (z.1 : Int)).Perm (y :: r)) (hs : (y :: r).Pairwise (· ≤ ·)) : (x.1 : Int) = y ∧ ((l.take j ++ l.drop (j + 1)).map fun z => (z.1 : Int)).Perm r := by
  have hx := List.mem_of_getElem? hf.at_
  have e1 : (x.1 : Int) = y := by
    have h1 : (x.1 : Int) ∈ y :: r := hp.mem_iff.mp (List.mem_map.mpr ⟨x, hx, rfl⟩)
    have h2 : y ∈ l.map fun z => (z.1 : Int) := hp.mem_iff.mpr List.mem_cons_self
    obtain ⟨z, hz, hzy⟩ := List.mem_map.mp h2
    obtain ⟨i, hi⟩ := List.mem_iff_getElem?.mp hz
    have h3 := (hf.le i z hi).1
    have h4 : y ≤ (x.1 : Int) := by
      rcases List.mem_cons.mp h1 with h | h
      · exact Int.le_of_eq h.symm
      · exact (List.pairwise_cons.mp hs).1 _ h
    omega
  refine ⟨e1, ?_⟩
  have e2 : l = l.take j ++ x :: l.drop (j + 1) := by
    obtain ⟨hi, e⟩ := List.getElem?_eq_some_iff.mp hf.at_
    rw [← e, List.getElem_cons_drop hi, List.take_append_drop]
  rw [e2, List.map_append, List.map_cons] at hp
  rw [List.map_append]
  have h5 := (List.perm_middle.symm.trans hp)
  rw [e1] at h5
  exact h5.cons_inv
/-! ### one of many tests on a first variable; new lists of tuples handed on -/
section
variable {K : PySem.W.Frag} {σ : L2.St} {H H0 : Hp} {ta tb te t1 t2 : TE} {targs t : TA} {tu tz : TS} {D : Ends} {E : XK} {vs : List V} {sp : Sp} {Q : VK}
theorem q_skip {i j : Int} (e0 : Ex H0 H) (hσ : σ[0]? = some (some (.int i))) (hne : i ≠ j) (k : ∀ H1, Ex H0 H1 → tz D σ H1) : tSeq (tIfS (tTest (tOp rEq (tVar 0) (tC (.int j)))) tu tNext) tz D σ H :=
  q_when (b := false) (et_is (et_test (ev_op (ev_var hσ) ev_c (rv_eq rfl))) (decide_eq_false fun z => hne (by injection z))) (fun z => nomatch z) fun _ H1 e1 => k H1 (e0.trans e1)
theorem s_skip {i j : Int} (e0 : Ex H0 H) (hσ : σ[0]? = some (some (.int i))) (hne : i ≠ j) (k : ∀ H1, Ex H0 H1 → D.nx σ H1) : tIfS (tTest (tOp rEq (tVar 0) (tC (.int j)))) tu tNext D σ H :=
  s_when (b := false) (et_is (et_test (ev_op (ev_var hσ) ev_c (rv_eq rfl))) (decide_eq_false fun z => hne (by injection z))) (fun z => nomatch z) fun _ H1 e1 => k H1 (e0.trans e1)
theorem q_hit {j : Int} (e0 : Ex H0 H) (hσ : σ[0]? = some (some (.int j))) (k : ∀ H1, Ex H0 H1 → tu { D with nx := tz D } σ H1) : tSeq (tIfS (tTest (tOp rEq (tVar 0) (tC (.int j)))) tu tNext) tz D σ H :=
  q_when (b := true) (et_is (et_test (ev_op (ev_var hσ) ev_c (rv_eq rfl))) (decide_eq_true rfl)) (fun _ H1 e1 => k H1 (e0.trans e1)) (fun z => nomatch z)
theorem s_hit {j : Int} (e0 : Ex H0 H) (hσ : σ[0]? = some (some (.int j))) (k : ∀ H1, Ex H0 H1 → tu D σ H1) : tIfS (tTest (tOp rEq (tVar 0) (tC (.int j)))) tu tNext D σ H :=
  s_when (b := true) (et_is (et_test (ev_op (ev_var hσ) ev_c (rv_eq rfl))) (decide_eq_true rfl)) (fun _ H1 e1 => k H1 (e0.trans e1)) (fun z => nomatch z)
/-- f(a new list, an int) -/
theorem c_newL {xs : List V} {b : Int} (h : EvL t1 σ H xs) (h2 : ∀ H1, Ex H H1 → Ev t2 σ H1 (.int b)) (k : ∀ p H1, Ex H H1 → H1 p = some (.lst xs) → sp [.ref p, .int b] H1 Q E) : tCall sp [] E (tCons t1 (tCons t2 tNil)) σ H Q :=
  h H (Ex.refl H) _ fun p H1 _ e1 hp => h2 H1 e1 H1 (Ex.refl H1) _ fun H2 e2 => k p H2 (e1.trans e2) (e2 _ _ hp)
theorem c_newT {xss : List (List V)} {b : Int} (h : EvLT t1 σ H xss) (h2 : ∀ H1, Ex H H1 → Ev t2 σ H1 (.int b)) (k : ∀ p ps H1, Ex H H1 → H1 p = some (.lst ps) → Tups H1 ps xss → sp [.ref p, .int b] H1 Q E) : tCall sp [] E (tCons t1 (tCons t2 tNil)) σ H Q :=
  h H (Ex.refl H) _ fun p ps H1 _ e1 hp htp => h2 H1 e1 H1 (Ex.refl H1) _ fun H2 e2 => k p ps H2 (e1.trans e2) (e2 _ _ hp) (htp.mono e2)
theorem el_listof {a : Addr} {xs : List V} (h : Ev te σ H (.ref a)) (ha : H a = some (.lst xs)) : EvL (tCB (fun xs H Q => ∃ p ys, xs = [.ref p] ∧ (SqL K H p ys ∨ SqT K H p ys) ∧ ∀ l, H l = none → Q (.ref l) (upd H l (.lst ys))) (tCons te tNil)) σ H xs := fun H1 e Q q =>
  h H1 e _ fun H2 e2 => ⟨a, xs, rfl, Or.inl (sq_of (e2 _ _ (e _ _ ha))), fun l hl => q l _ (fresh_back e2 hl) (e2.trans (Ex.new hl)) upd_same⟩
theorem elt_ts {xss : List (List V)} (h : EvTs targs σ H xss) (hz : xss.length ≤ 100000) : EvLT (tLst targs) σ H xss := fun H1 e Q q =>
  h H1 e _ fun ps H2 e2 t hl => ⟨sz_of (by rw [hl]; exact hz), fun l nl => q l ps _ (fresh_back e2 nl) (e2.trans (Ex.new nl)) upd_same (t.mono (Ex.new nl))⟩
theorem elt_cat {xss yss : List (List V)} (ha : EvLT ta σ H xss) (hb : EvLT tb σ H yss) (hz : xss.length + yss.length ≤ 100000) : EvLT (tOp rCat ta tb) σ H (xss ++ yss) := fun H1 e Q q =>
  ha H1 e _ fun p ps H2 hp e2 h2 t2 => hb H2 (e.trans e2) _ fun p' ps' H3 hp' e3 h3 t3 => ⟨p, p', ps, ps', rfl, rfl, e3 _ _ h2, h3, sz_of (by rw [tups_len t2, tups_len t3]; exact hz), fun r hr => q r _ _ (fresh_back (e2.trans e3) hr) ((e2.trans e3).trans (Ex.new hr)) upd_same (tups_app ((t2.mono e3).mono (Ex.new hr)) (t3.mono (Ex.new hr)))⟩
theorem elt_slTake {ti : TE} {a : Addr} {ps : List V} {xss : List (List V)} {i : Nat} (h : Ev te σ H (.ref a)) (hi : Ev ti σ H (.int (i : Int))) (ha : H a = some (.lst ps)) (ht : Tups H ps xss) (hle : i ≤ ps.length) : EvLT (tSl (rSlL K) te tNoPart (tPart ti)) σ H (xss.take i) := fun H1 e Q q =>
  (el_sl h eo_none (eo_some hi) (sq_of ha)) H1 e _ fun p H2 hp e2 h2 => by
    rw [cut_take hle] at h2
    exact q p _ H2 hp e2 h2 (tups_take i ((ht.mono e).mono e2))
theorem elt_slDrop {ti : TE} {a : Addr} {ps : List V} {xss : List (List V)} {i : Nat} (h : Ev te σ H (.ref a)) (hi : Ev ti σ H (.int (i : Int))) (ha : H a = some (.lst ps)) (ht : Tups H ps xss) (hle : i ≤ ps.length) : EvLT (tSl (rSlL K) te (tPart ti) tNoPart) σ H (xss.drop i) := fun H1 e Q q =>
  (el_sl h (eo_some hi) eo_none (sq_of ha)) H1 e _ fun p H2 hp e2 h2 => by
    rw [cut_drop hle] at h2
    exact q p _ H2 hp e2 h2 (tups_drop i ((ht.mono e).mono e2))
/-- [a tuple for i in range(n)] -/
theorem elt_lcR1 {ta : TA} {j : Nat} {ws : List Nat} {n : Int} (f : Nat → List V) (h : EvA ta σ H [.int n]) (hn : 0 ≤ n ∧ n ≤ 40000) (hw : ∀ x, wipe ((wipe σ ws).set j (some x)) ws = wipe σ ws) (he : ∀ (i : Nat) H1, Ex H H1 → (i : Int) < n → EvU te ((wipe σ ws).set j (some (.int (i : Int)))) H1 (f i)) :
    EvLT (tLc (iRng1 ta) (gName j) tYes te ws) σ H ((List.range n.toNat).map f) := fun H0 e Q q => h H0 e _ fun H1 e1 => ⟨n, rfl, by omega, by omega, fun Dl hD =>
  lc_range (lo := 0) (n := n.toNat) (fun i H' => Ex H1 H' ∧ ∃ ps, H' Dl = some (.lst ps) ∧ Tups H' ps ((List.range i).map f)) ⟨Ex.new hD, [], upd_same, True.intro⟩ (fun i H' hi p => by
    obtain ⟨p1, ps, p2, p3⟩ := p
    have e0 : (0 : Int) + (i : Int) = (i : Int) := Int.zero_add _
    show wipe ((wipe σ ws).set j (some (.int ((0 : Int) + (i : Int))))) ws = wipe σ ws ∧ te ((wipe σ ws).set j (some (.int ((0 : Int) + (i : Int))))) H' fun y H4 => ∃ acc, H4 Dl = some (.lst acc) ∧ acc.length < sizeLine ∧ _
    rw [e0]
    refine ⟨hw _, he i H' ((e.trans e1).trans p1) (by omega) H' (Ex.refl H') _ fun r H2 hr e2 h2 => ⟨ps, e2 _ _ p2, sz_lt (by rw [tups_len p3, List.length_map, List.length_range]; omega), Ex.mut (p1.trans e2) hD, _, upd_same, ?_⟩⟩
    have kk : ∀ a xs, H2 a = some (.tup xs) → (upd H2 Dl (.lst (ps ++ [.ref r]))) a = some (.tup xs) := fun a xs z => by
      rw [upd_ne (ne_of z (e2 _ _ p2) (by intro q; cases q))]
      exact z
    rw [List.range_succ, List.map_append]
    exact tups_snoc (tups_keep kk (p3.mono e2)) (kk _ _ h2)) (fun H' p => by
    obtain ⟨p1, ps, p2, p3⟩ := p
    exact q Dl ps H' (fresh_back e1 hD) (e1.trans p1) p2 p3)⟩
end
/-- the variables, written out (long chains of writes make rfl slow) -/
theorem st_is {tz : TS} {D : Ends} {σ τ : L2.St} {H : Hp} (h : σ = τ) (k : tz D τ H) : tz D σ H := h ▸ k
/-- the list without it made first, then one goes -/
theorem LawSt.gone2 {ST : Addr} {b : Nat} {st : Addr} {s : Sto Str} {F : Addr → Prop} {l : List (Nat × Str)} {pl : Addr} {H : Hp} (L : LawSt ST b st s F l pl H) {i : Nat} {x : Nat × Str} {s' : Sto Str} {t : Thing Str} {F' : Addr → Prop} {H1 H2 : Hp} (f : IsFirst l i x) (g : Goes b s s' t) (S : SAt ST b st s' (l.length - 1) F' H2) (e : Ex H H1) (M : Mv F F' H1 H2) {p2 : Addr} {ps : List V} (h2 : Tups H ps (l.map nV))
    (hp : H p2 = none) (h3 : H1 p2 = some (.lst (ps.take i ++ ps.drop (i + 1)))) : x = nn t ∧ s'.last = x.1 ∧ LawSt ST b st s' F' (l.take i ++ l.drop (i + 1)) p2 H2 := by
  obtain ⟨g1, g2, g3⟩ := full_goes L.S.hb L.fu g f
  obtain ⟨h4, nf⟩ := M _ _ h3 (L.S.free hp)
  refine ⟨g1, by rw [g2, g1] <;> rfl, ?_, g3, fun y hy => ?_, nf, _, h4, ?_⟩
  · have h4 := drop_len f.at_
    have e4 : l.length - 1 = (l.take i ++ l.drop (i + 1)).length := by omega
    rw [← e4]
    exact S
  · rcases List.mem_append.mp hy with hy | hy
    · exact L.ok y (List.mem_of_mem_take hy)
    · exact L.ok y (List.mem_of_mem_drop hy)
  · rw [List.map_append, List.map_take, List.map_drop]
    have h5 := M.tups (L.S.mono e) (h2.mono e)
    exact tups_app (tups_take i h5) (tups_drop (i + 1) h5)
/-! ### rows against a plain list -/
/-- of each number the list and the rows that are left hold the same, in the same order -/
def Match (l : List (Nat × Str)) (R : List (Nat × Thing Str)) : Prop := ∀ n, l.filter (fun x => decide (x.1 = n)) = (R.filter fun r => decide (r.2.num = n)).map fun r => nn r.2
theorem match_rows {b : Nat} {s : Sto Str} {l : List (Nat × Str)} (f : Full b s l) {R : List (Nat × Thing Str)} (hR : IsRows s R) : Match l R := by
  obtain ⟨M, hM, rfl⟩ := hR.ex
  intro n
  rw [f.al n]
  have key : ∀ k, ((rowsTo s k).filter fun r => decide (r.2.num = n)).map (fun r => nn r.2) = if partAt b n s.last < k then ((s.B (partAt b n s.last)).filter fun t => decide (t.num = n)).map nn else [] := by
    intro k
    induction k with
    | zero => rw [if_neg (Nat.not_lt_zero _)] <;> rfl
    | succ k ih =>
      show ((rowsTo s k ++ (s.B k).map fun t => (k, t)).filter _).map _ = _
      rw [List.filter_append, List.map_append, ih, List.filter_map, List.map_map]
      by_cases e : k = partAt b n s.last
      · rw [if_neg (by omega), if_pos (by omega), List.nil_append, ← e]
        rfl
      · have h0 := filter_other (q := k) (n := n) f.ok e
        have h1 : ((s.B k).filter ((fun r : Nat × Thing Str => decide (r.2.num = n)) ∘ fun t => (k, t))) = [] := h0
        rw [h1, List.map_nil, List.append_nil]
        by_cases h2 : partAt b n s.last < k
        · rw [if_pos h2, if_pos (by omega)]
        · rw [if_neg h2, if_neg (by omega)]
  rw [key M]
  by_cases h : partAt b n s.last < M
  · rw [if_pos h]
  · rw [if_neg h, hM _ (by omega)]
    rfl
theorem rowsTo_up1 {s : Sto Str} : ∀ k, (rowsTo s k).Pairwise fun a b => a.1 ≤ b.1
  | 0 => List.Pairwise.nil
  | k + 1 => by
    show (rowsTo s k ++ (s.B k).map fun t => (k, t)).Pairwise _
    refine List.pairwise_append.mpr ⟨rowsTo_up1 k, ?_, fun x hx y hy => ?_⟩
    · rw [List.pairwise_map]
      exact List.pairwise_of_forall fun _ _ => Nat.le_refl _
    · obtain ⟨t, _, rfl⟩ := List.mem_map.mp hy
      have := (rowsTo_mem.mp hx).1
      show x.1 ≤ k
      omega
theorem rows_sorted {s : Sto Str} {R : List (Nat × Thing Str)} (hR : IsRows s R) : R.Pairwise fun a b => a.1 ≤ b.1 := by
  obtain ⟨M, _, rfl⟩ := hR.ex
  exact rowsTo_up1 M
/-- the first thing of a number taken out of the list -/
theorem first_of {n : Nat} : ∀ {L : List (Nat × Str)} {x : Nat × Str} {r : List (Nat × Str)}, L.filter (fun y => decide (y.1 = n)) = x :: r → ∃ i, L[i]? = some x ∧ x.1 = n ∧ (∀ (j : Nat) (y : Nat × Str), j < i → L[j]? = some y → y.1 ≠ n) ∧
    ∀ m, (L.take i ++ L.drop (i + 1)).filter (fun y => decide (y.1 = m)) = if m = n then r else L.filter fun y => decide (y.1 = m)
  | [], _, _, h => by cases h
  | z :: L, x, r, h => by
    by_cases e : z.1 = n
    · rw [List.filter_cons_of_pos (by simpa using e)] at h
      injection h with h1 h2
      subst h1
      refine ⟨0, rfl, e, fun j y hj => absurd hj (Nat.not_lt_zero _), fun m => ?_⟩
      show L.filter _ = _
      by_cases hm : m = n
      · rw [if_pos hm, hm]
        exact h2
      · rw [if_neg hm, List.filter_cons_of_neg (by simp only [decide_eq_true_eq]; omega)]
    · rw [List.filter_cons_of_neg (by simpa using e)] at h
      obtain ⟨i, h1, h2, h3, h4⟩ := first_of h
      refine ⟨i + 1, by simpa using h1, h2, fun j y hj hy => ?_, fun m => ?_⟩
      · cases j with
        | zero =>
          have : z = y := by simpa using hy
          rw [← this]
          exact e
        | succ j => exact h3 j y (by omega) (by simpa using hy)
      · show (z :: (L.take i ++ L.drop (i + 1))).filter _ = _
        by_cases hz : z.1 = m
        · have hmn : ¬ m = n := by omega
          rw [List.filter_cons_of_pos (by simpa using hz), h4 m, if_neg hmn, if_neg hmn, List.filter_cons_of_pos (by simpa using hz)]
        · rw [List.filter_cons_of_neg (by simpa using hz), h4 m, List.filter_cons_of_neg (by simpa using hz)]
theorem match_step {l : List (Nat × Str)} {r : Nat × Thing Str} {R : List (Nat × Thing Str)} (h : Match l (r :: R)) : ∃ i, l[i]? = some (nn r.2) ∧ (∀ (j : Nat) (y : Nat × Str), j < i → l[j]? = some y → y.1 ≠ r.2.num) ∧ Match (l.take i ++ l.drop (i + 1)) R := by
  have h1 := h r.2.num
  rw [List.filter_cons_of_pos (by simp), List.map_cons] at h1
  obtain ⟨i, a1, a2, a3, a4⟩ := first_of h1
  refine ⟨i, a1, a3, fun m => ?_⟩
  rw [a4 m]
  by_cases e : m = r.2.num
  · rw [if_pos e, e]
  · rw [if_neg e, h m, List.filter_cons_of_neg (by simp only [decide_eq_true_eq]; omega)]
/-! ### two of a kind, by index -/
def setf {α : Type} (f : Nat → α) (j : Nat) (v : α) : Nat → α := fun k => if k = j then v else f k
theorem setf_same {α : Type} {f : Nat → α} {j : Nat} {v : α} : setf f j v j = v := if_pos rfl
theorem setf_ne {α : Type} {f : Nat → α} {j k : Nat} {v : α} (h : k ≠ j) : setf f j v k = f k := if_neg h
theorem two_get {α : Type} (f : Nat → α) {j : Nat} (h : j < 2) : [f 0, f 1][j]? = some (f j) := by
  have : j = 0 ∨ j = 1 := by omega
  rcases this with rfl | rfl <;> rfl
theorem two_set {α β : Type} (f : Nat → α) (g : α → β) {j : Nat} {v : α} (h : j < 2) : [g (f 0), g (f 1)].set j (g v) = [g (setf f j v 0), g (setf f j v 1)] := by
  have : j = 0 ∨ j = 1 := by omega
  rcases this with rfl | rfl <;> rfl
section
variable {K : PySem.W.Frag} {σ : L2.St} {H : Hp} {ta tb te ti : TE} {tz : TS} {D : Ends}
theorem s_setLN {l : Addr} {xs : List V} {xss : List (List V)} {j : Nat} (hl : H l = some (.lst xs)) (h : EvLT te σ H xss) (ho : ∀ H1, Ex H H1 → Ev ta σ H1 (.ref l)) (hi : ∀ H1, Ex H H1 → Ev tb σ H1 (.int (j : Int))) (hj : j < xs.length) (k : ∀ p ps H1, H p = none → Ex H H1 → H1 p = some (.lst ps) → Tups H1 ps xss → D.nx σ (upd H1 l (.lst (xs.set j (.ref p))))) :
    tAsg te (gSub ta tb rSetL) D σ H := h H (Ex.refl H) _ fun p ps H1 hp e1 hps htp => ho H1 e1 H1 (Ex.refl H1) _ fun H2 e2 => hi H2 (e1.trans e2) H2 (Ex.refl H2) _ fun H3 e3 =>
  ⟨l, xs, (j : Int), j, rfl, rfl, ((e1.trans e2).trans e3) l _ hl, ixN_nat hj, k p ps H3 hp ((e1.trans e2).trans e3) (e3 _ _ (e2 _ _ hps)) ((htp.mono e2).mono e3)⟩
theorem elt_catV {a : Addr} {ps : List V} {xss yss : List (List V)} (ha : Ev ta σ H (.ref a)) (hp : H a = some (.lst ps)) (ht : Tups H ps xss) (hb : EvLT tb σ H yss) (hz : xss.length + yss.length ≤ 100000) : EvLT (tOp rCat ta tb) σ H (xss ++ yss) := fun H1 e Q q =>
  ha H1 e _ fun H2 e2 => hb H2 (e.trans e2) _ fun p' ps' H3 hp' e3 h3 t3 => ⟨a, p', ps, ps', rfl, rfl, e3 _ _ (e2 _ _ (e _ _ hp)), h3, sz_of (by rw [tups_len ht, tups_len t3]; exact hz), fun r hr => q r _ _ (fresh_back (e2.trans e3) hr) ((e2.trans e3).trans (Ex.new hr)) upd_same (tups_app (((ht.mono e).mono (e2.trans e3)).mono (Ex.new hr)) (t3.mono (Ex.new hr)))⟩
theorem elt_without {tl2 ti2 : TE} {a : Addr} {ps : List V} {xss : List (List V)} {i : Nat} (h : Ev ta σ H (.ref a)) (h2 : Ev tl2 σ H (.ref a)) (hi : Ev ti σ H (.int (i : Int))) (hi2 : Ev ti2 σ H (.int ((i : Int) + 1))) (ha : H a = some (.lst ps)) (ht : Tups H ps xss) (hle : i < ps.length) (hz : ps.length ≤ 50000) :
    EvLT (tOp rCat (tSl (rSlL K) ta tNoPart (tPart ti)) (tSl (rSlL K) tl2 (tPart ti2) tNoPart)) σ H (xss.take i ++ xss.drop (i + 1)) := fun H1 e Q q =>
  (el_without h h2 hi hi2 ha hle hz) H1 e _ fun p H2 hp e2 h3 => q p _ H2 hp e2 h3 (by
    have h5 := (ht.mono e).mono e2
    exact tups_app (tups_take i h5) (tups_drop (i + 1) h5))
theorem eu_slT2 {p : Addr} {x y z : V} (h : Ev te σ H (.ref p)) (hp : H p = some (.tup [x, y, z])) : EvU (tSl (rSlT K) te tNoPart (tPart (tC (.int 2)))) σ H [x, y] := fun H1 e Q q =>
  h H1 e _ fun H2 e2 => ⟨2, rfl, p, [x, y, z], rfl, st_of (e2 _ _ (e _ _ hp)), (by show ¬(HT.sIx 3 0 none = 0 ∧ HT.sIx 3 3 (some 2) = 3); decide +kernel), fun r hr => q r _ (fresh_back e2 hr) (e2.trans (Ex.new hr)) upd_same⟩
theorem et_neTupU {q : Addr} {xs : List V} (ha : EvU ta σ H xs) (hb : Ev tb σ H (.ref q)) (h2 : H q = some (.tup xs)) (hf : xs.all flatOk = true) : EvT (tTest (tOp (rNeD K) ta tb)) σ H false := by
  intro H1 e Q k
  refine ha H1 e _ fun r H2 hr2 e2 h3 => hb H2 (e.trans e2) _ fun H3 e3 => ?_
  refine ⟨_, _, dp_tup (e3 _ _ h3) hf, dp_tup (e3 _ _ (e2 _ _ (e _ _ h2))) hf, (shaped_tup hf).1, (shaped_tup hf).1, ?_⟩
  rw [(shaped_tup hf).2]
  exact ⟨false, rfl, k H3 (e2.trans e3)⟩
end
/-! ### two stores with a plain list each -/
structure Two (ST : Addr) (b : Nat → Nat) (st : Nat → Addr) (s : Nat → Sto Str) (F : Nat → Addr → Prop) (l : Nat → List (Nat × Str)) (pl : Nat → Addr) (H : Hp) : Prop where
  one : ∀ k, k < 2 → LawSt ST (b k) (st k) (s k) (F k) (l k) (pl k) H
  dj : ∀ j k, j < 2 → k < 2 → j ≠ k → ∀ a, F j a → ¬ F k a
  of : ∀ j k, j < 2 → k < 2 → ¬ F j (pl k)
/-- a list of the law, out of both stores -/
structure Held (F : Nat → Addr → Prop) (q : Addr) (xs : List V) (H : Hp) : Prop where
  at_ : H q = some (.lst xs)
  nf : ∀ j, j < 2 → ¬ F j q
section
variable {ST : Addr} {b : Nat → Nat} {st : Nat → Addr} {s : Nat → Sto Str} {F : Nat → Addr → Prop} {l : Nat → List (Nat × Str)} {pl : Nat → Addr} {H H1 H2 : Hp} {q r : Addr} {xs : List V} {o : HO}
theorem Two.mono (T : Two ST b st s F l pl H) (e : Ex H H1) : Two ST b st s F l pl H1 := ⟨fun k hk => (T.one k hk).mono e, T.dj, T.of⟩
theorem Held.mono (h : Held F q xs H) (e : Ex H H1) : Held F q xs H1 := ⟨e _ _ h.at_, h.nf⟩
theorem Held.mv {j : Nat} {F' : Addr → Prop} (h : Held F q xs H) (hj : j < 2) (M : Mv (F j) F' H H1) : Held (setf F j F') q xs H1 := by
  obtain ⟨h1, h2⟩ := M _ _ h.at_ (h.nf j hj)
  refine ⟨h1, fun k hk => ?_⟩
  by_cases e : k = j
  · subst e
    rw [setf_same]
    exact h2
  · rw [setf_ne e]
    exact h.nf k hk
theorem Held.upd (h : Held F q xs H) (hr : q ≠ r) : Held F q xs (L2.upd H r o) := ⟨by rw [upd_ne hr]; exact h.at_, h.nf⟩
theorem Held.put {ys : List V} (h : Held F q xs H) : Held F q ys (L2.upd H q (.lst ys)) := ⟨upd_same, h.nf⟩
theorem Two.upd (T : Two ST b st s F l pl H) (h : Held F r xs H) (np : ∀ k, k < 2 → pl k ≠ r) : Two ST b st s F l pl (L2.upd H r o) := by
  refine ⟨fun k hk => ?_, T.dj, T.of⟩
  have L := T.one k hk
  obtain ⟨ps, h1, h2⟩ := L.tl
  refine ⟨L.S.otherL (h.nf k hk) h.at_, L.fu, L.ok, L.nf, ps, by rw [upd_ne (np k hk)]; exact h1, tups_keep (fun a ys z => ?_) h2⟩
  rw [upd_ne (ne_of z h.at_ (by intro q; cases q))]
  exact z
theorem Two.step {j : Nat} {s' : Sto Str} {F' : Addr → Prop} {l' : List (Nat × Str)} {p2 : Addr} (T : Two ST b st s F l pl H) (hj : j < 2) (M : Mv (F j) F' H H1) (e : Ex H1 H2) (L : LawSt ST (b j) (st j) s' F' l' p2 H2) (hp : H1 p2 = none) :
    Two ST b st (setf s j s') (setf F j F') (setf l j l') (setf pl j p2) H2 := by
  have bes : ∀ k, k < 2 → k ≠ j → SAt ST (b k) (st k) (s k) (l k).length (F k) H1 ∧ ∀ a, F k a → ¬ F' a := fun k hk hne => (T.one k hk).S.beside (T.one j hj).S M (T.dj k j hk hj hne)
  refine ⟨fun k hk => ?_, fun i k hi hk hne a => ?_, fun i k hi hk => ?_⟩
  · by_cases ek : k = j
    · subst ek
      rw [setf_same, setf_same, setf_same, setf_same]
      exact L
    · rw [setf_ne ek, setf_ne ek, setf_ne ek, setf_ne ek]
      have Lk := T.one k hk
      obtain ⟨ps, h1, h2⟩ := Lk.tl
      exact ⟨((bes k hk ek).1).mono e, Lk.fu, Lk.ok, Lk.nf, ps, e _ _ (M _ _ h1 (T.of j k hj hk)).1, (M.tups (T.one j hj).S h2).mono e⟩
  · by_cases ei : i = j
    · subst ei
      rw [setf_same, setf_ne (Ne.symm hne)]
      exact fun z y => (bes k hk (Ne.symm hne)).2 a y z
    · rw [setf_ne ei]
      by_cases ek : k = j
      · subst ek
        rw [setf_same]
        exact (bes i hi ei).2 a
      · rw [setf_ne ek]
        exact T.dj i k hi hk hne a
  · by_cases ek : k = j
    · subst ek
      rw [setf_same]
      by_cases ei : i = k
      · subst ei
        rw [setf_same]
        exact L.nf
      · rw [setf_ne ei]
        exact (bes i hi ei).1.free hp
    · rw [setf_ne ek]
      by_cases ei : i = j
      · subst ei
        rw [setf_same]
        obtain ⟨ps, h1, _⟩ := (T.one k hk).tl
        exact (M _ _ h1 (T.of i k hi hk)).2
      · rw [setf_ne ei]
        exact T.of i k hi hk
end
theorem e_lst2 {t1 t2 : TE} {σ : L2.St} {H : Hp} {Q : VK} (h : t1 σ H fun v H1 => t2 σ H1 fun w H2 => [v, w].length ≤ sizeLine ∧ ∀ p, H2 p = none → Q (.ref p) (L2.upd H2 p (.lst [v, w]))) : tLst (tCons t1 (tCons t2 tNil)) σ H Q := h
theorem LawSt.goneT {ST : Addr} {b : Nat} {st : Addr} {s : Sto Str} {F : Addr → Prop} {l : List (Nat × Str)} {pl : Addr} {H : Hp} (L : LawSt ST b st s F l pl H) {i : Nat} {x : Nat × Str} {s' : Sto Str} {t : Thing Str} {F' : Addr → Prop} {H1 H2 : Hp} (f : IsFirst l i x) (g : Goes b s s' t) (S : SAt ST b st s' (l.length - 1) F' H1) (e : Ex H1 H2) {p2 : Addr} {ps2 : List V}
    (hp : H1 p2 = none) (h3 : H2 p2 = some (.lst ps2)) (h4 : Tups H2 ps2 ((l.take i ++ l.drop (i + 1)).map nV)) : x = nn t ∧ s'.last = x.1 ∧ LawSt ST b st s' F' (l.take i ++ l.drop (i + 1)) p2 H2 := by
  obtain ⟨g1, g2, g3⟩ := full_goes L.S.hb L.fu g f
  refine ⟨g1, by rw [g2, g1] <;> rfl, ?_, g3, fun y hy => ?_, S.free hp, _, h3, h4⟩
  · have h4 := drop_len f.at_
    have e4 : l.length - 1 = (l.take i ++ l.drop (i + 1)).length := by omega
    rw [← e4]
    exact S.mono e
  · rcases List.mem_append.mp hy with hy | hy
    · exact L.ok y (List.mem_of_mem_take hy)
    · exact L.ok y (List.mem_of_mem_drop hy)
theorem LawSt.putT {ST : Addr} {b : Nat} {st : Addr} {s : Sto Str} {F : Addr → Prop} {l : List (Nat × Str)} {pl : Addr} {H : Hp} (L : LawSt ST b st s F l pl H) {n : Nat} {nm : Str} {F' : Addr → Prop} {H1 H2 : Hp} (h : s.last ≤ n) (hnm : PyData.strOk nm = true) (S : SAt ST b st (s.put b n nm) (l.length + 1) F' H1) (e : Ex H1 H2) {p2 : Addr} {ps2 : List V}
    (hp : H1 p2 = none) (h3 : H2 p2 = some (.lst ps2)) (h4 : Tups H2 ps2 ((l ++ [(n, nm)]).map nV)) : LawSt ST b st (s.put b n nm) F' (l ++ [(n, nm)]) p2 H2 := by
  refine ⟨?_, full_put L.fu nm h, fun x hx => ?_, S.free hp, _, h3, h4⟩
  · rw [List.length_append, List.length_singleton]
    exact S.mono e
  · rcases List.mem_append.mp hx with hx | hx
    · exact L.ok x hx
    · rw [List.mem_singleton.mp hx]
      exact hnm
end BF

/-! The store as one flat list of rows: put, fall, sort, pop. -/
namespace BF
open PySem L2 Evl
def RowsOf (L : List (Nat × Thing Str)) (s : Sto Str) : Prop := ∀ q, s.B q = (L.filter fun r => decide (r.1 = q)).map Prod.snd
def sortR (L : List (Nat × Thing Str)) : Nat → List (Nat × Thing Str)
  | 0 => []
  | k + 1 => sortR L k ++ L.filter fun r => decide (r.1 = k)
theorem rowsOf_rows {s : Sto Str} {R : List (Nat × Thing Str)} (h : IsRows s R) : RowsOf R s := by
  obtain ⟨M, hM, rfl⟩ := h.ex
  intro q
  have key : ∀ k, ((rowsTo s k).filter fun r => decide (r.1 = q)).map Prod.snd = if q < k then s.B q else [] := by
    intro k
    induction k with
    | zero => rw [if_neg (Nat.not_lt_zero _)] <;> rfl
    | succ k ih =>
      show ((rowsTo s k ++ (s.B k).map fun t => (k, t)).filter _).map _ = _
      rw [List.filter_append, List.map_append, ih, List.filter_map, List.map_map]
      by_cases e : k = q
      · subst e
        rw [if_neg (Nat.lt_irrefl _), if_pos (Nat.lt_succ_self _), List.nil_append]
        have h1 : (s.B k).filter ((fun r : Nat × Thing Str => decide (r.1 = k)) ∘ fun t => (k, t)) = s.B k := List.filter_eq_self.mpr fun t _ => decide_eq_true rfl
        rw [h1]
        conv => rhs; rw [← List.map_id (s.B k)]
        rfl
      · have h1 : (s.B k).filter ((fun r : Nat × Thing Str => decide (r.1 = q)) ∘ fun t => (k, t)) = [] := by
          rw [List.filter_eq_nil_iff]
          intro t _ z
          exact e (of_decide_eq_true z)
        rw [h1, List.map_nil, List.append_nil]
        by_cases h2 : q < k
        · rw [if_pos h2, if_pos (by omega)]
        · rw [if_neg h2, if_neg (by omega)]
  rw [key M]
  by_cases h : q < M
  · rw [if_pos h]
  · rw [if_neg h, hM _ (by omega)]
theorem pair_back (q : Nat) (R : List (Nat × Thing Str)) : ((R.filter fun r => decide (r.1 = q)).map Prod.snd).map (fun t => (q, t)) = R.filter fun r => decide (r.1 = q) := by
  rw [List.map_map]
  conv => rhs; rw [← List.map_id (R.filter fun r => decide (r.1 = q))]
  apply List.map_congr_left
  intro r hr
  have := of_decide_eq_true (List.mem_filter.mp hr).2
  show (q, r.2) = r
  rw [← this]
theorem sortR_rows {L : List (Nat × Thing Str)} {s : Sto Str} (h : RowsOf L s) : ∀ k, sortR L k = rowsTo s k
  | 0 => rfl
  | k + 1 => by
    show sortR L k ++ _ = rowsTo s k ++ (s.B k).map fun t => (k, t)
    rw [sortR_rows h k, h k, pair_back]
theorem sortR_is {L : List (Nat × Thing Str)} {s : Sto Str} (h : RowsOf L s) {M : Nat} (hM : ∀ r ∈ L, r.1 < M) : IsRows s (sortR L M) := by
  refine ⟨M, fun q hq => ?_, sortR_rows h M⟩
  rw [h q, List.map_eq_nil_iff, List.filter_eq_nil_iff]
  intro r hr z
  have := hM r hr
  have := of_decide_eq_true z
  omega
theorem rowsOf_put {b : Nat} {s : Sto Str} {R : List (Nat × Thing Str)} (h : RowsOf R s) (n : Nat) (nm : Str) : RowsOf (R ++ [(partAt b n s.last, ⟨n, nm, 0⟩)]) (s.put b n nm) := by
  intro q
  show (if q = partAt b n s.last then s.B q ++ [⟨n, nm, 0⟩] else s.B q) = _
  rw [List.filter_append, List.map_append, ← h q]
  by_cases e : q = partAt b n s.last
  · rw [if_pos e, List.filter_cons_of_pos (by simp [e])]
    rfl
  · rw [if_neg e, List.filter_cons_of_neg (by simp only [decide_eq_true_eq]; exact fun z => e z.symm)]
    exact (List.append_nil _).symm
def mvd (b p m : Nat) (R : List (Nat × Thing Str)) : List (Nat × Thing Str) := (R.filter fun r => decide (r.1 = p ∧ partAt b r.2.num m < p)).map fun r => (partAt b r.2.num m, r.2.inc)
def sty (b p m : Nat) (R : List (Nat × Thing Str)) : List (Nat × Thing Str) := R.filter fun r => !decide (r.1 = p ∧ partAt b r.2.num m < p)
theorem filt_snd (p : Nat) (f : Thing Str → Bool) (R : List (Nat × Thing Str)) : ((R.filter fun r => decide (r.1 = p)).map Prod.snd).filter f = (R.filter fun r => decide (r.1 = p) && f r.2).map Prod.snd := by
  rw [List.filter_map, List.filter_filter]
  congr 1
  apply List.filter_congr
  intro r _
  exact Bool.and_comm _ _
theorem rowsOf_fall {b p m : Nat} {s : Sto Str} {R : List (Nat × Thing Str)} (hb : 2 ≤ b) (ok : s.Ok b) (hp : Low s p) (hm : Least (s.B p) m) (h : RowsOf R s) : RowsOf (mvd b p m R ++ sty b p m R) (s.fallAt b p m) ∧ (mvd b p m R).length = ((s.B p).filter fun t => decide (partAt b t.num m < p)).length := by
  constructor
  · intro q
    show (if q < p then ((s.B p).filter fun t => decide (partAt b t.num m = q)).map Thing.inc else if q = p then (s.B p).filter fun t => decide (partAt b t.num m = p) else s.B q) = _
    rw [List.filter_append, List.map_append]
    have emv : ((mvd b p m R).filter fun r => decide (r.1 = q)).map Prod.snd = if q < p then ((s.B p).filter fun t => decide (partAt b t.num m = q)).map Thing.inc else [] := by
      unfold mvd
      rw [List.filter_map, List.map_map, List.filter_filter]
      by_cases hq : q < p
      · rw [if_pos hq, h p, filt_snd, List.map_map]
        have e1 : (R.filter fun r => ((fun r : Nat × Thing Str => decide (r.1 = q)) ∘ fun r => (partAt b r.2.num m, r.2.inc)) r && decide (r.1 = p ∧ partAt b r.2.num m < p)) = R.filter fun r => decide (r.1 = p) && decide (partAt b r.2.num m = q) := by
          apply List.filter_congr
          intro r _
          show (decide (partAt b r.2.num m = q) && decide (r.1 = p ∧ partAt b r.2.num m < p)) = _
          rw [Bool.eq_iff_iff]
          simp only [Bool.and_eq_true, decide_eq_true_eq]
          constructor
          · rintro ⟨a1, a2, a3⟩
            exact ⟨a2, a1⟩
          · rintro ⟨a1, a2⟩
            exact ⟨a2, a1, by omega⟩
        rw [e1]
        rfl
      · rw [if_neg hq]
        have e1 : (R.filter fun r => ((fun r : Nat × Thing Str => decide (r.1 = q)) ∘ fun r => (partAt b r.2.num m, r.2.inc)) r && decide (r.1 = p ∧ partAt b r.2.num m < p)) = [] := by
          rw [List.filter_eq_nil_iff]
          intro r _ z
          have z : (decide (partAt b r.2.num m = q) && decide (r.1 = p ∧ partAt b r.2.num m < p)) = true := z
          simp only [Bool.and_eq_true, decide_eq_true_eq] at z
          omega
        rw [e1]
        rfl
    rw [emv]
    unfold sty
    rw [List.filter_filter]
    by_cases hq : q < p
    · rw [if_pos hq, if_pos hq]
      have e1 : (R.filter fun r => decide (r.1 = q) && !decide (r.1 = p ∧ partAt b r.2.num m < p)) = [] := by
        rw [List.filter_eq_nil_iff]
        intro r hr z
        rw [Bool.and_eq_true] at z
        have h1 := of_decide_eq_true z.1
        have h2 := hp.em q hq
        rw [h q, List.map_eq_nil_iff, List.filter_eq_nil_iff] at h2
        exact h2 r hr (decide_eq_true h1)
      rw [e1]
      exact (List.append_nil _).symm
    · rw [if_neg hq, if_neg hq, List.nil_append]
      by_cases e : q = p
      · subst e
        rw [if_pos rfl]
        have h1 : ((s.B q).filter fun t => decide (partAt b t.num m = q)) = (s.B q).filter fun t => !decide (partAt b t.num m < q) := by
          apply List.filter_congr
          intro t ht
          have := part_in hb ok hm ht
          rw [Bool.eq_iff_iff]
          simp only [decide_eq_true_eq, Bool.not_eq_true', decide_eq_false_iff_not]
          omega
        rw [h1, h q, filt_snd]
        congr 1
        apply List.filter_congr
        intro r _
        rw [Bool.eq_iff_iff]
        simp only [Bool.and_eq_true, decide_eq_true_eq, Bool.not_eq_true', decide_eq_false_iff_not]
        constructor
        · rintro ⟨a1, a2⟩
          exact ⟨a1, fun z => a2 z.2⟩
        · rintro ⟨a1, a2⟩
          exact ⟨a1, fun z => a2 ⟨a1, z⟩⟩
      · rw [if_neg e, h q]
        congr 1
        apply List.filter_congr
        intro r _
        rw [Bool.eq_iff_iff]
        simp only [Bool.and_eq_true, decide_eq_true_eq, Bool.not_eq_true', decide_eq_false_iff_not]
        constructor
        · intro a1
          exact ⟨a1, fun z => e (a1.symm.trans z.1)⟩
        · exact fun z => z.1
  · unfold mvd
    rw [List.length_map, h p, filt_snd, List.length_map]
    congr 1
    apply List.filter_congr
    intro r _
    rw [Bool.eq_iff_iff]
    simp only [Bool.and_eq_true, decide_eq_true_eq]
theorem rows_fall0 (b m : Nat) (R : List (Nat × Thing Str)) : mvd b 0 m R = [] ∧ sty b 0 m R = R := by
  constructor
  · unfold mvd
    rw [List.map_eq_nil_iff, List.filter_eq_nil_iff]
    intro r _ z
    have := of_decide_eq_true z
    omega
  · exact List.filter_eq_self.mpr fun r _ => by simp
theorem rows_pop {s : Sto Str} {R : List (Nat × Thing Str)} (h : IsRows s R) {t : Thing Str} {r : List (Thing Str)} (hB : s.B 0 = t :: r) : ∃ R', R = (0, t) :: R' ∧ IsRows s.pop R' := by
  obtain ⟨M, hM, rfl⟩ := h.ex
  have key : ∀ k, rowsTo s (k + 1) = (0, t) :: rowsTo s.pop (k + 1) := by
    intro k
    induction k with
    | zero =>
      show [] ++ (s.B 0).map (fun t => (0, t)) = (0, t) :: ([] ++ (if (0 : Nat) = 0 then (s.B 0).tail else s.B 0).map fun t => (0, t))
      rw [if_pos rfl, hB]
      rfl
    | succ k ih =>
      show rowsTo s (k + 1) ++ (s.B (k + 1)).map (fun t => (k + 1, t)) = (0, t) :: (rowsTo s.pop (k + 1) ++ (if k + 1 = 0 then (s.B 0).tail else s.B (k + 1)).map fun t => (k + 1, t))
      rw [ih, if_neg (by omega)]
      rfl
  cases M with
  | zero =>
    rw [hM 0 (Nat.le_refl _)] at hB
    cases hB
  | succ k =>
    refine ⟨rowsTo s.pop (k + 1), key k, k + 1, fun q hq => ?_, rfl⟩
    show (if q = 0 then (s.B 0).tail else s.B q) = []
    rw [if_neg (by omega)]
    exact hM q hq
/-- what the law's fall tells of the store -/
structure Fell (b : Nat) (s : Sto Str) (R : List (Nat × Thing Str)) (p m : Nat) (s1 : Sto Str) : Prop where
  rows : RowsOf (mvd b p m R ++ sty b p m R) s1
  last : s1.last = m
  mv : s1.moves = s.moves + (mvd b p m R).length
  go : ∀ s' t, Goes b s s' t → (∃ r, s1.B 0 = t :: r) ∧ s' = s1.pop
theorem fell_ex {b : Nat} {s : Sto Str} {R : List (Nat × Thing Str)} {p m : Nat} (hb : 2 ≤ b) (ok : s.Ok b) (hR : IsRows s R) (hp : ∃ r ∈ R, r.1 = p) (hpl : ∀ r ∈ R, p ≤ r.1) (hm : ∃ r ∈ R, r.1 = p ∧ r.2.num = m) (hml : ∀ r ∈ R, r.1 = p → m ≤ r.2.num) : ∃ s1, Fell b s R p m s1 := by
  have lo : Low s p := by
    obtain ⟨r, hr, hrp⟩ := hp
    refine ⟨fun z => ?_, fun q hq => ?_⟩
    · have := (rows_mem hR).mp hr
      rw [hrp, z] at this
      cases this
    · cases e : s.B q with
      | nil => rfl
      | cons t l =>
        have h1 : ((q, t) : Nat × Thing Str) ∈ R := (rows_mem hR).mpr (by show t ∈ s.B q; rw [e]; exact List.mem_cons_self)
        have h2 : p ≤ q := hpl _ h1
        omega
  have le : Least (s.B p) m := by
    obtain ⟨r, hr, hrp, hrm⟩ := hm
    refine ⟨⟨r.2, ?_, hrm⟩, fun t ht => ?_⟩
    · have := (rows_mem hR).mp hr
      rw [hrp] at this
      exact this
    · exact hml (p, t) ((rows_mem hR).mpr ht) rfl
  by_cases h0 : p = 0
  · subst h0
    obtain ⟨f1, f2⟩ := rows_fall0 b m R
    refine ⟨s, ?_, ?_, ?_, fun s' t g => ?_⟩
    · rw [f1, f2]
      exact rowsOf_rows hR
    · obtain ⟨t, ht, rfl⟩ := le.mem
      exact (zero_num hb ok ht).symm
    · rw [f1]
      rfl
    · obtain ⟨q, hq, ⟨_, r, e, rfl⟩ | ⟨hq0, _⟩⟩ := g.ex
      · exact ⟨⟨r, e⟩, rfl⟩
      · have := hq.uniq lo
        omega
  · obtain ⟨f1, f2⟩ := rowsOf_fall hb ok lo le (rowsOf_rows hR)
    refine ⟨s.fallAt b p m, f1, rfl, ?_, fun s' t g => ?_⟩
    · rw [f2]
      rfl
    · obtain ⟨q, hq, ⟨hq0, _⟩ | ⟨hq0, m', r, hm', e, rfl⟩⟩ := g.ex
      · have := hq.uniq lo
        omega
      · have e1 := hq.uniq lo
        subst e1
        have e2 := hm'.uniq le
        subst e2
        exact ⟨⟨r, e⟩, rfl⟩
theorem sortR_mem {L : List (Nat × Thing Str)} {r : Nat × Thing Str} : ∀ {k : Nat}, r ∈ sortR L k → r ∈ L
  | 0, h => nomatch h
  | k + 1, h => by
    rcases List.mem_append.mp h with h | h
    · exact sortR_mem h
    · exact (List.mem_filter.mp h).1
theorem fell_mem {b p m : Nat} {R : List (Nat × Thing Str)} {r : Nat × Thing Str} (h : r ∈ mvd b p m R ++ sty b p m R) : ∃ r0 ∈ R, r.2.num = r0.2.num ∧ r.2.name = r0.2.name ∧ r.1 ≤ r0.1 := by
  rcases List.mem_append.mp h with h | h
  · obtain ⟨r0, h0, rfl⟩ := List.mem_map.mp h
    obtain ⟨h1, h2⟩ := List.mem_filter.mp h0
    have h3 := of_decide_eq_true h2
    exact ⟨r0, h1, rfl, rfl, by show partAt b r0.2.num m ≤ r0.1; omega⟩
  · exact ⟨r, (List.mem_filter.mp h).1, rfl, rfl, Nat.le_refl _⟩
theorem split_len {α : Type} (f : α → Bool) : ∀ R : List α, (R.filter f).length + (R.filter fun r => !f r).length = R.length
  | [] => rfl
  | r :: R => by
    have ih := split_len f R
    rw [List.filter_cons, List.filter_cons]
    cases h : f r
    · rw [if_neg (by decide), if_pos (by decide), List.length_cons, List.length_cons]
      omega
    · rw [if_pos rfl, if_neg (by decide), List.length_cons, List.length_cons]
      omega
theorem fell_len {b p m : Nat} {R : List (Nat × Thing Str)} : (mvd b p m R ++ sty b p m R).length = R.length := by
  unfold mvd sty
  rw [List.length_append, List.length_map]
  exact split_len _ R
theorem sortR_len (L : List (Nat × Thing Str)) : ∀ k, (sortR L k).length ≤ L.length := by
  have key : ∀ k, (sortR L k).length = (L.filter fun r => decide (r.1 < k)).length := by
    intro k
    induction k with
    | zero =>
      have : (L.filter fun r => decide (r.1 < 0)) = [] := by
        rw [List.filter_eq_nil_iff]
        intro r _ z
        exact absurd (of_decide_eq_true z) (Nat.not_lt_zero _)
      rw [this]
      rfl
    | succ k ih =>
      show (sortR L k ++ _).length = _
      rw [List.length_append, ih]
      clear ih
      induction L with
      | nil => rfl
      | cons r L ih =>
        rw [List.filter_cons, List.filter_cons, List.filter_cons]
        by_cases h1 : r.1 < k
        · rw [if_pos (decide_eq_true h1), if_neg (by simp only [decide_eq_true_eq]; omega), if_pos (decide_eq_true (by omega)), List.length_cons, List.length_cons]
          omega
        · by_cases h2 : r.1 = k
          · rw [if_neg (by simpa using h1), if_pos (decide_eq_true h2), if_pos (decide_eq_true (by omega)), List.length_cons, List.length_cons]
            omega
          · rw [if_neg (by simpa using h1), if_neg (by simpa using h2), if_neg (by simp only [decide_eq_true_eq]; omega)]
            exact ih
  intro k
  rw [key k]
  exact List.length_filter_le _ _
end BF

/-! Putting in order: one first least after the other; sorted lists with the same things of each number are one list. -/
namespace BF
open PySem L2 Evl
inductive Sel (num : Nat → Nat) : List Nat → List Nat → Prop
  | nil : Sel num [] []
  | cons {J r : List Nat} {i k : Nat} (h : J[i]? = some k) (f : ∀ (j k' : Nat), J[j]? = some k' → num k ≤ num k' ∧ (j < i → num k < num k')) (t : Sel num (J.take i ++ J.drop (i + 1)) r) : Sel num J (k :: r)
theorem split_at {α : Type} {J : List α} {i : Nat} {k : α} (h : J[i]? = some k) : J = J.take i ++ k :: J.drop (i + 1) := by
  obtain ⟨hi, e⟩ := List.getElem?_eq_some_iff.mp h
  rw [← e, List.getElem_cons_drop hi, List.take_append_drop]
theorem sel_sorted {num : Nat → Nat} {J r : List Nat} (h : Sel num J r) : (r.Pairwise fun a b => num a ≤ num b) ∧ ∀ n, r.filter (fun k => decide (num k = n)) = J.filter fun k => decide (num k = n) := by
  induction h with
  | nil => exact ⟨List.Pairwise.nil, fun _ => rfl⟩
  | @cons J r i k h f t ih =>
    obtain ⟨i1, i2⟩ := ih
    have e := split_at h
    refine ⟨List.pairwise_cons.mpr ⟨fun x hx => ?_, i1⟩, fun n => ?_⟩
    · have h1 : x ∈ r.filter fun k => decide (num k = num x) := List.mem_filter.mpr ⟨hx, decide_eq_true rfl⟩
      rw [i2] at h1
      have h2 := (List.mem_filter.mp h1).1
      have h3 : x ∈ J := by
        rw [e]
        rcases List.mem_append.mp h2 with z | z
        · exact List.mem_append_left _ z
        · exact List.mem_append_right _ (List.mem_cons_of_mem _ z)
      obtain ⟨j, hj⟩ := List.mem_iff_getElem?.mp h3
      exact (f j x hj).1
    · conv => rhs; rw [e]
      rw [List.filter_append]
      by_cases hn : num k = n
      · rw [List.filter_cons_of_pos (by simpa using hn), List.filter_cons_of_pos (by simpa using hn), i2 n, List.filter_append]
        have h1 : (J.take i).filter (fun k => decide (num k = n)) = [] := by
          rw [List.filter_eq_nil_iff]
          intro x hx z
          have z := of_decide_eq_true z
          obtain ⟨j, hj⟩ := List.mem_iff_getElem?.mp hx
          have hj2 : j < i := by
            have := (List.getElem?_eq_some_iff.mp hj).1
            rw [List.length_take] at this
            omega
          rw [List.getElem?_take_of_lt hj2] at hj
          have := (f j x hj).2 hj2
          omega
        rw [h1]
        rfl
      · rw [List.filter_cons_of_neg (by simpa using hn), List.filter_cons_of_neg (by simpa using hn), i2 n, List.filter_append]
theorem sel_mem {num : Nat → Nat} {J r : List Nat} (h : Sel num J r) {k : Nat} : k ∈ r ↔ k ∈ J := by
  have h1 := (sel_sorted h).2 (num k)
  constructor
  · intro z
    have : k ∈ r.filter fun x => decide (num x = num k) := List.mem_filter.mpr ⟨z, decide_eq_true rfl⟩
    rw [h1] at this
    exact (List.mem_filter.mp this).1
  · intro z
    have : k ∈ J.filter fun x => decide (num x = num k) := List.mem_filter.mpr ⟨z, decide_eq_true rfl⟩
    rw [← h1] at this
    exact (List.mem_filter.mp this).1
theorem sel_len {num : Nat → Nat} {J r : List Nat} (h : Sel num J r) : r.length = J.length := by
  induction h with
  | nil => rfl
  | @cons J r i k h f t ih =>
    have := (List.getElem?_eq_some_iff.mp h).1
    rw [List.length_cons, ih, List.length_append, List.length_take, List.length_drop]
    omega
/-- sorted, and of each number the same in the same order: the same -/
theorem sorted_uniq {β : Type} (f : β → Nat) : ∀ (A B : List β), (A.Pairwise fun a b => f a ≤ f b) → (B.Pairwise fun a b => f a ≤ f b) → (∀ n, A.filter (fun x => decide (f x = n)) = B.filter fun x => decide (f x = n)) → A = B
  | [], [], _, _, _ => rfl
  | [], b :: B, _, _, h => by
    have := h (f b)
    rw [List.filter_cons_of_pos (by simp)] at this
    cases this
  | a :: A, [], _, _, h => by
    have := h (f a)
    rw [List.filter_cons_of_pos (by simp)] at this
    cases this
  | a :: A, b :: B, ha, hb, h => by
    have h1 : f a = f b := by
      have ma : a ∈ (b :: B).filter fun x => decide (f x = f a) := by
        rw [← h (f a)]
        exact List.mem_filter.mpr ⟨List.mem_cons_self, decide_eq_true rfl⟩
      have mb : b ∈ (a :: A).filter fun x => decide (f x = f b) := by
        rw [h (f b)]
        exact List.mem_filter.mpr ⟨List.mem_cons_self, decide_eq_true rfl⟩
      have ma := (List.mem_filter.mp ma).1
      have mb := (List.mem_filter.mp mb).1
      rcases List.mem_cons.mp ma with z | z
      · rw [z]
      · rcases List.mem_cons.mp mb with y | y
        · rw [y]
        · have := (List.pairwise_cons.mp hb).1 a z
          have := (List.pairwise_cons.mp ha).1 b y
          omega
    have h2 := h (f a)
    rw [List.filter_cons_of_pos (by simp), List.filter_cons_of_pos (by simp [h1])] at h2
    injection h2 with h3 h4
    subst h3
    congr 1
    refine sorted_uniq f A B (List.pairwise_cons.mp ha).2 (List.pairwise_cons.mp hb).2 fun n => ?_
    have h5 := h n
    by_cases hn : f a = n
    · rw [List.filter_cons_of_pos (by simpa using hn), List.filter_cons_of_pos (by simpa using hn)] at h5
      injection h5
    · rw [List.filter_cons_of_neg (by simpa using hn), List.filter_cons_of_neg (by simpa using hn)] at h5
      exact h5
/-! ### numbers written and read back -/
def numStr (k : Nat) : Str := (toString (k : Int) : String)
theorem numStr_read : ∀ k : Fin 128, PySem.intText? (numStr k.val) = some (k.val : Int) ∧ (numStr k.val).length ≤ 640 := by decide +kernel
theorem numStr_ok (k : Nat) : PyData.strOk (numStr k) = true := ok_of _
section
variable {K : PySem.W.Frag} {σ : L2.St} {H : Hp} {ta : TE}
theorem ev_strN {k : Nat} (h : Ev ta σ H (.int (k : Int))) (hz : k < 1000) : Ev (tCB (fun xs H Q => ∃ i : Int, xs = [.int i] ∧ i.natAbs.log2 < 1920 ∧ Q (.str (toString i)) H) (tCons ta tNil)) σ H (.str (numStr k)) := fun H1 e Q q =>
  h H1 e _ fun H2 e2 => ⟨(k : Int), rfl, by
    rw [Int.natAbs_natCast]
    have : k.log2 ≤ 1000 := Nat.le_trans (Nat.log2_le_self k) (by omega)
    omega, q H2 e2⟩
theorem ev_intN {k : Nat} (h : Ev ta σ H (.str (numStr k))) (hk : k < 128) : Ev (tCB (fun xs H Q => ∃ a n, xs = [.str a] ∧ PySem.intText? a = some n ∧ a.length ≤ 640 ∧ Q (.int n) H) (tCons ta tNil)) σ H (.int (k : Int)) := fun H1 e Q q =>
  h H1 e _ fun H2 e2 => ⟨numStr k, (k : Int), rfl, (numStr_read ⟨k, hk⟩).1, (numStr_read ⟨k, hk⟩).2, q H2 e2⟩
/-- for i, x in enumerate(a list) -/
theorem q_forE {a : Addr} {xs : List V} {i j : Nat} {tu tz : TS} {D : Ends} (h : Ev ta σ H (.ref a)) (hx : SqL K H a xs) (Pv : Nat → L2.St → Hp → Prop) (h0 : ∀ H1, Ex H H1 → Pv 0 σ H1) (hl : ∀ i σ' H', i ≤ xs.length → Pv i σ' H' → SqL K H' a xs)
    (hs : ∀ k x σ' H' H2, xs[k]? = some x → Pv k σ' H' → Ex H' H2 → tu { D with nx := Pv (k + 1), ct := Pv (k + 1), bk := tz D } ((σ'.set i (some (.int (k : Int)))).set j (some x)) H2) (hd : ∀ σ' H', Pv xs.length σ' H' → tz D σ' H') :
    tSeq (tFor (iEnum K (tCons ta tNil)) (gTup K 2 (gCons (gName i) (gCons (gName j) gNil))) tu) tz D σ H :=
  h H (Ex.refl H) _ fun H1 e1 => ⟨a, xs, rfl, ex_l e1 hx, by
    refine ⟨fun i m σ H => m = xs.length - i ∧ i ≤ xs.length ∧ Pv i σ H, ⟨xs.length, by simp, Nat.zero_le _, h0 H1 e1⟩, ?_⟩
    rintro k m σ' H' ⟨rfl, hk, p⟩
    have q := hl k σ' H' hk p
    by_cases hlt : k < xs.length
    · refine .inr ⟨⟨xs, xs[k], q, by simp [hlt]⟩, Pv (k + 1), fun σ2 H2 p' => ⟨xs.length - (k + 1), by omega, rfl, hlt, p'⟩, fun x H2 y => ?_⟩
      obtain ⟨T, x, rfl, hT, rfl, hx⟩ := y
      exact g_tup2 upd_same (hs k x σ' H' _ (hx xs q) p (Ex.new hT))
    · have e : k = xs.length := by omega
      subst e
      exact .inl ⟨⟨xs, q, Nat.le_refl _⟩, hd σ' H' p⟩⟩
end
/-! ### what ordered tells -/
abbrev zi (x : Nat × Str) : Int × Str := ((x.1 : Int), x.2)
theorem ord_same {T D : List (Nat × Str)} {r : List Nat} (h : Sel (fun k => (((T.map zi).getD k ((0 : Int), (Str.ofString ""))).1).toNat) (List.range (T.map zi).length) r) (hs : D.Pairwise fun a b => a.1 ≤ b.1) (hf : ∀ n, D.filter (fun x => decide (x.1 = n)) = T.filter fun x => decide (x.1 = n)) (d : Nat × Str) :
    r.map (fun k => T.getD k d) = D ∧ ∀ k ∈ r, k < T.length := by
  have hk : ∀ k ∈ r, k < T.length := fun k hk => by
    have := List.mem_range.mp ((sel_mem h).mp hk)
    rw [List.length_map] at this
    exact this
  have hn : ∀ k, k < T.length → (((T.map zi).getD k ((0 : Int), (Str.ofString ""))).1).toNat = (T.getD k d).1 := fun k hk => by
    rw [List.getD_eq_getElem?_getD, List.getElem?_map, List.getElem?_eq_getElem hk, List.getD_eq_getElem?_getD, List.getElem?_eq_getElem hk]
    rfl
  obtain ⟨s1, s2⟩ := sel_sorted h
  refine ⟨sorted_uniq Prod.fst _ _ ?_ hs fun n => ?_, hk⟩
  · rw [List.pairwise_map]
    refine s1.imp_of_mem fun {a b} ha hb hab => ?_
    rw [hn a (hk a ha), hn b (hk b hb)] at hab
    exact hab
  · rw [hf n, List.filter_map]
    have e1 : r.filter ((fun x : Nat × Str => decide (x.1 = n)) ∘ fun k => T.getD k d) = r.filter fun k => decide ((((T.map zi).getD k ((0 : Int), (Str.ofString ""))).1).toNat = n) := by
      apply List.filter_congr
      intro k hm
      show decide ((T.getD k d).1 = n) = _
      rw [hn k (hk k hm)]
    have e2 : T = (List.range T.length).map fun k => T.getD k d := by
      apply List.ext_getElem?
      intro i
      rw [List.getElem?_map]
      by_cases hi : i < T.length
      · rw [List.getElem?_range hi, List.getElem?_eq_getElem hi, Option.map_some, List.getD_eq_getElem?_getD, List.getElem?_eq_getElem hi]
        rfl
      · rw [List.getElem?_eq_none (by omega), List.getElem?_eq_none (by rw [List.length_range]; omega)]
        rfl
    rw [e1, s2 n]
    conv => rhs; rw [e2]
    rw [List.filter_map, List.length_map]
    congr 1
    apply List.filter_congr
    intro k hm
    show _ = decide ((T.getD k d).1 = n)
    rw [hn k (List.mem_range.mp hm)]
theorem tups_pick {H : Hp} {ps : List V} {T : List (Nat × Str)} (h : Tups H ps (T.map nV)) (d : Nat × Str) : ∀ {r : List Nat}, (∀ k ∈ r, k < T.length) → Tups H (r.map fun k => ps.getD k .non) ((r.map fun k => T.getD k d).map nV)
  | [], _ => True.intro
  | k :: r, hk => by
    have hkl := hk k List.mem_cons_self
    obtain ⟨p, h1, h2⟩ := tups_get h (i := k) (xs := nV (T.getD k d)) (by rw [List.getElem?_map, List.getElem?_eq_getElem hkl, List.getD_eq_getElem?_getD, List.getElem?_eq_getElem hkl] <;> rfl)
    refine ⟨⟨p, ?_, h2⟩, tups_pick h d fun x hx => hk x (List.mem_cons_of_mem _ hx)⟩
    show ps.getD k .non = _
    rw [List.getD_eq_getElem?_getD, h1]
    rfl
end BF

/-! Dicts with text keys: read, asked, written, walked. -/
namespace BF
open PySem L2 Evl
section
variable {K : PySem.W.Frag} {σ : L2.St} {H : Hp} {td ty te : TE} {tu tz : TS} {D : Ends} {d : Addr} {kvs : List (Key × V)} {x : Str} {v : V}
theorem ev_dgetS (hd : Ev td σ H (.ref d)) (hk : Ev ty σ H (.str x)) (h : Rd H d (.dK kvs)) (hv : valV kvs (Sum.inr x : Key) = some v) : Ev (tDGet td ty) σ H v := fun H1 e Q k =>
  hd H1 e _ fun H2 e2 => hk H2 (e.trans e2) _ fun H3 e3 => ⟨d, v, rfl, Or.inl ⟨kvs, Sum.inr x, ex_rd ((e.trans e2).trans e3) h, rfl, hv.symm⟩, k H3 (e2.trans e3)⟩
theorem ev_dnotin (hk : Ev ty σ H (.str x)) (hd : Ev td σ H (.ref d)) (h : Rd H d (.dK kvs)) : Ev (tDNotIn ty td) σ H (.bl (!(valV kvs (Sum.inr x : Key)).isSome)) := fun H1 e Q k =>
  hk H1 e _ fun H2 e2 => hd H2 (e.trans e2) _ fun H3 e3 => ⟨d, valV kvs (Sum.inr x : Key), rfl, Or.inl ⟨kvs, Sum.inr x, ex_rd ((e.trans e2).trans e3) h, rfl, rfl⟩, k H3 (e2.trans e3)⟩
theorem s_dput (h : H d = some (.dK kvs)) (hv : Ev te σ H v) (hd : Ev td σ H (.ref d)) (hk : Ev ty σ H (.str x)) (hz : kvs.length < 100000) (k : ∀ H1, Ex H H1 → D.nx σ (upd H1 d (.dK (putK kvs (Sum.inr x : Key) v)))) : tAsg te (gSub td ty rSetD) D σ H :=
  hv H (Ex.refl H) _ fun H1 e1 => hd H1 e1 _ fun H2 e2 => hk H2 (e1.trans e2) _ fun H3 e3 => ⟨d, _, rfl, DPut.k (k := Sum.inr x) (((e1.trans e2).trans e3) _ _ h) (sz_lt hz), k H3 ((e1.trans e2).trans e3)⟩
theorem s_dputU {xs : List V} (h : H d = some (.dK kvs)) (hv : EvU te σ H xs) (hd : ∀ H1, Ex H H1 → Ev td σ H1 (.ref d)) (hk : ∀ H1, Ex H H1 → Ev ty σ H1 (.str x)) (hz : kvs.length < 100000) (k : ∀ t H1, H t = none → Ex H H1 → H1 t = some (.tup xs) → D.nx σ (upd H1 d (.dK (putK kvs (Sum.inr x : Key) (.ref t))))) : tAsg te (gSub td ty rSetD) D σ H :=
  hv H (Ex.refl H) _ fun t H1 ht e1 h1 => hd H1 e1 H1 (Ex.refl H1) _ fun H2 e2 => hk H2 (e1.trans e2) H2 (Ex.refl H2) _ fun H3 e3 => ⟨d, _, rfl, DPut.k (k := Sum.inr x) (((e1.trans e2).trans e3) _ _ h) (sz_lt hz), k t H3 ht ((e1.trans e2).trans e3) (e3 _ _ (e2 _ _ h1))⟩
theorem ev_lenD (hd : Ev td σ H (.ref d)) (h : H d = some (.dK kvs)) : Ev (tCB (fun xs H Q => ∃ a kvs, xs = [V.ref a] ∧ H a = some (.dK kvs) ∧ Q (.int kvs.length) H) (tCons td tNil)) σ H (.int (kvs.length : Int)) := fun H1 e Q q =>
  hd H1 e _ fun H2 e2 => ⟨d, kvs, rfl, e2 _ _ (e _ _ h), q H2 e2⟩
/-- the heap while d is walked -/
def Lk (H : Hp) (d : Addr) (kvs : List (Key × V)) (H0 : Hp) : Prop := ∃ od, H0 = upd H d (.frz od (.dK kvs))
theorem Lk.tup {H0 : Hp} (l : Lk H d kvs H0) (h : H d = some (.dK kvs)) {t : Addr} {xs : List V} (ht : H t = some (.tup xs)) : H0 t = some (.tup xs) := by
  obtain ⟨od, rfl⟩ := l
  rw [upd_ne (ne_of ht h (by intro z; cases z))]
  exact ht
theorem Lk.rd {H0 : Hp} (l : Lk H d kvs H0) (h : H d = some (.dK kvs)) {b : Addr} {ks : List (Key × V)} (hb : H b = some (.dK ks)) : Rd H0 b (.dK ks) := by
  obtain ⟨od, rfl⟩ := l
  by_cases e : b = d
  · subst e
    rw [h] at hb
    cases hb
    exact Or.inr ⟨od, upd_same⟩
  · refine Or.inl ?_
    rw [upd_ne e]
    exact hb
theorem q_forKeys {j : Nat} (h : H d = some (.dK kvs)) (hd : ∀ H1, Ev td σ H1 (.ref d)) (Pv : Nat → L2.St → Prop) (h0 : Pv 0 σ)
    (hs : ∀ (De : Ends) (H0 : Hp) (i : Nat) (k : Key) (v : V) σ' H', kvs[i]? = some (k, v) → Pv i σ' → Lk H d kvs H0 → Ex H0 H' → (∀ σ2 H2, Pv (i + 1) σ2 → Ex H0 H2 → De.nx σ2 H2) → tu De (σ'.set j (some (kV k))) H')
    (hz : ∀ σ' H', Pv kvs.length σ' → Ex H H' → tz D σ' H') : tSeq (tLock (tFor (iKeys td) (gName j) tu)) tz D σ H := by
  refine ⟨d, .dK kvs, h, trivial, fun od => ?_⟩
  refine hd (upd H d (.frz od (.dK kvs))) _ (Ex.refl _) _ fun H1 e1 => ⟨d, od, rfl, Or.inl ⟨kvs, e1 _ _ upd_same, ?_⟩⟩
  refine for_it walk_keys (fun i σ' H' => Pv i σ' ∧ Ex (upd H d (.frz od (.dK kvs))) H') ⟨h0, e1⟩ (fun i σ' H' _ p => p.2 _ _ upd_same) (fun i x σ' H' H2 hi p y => ?_) (fun σ' H' p => ⟨p.2 _ _ upd_same, hz σ' _ p.1 fun a o ha => ?_⟩)
  · obtain ⟨rfl, k, v, hk, rfl⟩ := y
    exact hs _ _ i k v σ' H2 hk p.1 ⟨od, rfl⟩ p.2 fun σ2 H3 q1 q2 => ⟨q1, q2⟩
  · by_cases e : a = d
    · subst e
      rw [h] at ha
      cases ha
      exact upd_same
    · rw [upd_ne e]
      refine p.2 _ _ ?_
      rw [upd_ne e]
      exact ha
end
/-! ### from names to places and counts -/
abbrev Row := Nat × Thing Str
def pcV (r : Row) : List V := [.int (r.1 : Int), .int (r.2.cnt : Int)]
def PlL (H : Hp) : List (Key × V) → List Row → Prop
  | [], [] => True
  | e :: ks, r :: R => (∃ t, e = (Sum.inr r.2.name, .ref t) ∧ H t = some (.tup (pcV r))) ∧ PlL H ks R
  | _, _ => False
def plf (R : List Row) (x : Str) : Option Row := R.find? fun r => decide (r.2.name = x)
theorem pl_keep {H H' : Hp} (k : ∀ a xs, H a = some (.tup xs) → H' a = some (.tup xs)) : ∀ {ks : List (Key × V)} {R : List Row}, PlL H ks R → PlL H' ks R
  | [], [], _ => True.intro
  | _ :: _, _ :: _, ⟨⟨t, e, h⟩, r⟩ => ⟨⟨t, e, k _ _ h⟩, pl_keep k r⟩
  | [], _ :: _, h => h.elim
  | _ :: _, [], h => h.elim
theorem pl_len {H : Hp} : ∀ {ks : List (Key × V)} {R : List Row}, PlL H ks R → ks.length = R.length
  | [], [], _ => rfl
  | _ :: _, _ :: _, ⟨_, r⟩ => by rw [List.length_cons, List.length_cons, pl_len r]
  | [], _ :: _, h => h.elim
  | _ :: _, [], h => h.elim
theorem pl_snoc {H : Hp} {r : Row} {t : Addr} (ht : H t = some (.tup (pcV r))) : ∀ {ks : List (Key × V)} {R : List Row}, PlL H ks R → PlL H (ks ++ [(Sum.inr r.2.name, .ref t)]) (R ++ [r])
  | [], [], _ => ⟨⟨t, rfl, ht⟩, True.intro⟩
  | _ :: _, _ :: _, ⟨e, r⟩ => ⟨e, pl_snoc ht r⟩
  | [], _ :: _, h => h.elim
  | _ :: _, [], h => h.elim
theorem pl_get {H : Hp} : ∀ {ks : List (Key × V)} {R : List Row} {i : Nat} {k : Key} {v : V}, PlL H ks R → ks[i]? = some (k, v) → ∃ r, R[i]? = some r ∧ k = Sum.inr r.2.name
  | [], _, _, _, _, _, h => by simp at h
  | _ :: _, [], _, _, _, h, _ => h.elim
  | e :: ks, r :: R, 0, k, v, ⟨⟨t, e1, _⟩, _⟩, h => by
    have : e = (k, v) := by simpa using h
    rw [e1] at this
    cases this
    exact ⟨r, rfl, rfl⟩
  | _ :: _, _ :: _, i + 1, _, _, ⟨_, p⟩, h => by
    obtain ⟨r, h1, h2⟩ := pl_get (i := i) p (by simpa using h)
    exact ⟨r, by simpa using h1, h2⟩
theorem pl_val {H : Hp} (x : Str) : ∀ {ks : List (Key × V)} {R : List Row}, PlL H ks R → (plf R x = none → valV ks (Sum.inr x : Key) = none) ∧ ∀ r, plf R x = some r → ∃ t, valV ks (Sum.inr x : Key) = some (.ref t) ∧ H t = some (.tup (pcV r))
  | [], [], _ => ⟨fun _ => rfl, fun _ h => nomatch h⟩
  | e :: ks, r :: R, ⟨⟨t, e1, ht⟩, p⟩ => by
    subst e1
    obtain ⟨h1, h2⟩ := pl_val x p
    unfold plf
    rw [List.find?_cons]
    by_cases hx : r.2.name = x
    · have hk : ((Sum.inr r.2.name : Key), V.ref t).1 = (Sum.inr x : Key) := congrArg Sum.inr hx
      rw [decide_eq_true hx]
      refine ⟨(fun z => nomatch z), fun r' hr => ?_⟩
      cases hr
      exact ⟨t, valV_pos hk, ht⟩
    · have hk : ¬ ((Sum.inr r.2.name : Key), V.ref t).1 = (Sum.inr x : Key) := fun z => hx (Sum.inr.inj z)
      rw [decide_eq_false hx, valV_neg hk]
      exact ⟨h1, h2⟩
  | [], _ :: _, h => h.elim
  | _ :: _, [], h => h.elim
theorem plf_mem : ∀ {R : List Row} {r : Row}, (R.map fun r => r.2.name).Nodup → r ∈ R → plf R r.2.name = some r
  | [], _, _, h => nomatch h
  | q :: R, r, hn, h => by
    unfold plf
    rw [List.find?_cons]
    rw [List.map_cons, List.nodup_cons] at hn
    by_cases e : q.2.name = r.2.name
    · rw [decide_eq_true e]
      rcases List.mem_cons.mp h with z | z
      · rw [z]
      · exact absurd (e ▸ List.mem_map_of_mem (f := fun r : Row => r.2.name) z) hn.1
    · rw [decide_eq_false e]
      rcases List.mem_cons.mp h with z | z
      · exact absurd (by rw [z]) e
      · exact plf_mem hn.2 z
theorem plf_none {R : List Row} {x : Str} : plf R x = none ↔ ∀ r ∈ R, r.2.name ≠ x := by
  unfold plf
  rw [List.find?_eq_none]
  constructor
  · intro h r hr z
    exact h r hr (decide_eq_true z)
  · intro h r hr z
    exact h r hr (of_decide_eq_true z)
def PlAt (H : Hp) (d : Addr) (R : List Row) : Prop := ∃ ks, H d = some (.dK ks) ∧ PlL H ks R
theorem PlAt.mono {H H' : Hp} {d : Addr} {R : List Row} (h : PlAt H d R) (e : Ex H H') : PlAt H' d R := by
  obtain ⟨ks, h1, h2⟩ := h
  exact ⟨ks, e _ _ h1, pl_keep (fun a xs z => e _ _ z) h2⟩
def CmAt (H : Hp) (d : Addr) (f : Str → Option Nat) : Prop := ∃ ks : List (Key × V), H d = some (.dK ks) ∧ ∀ x, valV ks (Sum.inr x : Key) = (f x).map fun (n : Nat) => V.int (n : Int)
theorem CmAt.mono {H H' : Hp} {d : Addr} {f : Str → Option Nat} (h : CmAt H d f) (e : Ex H H') : CmAt H' d f := by
  obtain ⟨ks, h1, h2⟩ := h
  exact ⟨ks, e _ _ h1, h2⟩
/-- how many have moved from one telling to the next -/
def movedB (bR : List Row) (r : Row) : Bool := match plf bR r.2.name with
  | none => false
  | some q => !decide (q.1 = r.1 ∧ q.2.cnt = r.2.cnt)
def movedN (bR aR : List Row) : Nat := (aR.filter (movedB bR)).length
theorem eqv_pc (a b c d : Nat) : PyData.eqv (tD [V.int (a : Int), V.int (b : Int)]) (tD [V.int (c : Int), V.int (d : Int)]) = decide (a = c ∧ b = d) := by
  by_cases h1 : a = c <;> by_cases h2 : b = d <;> simp [pD, PyData.eqv, PyData.eqvAll, h1, h2] <;> omega
/-! ### names, moved rows: put and go -/
theorem filter_two {α : Type} (f g h : α → Bool) (L : List α) (hf : ∀ x, f x = (g x || h x)) (hgh : ∀ x, g x = true → h x = false) : (L.filter g ++ L.filter h).Perm (L.filter f) := by
  induction L with
  | nil => exact List.Perm.nil
  | cons x L ih =>
    rw [List.filter_cons, List.filter_cons, List.filter_cons, hf x]
    cases hg : g x
    · cases hh : h x
      · exact ih
      · exact List.perm_middle.trans (ih.cons x)
    · rw [hgh x hg]
      exact ih.cons x
theorem sortR_perm {L : List Row} : ∀ k, (sortR L k).Perm (L.filter fun r => decide (r.1 < k))
  | 0 => by
    have : (L.filter fun r => decide (r.1 < 0)) = [] := by
      rw [List.filter_eq_nil_iff]
      intro r _ z
      exact absurd (of_decide_eq_true z) (Nat.not_lt_zero _)
    rw [this]
    exact List.Perm.nil
  | k + 1 => by
    refine ((sortR_perm k).append_right _).trans (filter_two _ _ _ L (fun x => ?_) fun x hx => ?_)
    · rw [Bool.eq_iff_iff]
      simp only [Bool.or_eq_true, decide_eq_true_eq]
      omega
    · have := of_decide_eq_true hx
      exact decide_eq_false (by omega)
theorem sortR_all {L : List Row} {M : Nat} (h : ∀ r ∈ L, r.1 < M) : (sortR L M).Perm L := by
  have h1 := sortR_perm (L := L) M
  rw [List.filter_eq_self.mpr fun r hr => decide_eq_true (h r hr)] at h1
  exact h1
theorem fell_names {b p m : Nat} {R : List Row} : ((mvd b p m R ++ sty b p m R).map fun r => r.2.name).Perm (R.map fun r => r.2.name) := by
  have h1 := (filter_two (fun _ => true) (fun r : Row => decide (r.1 = p ∧ partAt b r.2.num m < p)) (fun r : Row => !decide (r.1 = p ∧ partAt b r.2.num m < p)) R (fun x => by cases decide (x.1 = p ∧ partAt b x.2.num m < p) <;> rfl) (fun x hx => by rw [hx]; rfl)).map fun r => r.2.name
  rw [List.filter_eq_self.mpr fun _ _ => rfl, List.map_append] at h1
  rw [List.map_append]
  refine List.Perm.trans (List.Perm.of_eq ?_) h1
  congr 1
  unfold mvd
  rw [List.map_map]
  rfl
/-- rows that stay are the same row; rows that move lie lower and count one more -/
theorem fell_step {b p m : Nat} {R : List Row} (hn : (R.map fun r => r.2.name).Nodup) {r : Row} (h : r ∈ mvd b p m R ++ sty b p m R) : ∃ q ∈ R, q.2.name = r.2.name ∧ plf R r.2.name = some q ∧ ((movedB R r = false ∧ q = r) ∨ (movedB R r = true ∧ r.1 < q.1 ∧ r.2.cnt = q.2.cnt + 1 ∧ q.1 = p)) := by
  rcases List.mem_append.mp h with h | h
  · obtain ⟨q, h0, rfl⟩ := List.mem_map.mp h
    obtain ⟨h1, h2⟩ := List.mem_filter.mp h0
    have h3 := of_decide_eq_true h2
    have h4 : plf R q.2.name = some q := plf_mem hn h1
    refine ⟨q, h1, rfl, h4, Or.inr ⟨?_, by show partAt b q.2.num m < q.1; omega, rfl, h3.1⟩⟩
    show (match plf R q.2.name with | none => false | some q' => !decide (q'.1 = partAt b q.2.num m ∧ q'.2.cnt = q.2.cnt + 1)) = true
    rw [h4]
    show (!decide (q.1 = partAt b q.2.num m ∧ q.2.cnt = q.2.cnt + 1)) = true
    rw [decide_eq_false (by omega)]
    rfl
  · have h1 := (List.mem_filter.mp h).1
    have h4 : plf R r.2.name = some r := plf_mem hn h1
    refine ⟨r, h1, rfl, h4, Or.inl ⟨?_, rfl⟩⟩
    unfold movedB
    rw [h4]
    show (!decide (r.1 = r.1 ∧ r.2.cnt = r.2.cnt)) = false
    rw [decide_eq_true ⟨rfl, rfl⟩]
    rfl
theorem fell_count {b p m : Nat} {R : List Row} (hn : (R.map fun r => r.2.name).Nodup) : ((mvd b p m R ++ sty b p m R).filter (movedB R)).length = (mvd b p m R).length := by
  rw [List.filter_append, List.length_append]
  have h1 : (mvd b p m R).filter (movedB R) = mvd b p m R := List.filter_eq_self.mpr fun r hr => by
    obtain ⟨q, h0, rfl⟩ := List.mem_map.mp hr
    obtain ⟨h1, h2⟩ := List.mem_filter.mp h0
    have h3 := of_decide_eq_true h2
    have h4 : plf R q.2.name = some q := plf_mem hn h1
    show (match plf R q.2.name with | none => false | some q' => !decide (q'.1 = partAt b q.2.num m ∧ q'.2.cnt = q.2.cnt + 1)) = true
    rw [h4]
    show (!decide (q.1 = partAt b q.2.num m ∧ q.2.cnt = q.2.cnt + 1)) = true
    rw [decide_eq_false (by omega)]
    rfl
  have h2 : (sty b p m R).filter (movedB R) = [] := by
    rw [List.filter_eq_nil_iff]
    intro r hr z
    have h1 := (List.mem_filter.mp hr).1
    have h4 : plf R r.2.name = some r := plf_mem hn h1
    unfold movedB at z
    rw [h4] at z
    have z : (!decide (r.1 = r.1 ∧ r.2.cnt = r.2.cnt)) = true := z
    rw [decide_eq_true ⟨rfl, rfl⟩] at z
    cases z
  rw [h1, h2]
  rfl
theorem put_rows {b : Nat} {s : Sto Str} {R : List Row} (h : IsRows s R) (n : Nat) (nm : Str) : ∃ R', IsRows (s.put b n nm) R' ∧ R'.Perm (R ++ [(partAt b n s.last, ⟨n, nm, 0⟩)]) := by
  have h1 := rowsOf_put (b := b) (rowsOf_rows h) n nm
  have hM : ∀ r ∈ R ++ [(partAt b n s.last, (⟨n, nm, 0⟩ : Thing Str))], r.1 < maxN ((R ++ [(partAt b n s.last, (⟨n, nm, 0⟩ : Thing Str))]).map Prod.fst) + 1 := fun r hr => by
    have := le_maxN (List.mem_map_of_mem (f := Prod.fst) hr)
    omega
  exact ⟨_, sortR_is h1 hM, sortR_all hM⟩
theorem least_natD : ∀ {l : List Nat}, l ≠ [] → ∃ m ∈ l, ∀ n ∈ l, m ≤ n
  | [], h => absurd rfl h
  | [n], _ => ⟨n, List.mem_cons_self, fun k hk => by
    have : k = n := by simpa using hk
    omega⟩
  | n :: k :: r, _ => by
    obtain ⟨m, hm, hle⟩ := least_natD (l := k :: r) (List.cons_ne_nil _ _)
    by_cases h : n ≤ m
    · exact ⟨n, List.mem_cons_self, fun x hx => by
        rcases List.mem_cons.mp hx with z | z
        · omega
        · have := hle x z
          omega⟩
    · exact ⟨m, List.mem_cons_of_mem _ hm, fun x hx => by
        rcases List.mem_cons.mp hx with z | z
        · omega
        · exact hle x z⟩
theorem go_rows {b : Nat} {s s' : Sto Str} {t : Thing Str} {R : List Row} (hb : 2 ≤ b) (ok : s.Ok b) (hR : IsRows s R) (hne : R ≠ []) (hn : (R.map fun r => r.2.name).Nodup) (g : Goes b s s' t) :
    ∃ R' q, IsRows s' R' ∧ plf R t.name = some q ∧ q ∈ R ∧ t.cnt = q.2.cnt + (if 0 < q.1 then 1 else 0) ∧ (R'.map fun r => r.2.name).Nodup ∧ (∀ r ∈ R', ∃ q' ∈ R, q'.2.name = r.2.name ∧ plf R r.2.name = some q' ∧ (q' = r ∨ (r.1 < q'.1 ∧ r.2.cnt = q'.2.cnt + 1))) ∧ s'.moves = s.moves + movedN R R' + (if 0 < q.1 then 1 else 0) := by
  obtain ⟨p, hp, hple⟩ := least_natD (l := R.map Prod.fst) fun z => hne (List.map_eq_nil_iff.mp z)
  have hpR : ∃ r ∈ R, r.1 = p := by
    obtain ⟨r, hr, e⟩ := List.mem_map.mp hp
    exact ⟨r, hr, e⟩
  have hplR : ∀ r ∈ R, p ≤ r.1 := fun r hr => hple r.1 (List.mem_map_of_mem hr)
  obtain ⟨m, hm, hmle⟩ := least_natD (l := (R.filter fun r => decide (r.1 = p)).map fun r => r.2.num) (by
    obtain ⟨r, hr, e⟩ := hpR
    intro z
    rw [List.map_eq_nil_iff, List.filter_eq_nil_iff] at z
    exact z r hr (decide_eq_true e))
  have hmR : ∃ r ∈ R, r.1 = p ∧ r.2.num = m := by
    obtain ⟨r, hr, e⟩ := List.mem_map.mp hm
    obtain ⟨h1, h2⟩ := List.mem_filter.mp hr
    exact ⟨r, h1, of_decide_eq_true h2, e⟩
  have hmlR : ∀ r ∈ R, r.1 = p → m ≤ r.2.num := fun r hr e => hmle r.2.num (List.mem_map_of_mem (f := fun r : Nat × Thing Str => r.2.num) (List.mem_filter.mpr ⟨hr, decide_eq_true e⟩))
  obtain ⟨s1, fe⟩ := fell_ex hb ok hR hpR hplR hmR hmlR
  obtain ⟨⟨r0, hB⟩, hs⟩ := fe.go s' t g
  have hM : ∀ r ∈ mvd b p m R ++ sty b p m R, r.1 < maxN ((mvd b p m R ++ sty b p m R).map Prod.fst) + 1 := fun r hr => by
    have := le_maxN (List.mem_map_of_mem (f := Prod.fst) hr)
    omega
  have hR1 := sortR_is fe.rows hM
  have hP := sortR_all hM
  generalize sortR (mvd b p m R ++ sty b p m R) (maxN ((mvd b p m R ++ sty b p m R).map Prod.fst) + 1) = R1 at hR1 hP
  obtain ⟨R', e1, hR'⟩ := rows_pop hR1 hB
  subst e1
  rw [← hs] at hR'
  have hnames : (((0, t) :: R').map fun r : Row => r.2.name).Nodup := ((hP.map fun r => r.2.name).trans fell_names).nodup_iff.mpr hn
  obtain ⟨q, hq, hqn, hqf, hqc⟩ := fell_step hn (hP.mem_iff.mp (List.mem_cons_self (a := (0, t)) (l := R')))
  have hcnt := fell_count (b := b) (p := p) (m := m) hn
  rw [← (hP.filter (movedB R)).length_eq, List.filter_cons] at hcnt
  have hmov : s'.moves = s.moves + (mvd b p m R).length := by rw [hs, ← fe.mv]; rfl
  refine ⟨R', q, hR', hqf, hq, ?_, (List.nodup_cons.mp (by rw [List.map_cons] at hnames; exact hnames)).2, fun r hr => ?_, ?_⟩
  · rcases hqc with ⟨_, z⟩ | ⟨_, z1, z2, _⟩
    · rw [z, if_neg (Nat.lt_irrefl 0)]
      rfl
    · have z1 : 0 < q.1 := z1
      rw [if_pos z1]
      exact z2
  · obtain ⟨q', h1, h2, h3, h4⟩ := fell_step hn (hP.mem_iff.mp (List.mem_cons_of_mem _ hr))
    refine ⟨q', h1, h2, h3, ?_⟩
    rcases h4 with ⟨_, z⟩ | ⟨_, z1, z2, _⟩
    · exact Or.inl z
    · exact Or.inr ⟨z1, z2⟩
  · rw [hmov, ← hcnt]
    rcases hqc with ⟨z0, z⟩ | ⟨z0, z1, z2, _⟩
    · rw [z0, if_neg Bool.false_ne_true, z, if_neg (Nat.lt_irrefl 0)]
      rfl
    · have z1 : 0 < q.1 := z1
      rw [z0, if_pos rfl, List.length_cons, if_pos z1]
      show s.moves + ((R'.filter (movedB R)).length + 1) = s.moves + (R'.filter (movedB R)).length + 1
      omega
theorem numStr_inj {j k : Nat} (hj : j < 128) (hk : k < 128) (h : numStr j = numStr k) : j = k := by
  have h1 := (numStr_read ⟨j, hj⟩).1
  have h2 := (numStr_read ⟨k, hk⟩).1
  have h1 : PySem.intText? (numStr j) = some (j : Int) := h1
  have h2 : PySem.intText? (numStr k) = some (k : Int) := h2
  rw [h, h2] at h1
  injection h1 with h1
  omega
end BF

namespace BF
open PySem L2 Evl
/-! ### the text by places -/
def topS (i : Nat) : Stmt := PySem.Challenge.pw_bucketfall_k11_whole_moves_counted.main.body.getD i (.Pass ⟨0, 0, 0, 0⟩)
abbrev s_check_base : Stmt := topS 9
theorem sc_check_base : FnScope ["base"] ["base"] (defScope s_check_base) := ⟨rfl, rfl, rfl, by decide +kernel, rfl, by decide +kernel, by decide +kernel⟩
abbrev s_check_number : Stmt := topS 10
theorem sc_check_number : FnScope ["number"] ["number"] (defScope s_check_number) := ⟨rfl, rfl, rfl, by decide +kernel, rfl, by decide +kernel, by decide +kernel⟩
abbrev s_parting : Stmt := topS 11
theorem sc_parting : FnScope ["one", "other", "base", "place"] ["one", "other", "base"] (defScope s_parting) := ⟨rfl, rfl, rfl, by decide +kernel, rfl, by decide +kernel, by decide +kernel⟩
abbrev s_number_of : Stmt := topS 13
theorem sc_number_of : FnScope ["thing"] ["thing"] (defScope s_number_of) := ⟨rfl, rfl, rfl, by decide +kernel, rfl, by decide +kernel, by decide +kernel⟩
abbrev s_first_of_least : Stmt := topS 14
theorem sc_first_of_least : FnScope ["lying"] ["lying"] (defScope s_first_of_least) := ⟨rfl, rfl, rfl, by decide +kernel, rfl, by decide +kernel, by decide +kernel⟩
abbrev s_Store___init__ : Stmt := inClass (topS 15) 0
theorem sc_Store___init__ : FnScope ["self", "base"] ["self", "base"] (defScope s_Store___init__) := ⟨rfl, rfl, rfl, by decide +kernel, rfl, by decide +kernel, by decide +kernel⟩
abbrev s_Store_put : Stmt := inClass (topS 15) 1
theorem sc_Store_put : FnScope ["self", "number", "name"] ["self", "number", "name"] (defScope s_Store_put) := ⟨rfl, rfl, rfl, by decide +kernel, rfl, by decide +kernel, by decide +kernel⟩
abbrev s_Store_take : Stmt := inClass (topS 15) 2
theorem sc_Store_take : FnScope ["self", "at", "gone"] ["self"] (defScope s_Store_take) := ⟨rfl, rfl, rfl, by decide +kernel, rfl, by decide +kernel, by decide +kernel⟩
abbrev s_Store_least : Stmt := inClass (topS 15) 3
theorem sc_Store_least : FnScope ["self", "number", "name", "_"] ["self"] (defScope s_Store_least) := ⟨rfl, rfl, rfl, by decide +kernel, rfl, by decide +kernel, by decide +kernel⟩
abbrev s_Store_rows : Stmt := inClass (topS 15) 4
theorem sc_Store_rows : FnScope ["self", "told", "at", "number", "name", "moves"] ["self"] (defScope s_Store_rows) := ⟨rfl, rfl, rfl, by decide +kernel, rfl, by decide +kernel, by decide +kernel⟩
abbrev s_Store__lowest : Stmt := inClass (topS 15) 5
theorem sc_Store__lowest : FnScope ["self"] ["self"] (defScope s_Store__lowest) := ⟨rfl, rfl, rfl, by decide +kernel, rfl, by decide +kernel, by decide +kernel⟩
abbrev s_Store__set_down : Stmt := inClass (topS 15) 6
theorem sc_Store__set_down : FnScope ["self", "at", "thing"] ["self", "at", "thing"] (defScope s_Store__set_down) := ⟨rfl, rfl, rfl, by decide +kernel, rfl, by decide +kernel, by decide +kernel⟩
abbrev s_Store__fall : Stmt := inClass (topS 15) 7
theorem sc_Store__fall : FnScope ["self", "at", "lying", "number", "name", "moves", "place"] ["self", "at"] (defScope s_Store__fall) := ⟨rfl, rfl, rfl, by decide +kernel, rfl, by decide +kernel, by decide +kernel⟩
abbrev s__law_cell_at : Stmt := topS 17
theorem sc__law_cell_at : FnScope ["_law_script", "_law_k"] ["_law_script", "_law_k"] (defScope s__law_cell_at) := ⟨rfl, rfl, rfl, by decide +kernel, rfl, by decide +kernel, by decide +kernel⟩
abbrev s__law_room : Stmt := topS 18
theorem sc__law_room : FnScope ["_law_script", "_law_far"] ["_law_script", "_law_far"] (defScope s__law_room) := ⟨rfl, rfl, rfl, by decide +kernel, rfl, by decide +kernel, by decide +kernel⟩
abbrev s__law_whole : Stmt := topS 19
theorem sc__law_whole : FnScope ["_law_found"] ["_law_found"] (defScope s__law_whole) := ⟨rfl, rfl, rfl, by decide +kernel, rfl, by decide +kernel, by decide +kernel⟩
abbrev s__law_length : Stmt := topS 20
theorem sc__law_length : FnScope ["_law_number", "_law_base", "_law_many"] ["_law_number", "_law_base"] (defScope s__law_length) := ⟨rfl, rfl, rfl, by decide +kernel, rfl, by decide +kernel, by decide +kernel⟩
abbrev s__law_first : Stmt := topS 21
theorem sc__law_first : FnScope ["_law_things", "_law_at", "_law_k"] ["_law_things"] (defScope s__law_first) := ⟨rfl, rfl, rfl, by decide +kernel, rfl, by decide +kernel, by decide +kernel⟩
abbrev s__law_places : Stmt := topS 22
theorem sc__law_places : FnScope ["_law_rows", "_law_places_here", "_law_row"] ["_law_rows"] (defScope s__law_places) := ⟨rfl, rfl, rfl, by decide +kernel, rfl, by decide +kernel, by decide +kernel⟩
abbrev s__law_steps : Stmt := topS 23
theorem sc__law_steps : FnScope ["_law_before", "_law_after", "_law_came", "_law_lengths", "_law_steps_here", "_law_name", "_law_place", "_law_count"] ["_law_before", "_law_after", "_law_came", "_law_lengths"] (defScope s__law_steps) := ⟨rfl, rfl, rfl, by decide +kernel, rfl, by decide +kernel, by decide +kernel⟩
abbrev s__law_step_by : Stmt := topS 24
theorem sc__law_step_by : FnScope ["_law_cell", "_law_far"] ["_law_cell", "_law_far"] (defScope s__law_step_by) := ⟨rfl, rfl, rfl, by decide +kernel, rfl, by decide +kernel, by decide +kernel⟩
abbrev s__law_went : Stmt := topS 25
theorem sc__law_went : FnScope ["_law_gone", "_law_name", "_law_before", "_law_lengths", "_law_place", "_law_count"] ["_law_gone", "_law_name", "_law_before", "_law_lengths"] (defScope s__law_went) := ⟨rfl, rfl, rfl, by decide +kernel, rfl, by decide +kernel, by decide +kernel⟩
abbrev s_law : Stmt := topS 26
theorem sc_law : FnScope ["_law_script", "_law_base", "_law_far", "_law_store", "_law_cells", "_law_things", "_law_before", "_law_came", "_law_lengths", "_law_last", "_law_moves", "_law_k", "_law_after", "_law_number", "_law_name", "_law_at", "_law_went_here", "_law_steps_here"] ["_law_script"] (defScope s_law) := ⟨rfl, rfl, rfl, by decide +kernel, rfl, by decide +kernel, by decide +kernel⟩
/-- what the top has written -/
structure Txt (K : PySem.W.Frag) (mg : Str → Option Value) (NB NN FE LA BA ST : Addr) : Prop where
  e_FallError : ErrAt K mg "FallError" FE
  e_NoBase : ErrAt K mg "NoBase" NB
  e_NoNumber : ErrAt K mg "NoNumber" NN
  e_Late : ErrAt K mg "Late" LA
  e_Bare : ErrAt K mg "Bare" BA
  g_LEAST_BASE : ∃ t, mg "LEAST_BASE" = some (.int 2 t)
  g_MOST_BASE : ∃ t, mg "MOST_BASE" = some (.int 16 t)
  b_min : mg "min" = none
  b_len : mg "len" = none
  b_sorted : mg "sorted" = none
  b_isinstance : mg "isinstance" = none
  b_int : mg "int" = none
  b_bool : mg "bool" = none
  b_range : mg "range" = none
  b_list : mg "list" = none
  b_tuple : mg "tuple" = none
  b_str : mg "str" = none
  d_check_base : DefAt K mg "check_base" s_check_base ["base"]
  d_check_number : DefAt K mg "check_number" s_check_number ["number"]
  d_parting : DefAt K mg "parting" s_parting ["one", "other", "base"]
  d_number_of : DefAt K mg "number_of" s_number_of ["thing"]
  d_first_of_least : DefAt K mg "first_of_least" s_first_of_least ["lying"]
  d__law_cell_at : DefAt K mg "_law_cell_at" s__law_cell_at ["_law_script", "_law_k"]
  d__law_room : DefAt K mg "_law_room" s__law_room ["_law_script", "_law_far"]
  d__law_whole : DefAt K mg "_law_whole" s__law_whole ["_law_found"]
  d__law_length : DefAt K mg "_law_length" s__law_length ["_law_number", "_law_base"]
  d__law_first : DefAt K mg "_law_first" s__law_first ["_law_things"]
  d__law_places : DefAt K mg "_law_places" s__law_places ["_law_rows"]
  d__law_steps : DefAt K mg "_law_steps" s__law_steps ["_law_before", "_law_after", "_law_came", "_law_lengths"]
  d__law_step_by : DefAt K mg "_law_step_by" s__law_step_by ["_law_cell", "_law_far"]
  d__law_went : DefAt K mg "_law_went" s__law_went ["_law_gone", "_law_name", "_law_before", "_law_lengths"]
  e_Store : mg "Store" = some (.ref ST)
  cl : Cls K ST
  n_base : NoAttr K ST "base"
  n_last : NoAttr K ST "last"
  n_many : NoAttr K ST "many"
  n_moves : NoAttr K ST "moves"
  n__buckets : NoAttr K ST "_buckets"
  d_Store___init__ : InitAt K ST "Store.__init__" s_Store___init__ ["self", "base"]
  d_Store_put : MethAt K ST "put" "Store.put" s_Store_put ["self", "number", "name"]
  d_Store_take : MethAt K ST "take" "Store.take" s_Store_take ["self"]
  d_Store_least : MethAt K ST "least" "Store.least" s_Store_least ["self"]
  d_Store_rows : MethAt K ST "rows" "Store.rows" s_Store_rows ["self"]
  d_Store__lowest : MethAt K ST "_lowest" "Store._lowest" s_Store__lowest ["self"]
  d_Store__set_down : MethAt K ST "_set_down" "Store._set_down" s_Store__set_down ["self", "at", "thing"]
  d_Store__fall : MethAt K ST "_fall" "Store._fall" s_Store__fall ["self", "at"]
section
variable {P : Program} {w : World} {K : PySem.W.Frag} {mg : Str → Option Value} {base : Heap} {NB NN FE LA BA ST : Addr}
/-! ### check_base -/
def D_check_base : List V → Hp → V → Prop := fun vs _ z => ∃ b : Int, vs = [.int b] ∧ 2 ≤ b ∧ b ≤ 16 ∧ z = .non
def R_check_base (NB : Addr) : List V → Hp → Addr → Prop := fun vs _ c => ∃ b : Int, vs = [.int b] ∧ (b < 2 ∨ 16 < b) ∧ c = NB
theorem O_check_base (T : Txt K mg NB NN FE LA BA ST) : Own P w K mg base "check_base" 1 ["base"] (spX D_check_base (R_check_base NB)) := by
  refine own_of T.d_check_base sc_check_base (fun vs H Q E h => ?_) (fun f cdv A outer s H vs Q E hr h => ⟨_, (pss_one (ps_if (PW.pt (pw_or (pt_cmpR op_lt (pv 0) (pe_const_int rfl T.g_LEAST_BASE) (nomark _)) (pw_or1 (pt_cmpR op_gt (pv 0) (pe_const_int rfl T.g_MOST_BASE) (nomark _)))))
    (pss_one (ps_own_raise T.e_NoBase tk_out))
    pss_nil)), ?_⟩)
  · rcases h with ⟨z, ⟨b, rfl, _⟩, _⟩ | ⟨c, ⟨b, rfl, _⟩, _⟩ <;> rfl
  · have he : ∀ b : Int, EvT (tOr (tTest (tOp (rI0 fun i j => .bl (decide (i < j))) (tVar 0) (tC (.int 2)))) (tTest (tOp (rI0 fun i j => .bl (decide (j < i))) (tVar 0) (tC (.int 16))))) (start ["base"] [.int b]) H (decide (b < 2) || decide (16 < b)) := fun b =>
      et_or (et_test (ev_op (ev_var rfl) ev_c rv_I0)) fun _ => et_test (ev_op (ev_var rfl) ev_c rv_I0)
    rcases h with ⟨z, ⟨b, rfl, h1, h2, rfl⟩, k⟩ | ⟨c, ⟨b, rfl, h1, rfl⟩, k⟩
    · refine s_if (he b) (fun hb => ?_) (fun _ H1 e1 => k H1 e1)
      have : ¬ (b < 2) := by omega
      have : ¬ (16 < b) := by omega
      simp_all
    · refine s_if (he b) (fun _ H1 e1 => k H1 e1) (fun hb => ?_)
      rw [Bool.or_eq_false_iff] at hb
      have := of_decide_eq_false hb.1
      have := of_decide_eq_false hb.2
      omega
/-! ### check_number -/
def D_check_number : List V → Hp → V → Prop := fun vs _ z => ∃ n : Int, vs = [.int n] ∧ 0 ≤ n ∧ z = .non
def R_check_number (NN : Addr) : List V → Hp → Addr → Prop := fun vs _ c => ∃ n : Int, vs = [.int n] ∧ n < 0 ∧ c = NN
theorem O_check_number (T : Txt K mg NB NN FE LA BA ST) : Own P w K mg base "check_number" 1 ["number"] (spX D_check_number (R_check_number NN)) := by
  refine own_of T.d_check_number sc_check_number (fun vs H Q E h => ?_) (fun f cdv A outer s H vs Q E hr h => ⟨_, (pss_one (ps_if (pt_cmpR op_lt (pv 0) pe_int (nomark _))
    (pss_one (ps_own_raise T.e_NoNumber tk_out))
    pss_nil)), ?_⟩)
  · rcases h with ⟨z, ⟨b, rfl, _⟩, _⟩ | ⟨c, ⟨b, rfl, _⟩, _⟩ <;> rfl
  · rcases h with ⟨z, ⟨b, rfl, h1, rfl⟩, k⟩ | ⟨c, ⟨b, rfl, h1, rfl⟩, k⟩
    · refine s_if (et_test (ev_op (ev_var rfl) ev_c rv_I0)) (fun hb => ?_) (fun _ H1 e1 => k H1 e1)
      have := of_decide_eq_true hb
      omega
    · refine s_if (et_test (ev_op (ev_var rfl) ev_c rv_I0)) (fun _ H1 e1 => k H1 e1) (fun hb => ?_)
      have := of_decide_eq_false hb
      omega
/-! ### parting -/
def D_parting : List V → Hp → V → Prop := fun vs _ z => ∃ x y b : Nat, vs = [.int (x : Int), .int (y : Int), .int (b : Int)] ∧ 2 ≤ b ∧ b ≤ 16 ∧ z = .int ((partAt b x y : Nat) : Int)
def R_parting (NB NN : Addr) : List V → Hp → Addr → Prop := fun vs _ c => ∃ x y b : Int, vs = [.int x, .int y, .int b] ∧ (((b < 2 ∨ 16 < b) ∧ c = NB) ∨ (2 ≤ b ∧ b ≤ 16 ∧ (x < 0 ∨ y < 0) ∧ c = NN))
theorem ne_dec {x y : Nat} : (!decide (V.int (x : Int) = V.int (y : Int))) = decide (x ≠ y) := by
  by_cases h : x = y
  · subst h
    simp
  · have h2 : ¬ (V.int (x : Int) = V.int (y : Int)) := fun q => h (by injection q with q; omega)
    simp [h, h2]
theorem O_parting (T : Txt K mg NB NN FE LA BA ST) : Own P w K mg base "parting" 2 ["one", "other", "base"] (spX D_parting (R_parting NB NN)) := by
  have O_check_base := O_check_base (P := P) (w := w) (base := base) T
  have O_check_number := O_check_number (P := P) (w := w) (base := base) T
  refine own_of T.d_parting sc_parting (fun vs H Q E h => ?_) (fun f cdv A outer s H vs Q E hr h => ⟨_, (pss_cons (ps_expr (pe_own O_check_base hr (by decide) ps_out (pa_cons (pv 2) pa_nil)))
    (pss_cons (ps_expr (pe_own O_check_number hr (by decide) ps_out (pa_cons (pv 0) pa_nil)))
    (pss_cons (ps_expr (pe_own O_check_number hr (by decide) ps_out (pa_cons (pv 1) pa_nil)))
    (pss_cons (ps_set (i := 3) sc_parting.nd rfl (Or.inl rfl) pe_int)
    (pss_cons (ps_while pw (pt_cmpR op_ne (pv 0) (pv 1) (nomark _))
    (pss_cons (ps_set (i := 0) sc_parting.nd rfl (Or.inl rfl) (pe_op op_fdivW (pv 0) (pv 2)))
    (pss_cons (ps_set (i := 1) sc_parting.nd rfl (Or.inl rfl) (pe_op op_fdivW (pv 1) (pv 2)))
    (pss_one (ps_aug (i := 3) sc_parting.nd rfl (Or.inl rfl) pe_int ip_add)))))
    (pss_one (ps_ret (pv 3)))))))), ?_⟩)
  · rcases h with ⟨z, ⟨x, y, b, rfl, _⟩, _⟩ | ⟨c, ⟨x, y, b, rfl, _⟩, _⟩ <;> rfl
  · rcases h with ⟨z, ⟨x, y, b, rfl, hb, hb2, rfl⟩, k⟩ | ⟨c, ⟨x, y, b, rfl, ⟨hb, rfl⟩ | ⟨hb, hb2, hn, rfl⟩⟩, k⟩
    · refine q_drop (ev_X (ea_cons (ev_var rfl) ea_nil) fun _ _ => ⟨_, rfl, by omega, by omega, rfl⟩) fun H1 e1 => ?_
      refine q_drop (ev_X (ea_cons (ev_var rfl) ea_nil) fun _ _ => ⟨_, rfl, by omega, rfl⟩) fun H2 e2 => ?_
      refine q_drop (ev_X (ea_cons (ev_var rfl) ea_nil) fun _ _ => ⟨_, rfl, by omega, rfl⟩) fun H3 e3 => ?_
      refine q_asg ev_c fun H4 e4 => ?_
      have e04 := ((e1.trans e2).trans e3).trans e4
      refine q_while (fun m σ' H' => Ex H H' ∧ ∃ u v d : Nat, m = u + v ∧ d + partAt b u v = partAt b x y ∧ σ' = [some (.int (u : Int)), some (.int (v : Int)), some (.int (b : Int)), some (.int (d : Int))]) (x + y) ⟨e04, x, y, 0, rfl, Nat.zero_add _, rfl⟩ ?_
      rintro m σ' H' ⟨e, u, v, d, rfl, hd, rfl⟩
      refine ⟨decide (u ≠ v), et_is (et_test (ev_op (ev_var rfl) (ev_var rfl) (rv_ne rfl))) ne_dec, fun ht H5 e5 => ?_, fun ht H5 e5 => ?_⟩
      · have hne := of_decide_eq_true ht
        refine ⟨fun σ2 H2 => ∃ m', m' < u + v ∧ Ex H H2 ∧ ∃ u v d : Nat, m' = u + v ∧ d + partAt b u v = partAt b x y ∧ σ2 = [some (.int (u : Int)), some (.int (v : Int)), some (.int (b : Int)), some (.int (d : Int))], fun _ _ h => h, ?_⟩
        refine q_asg (ev_op (ev_var rfl) (ev_var rfl) (rv_I (g := fun i j => .int (i / j)) (wide_div (b := 5) (by omega) (by rw [Int.natAbs_natCast]; omega) (by decide) (by decide)))) fun H6 e6 => ?_
        refine q_asg (ev_op (ev_var rfl) (ev_var rfl) (rv_I (g := fun i j => .int (i / j)) (wide_div (b := 5) (by omega) (by rw [Int.natAbs_natCast]; omega) (by decide) (by decide)))) fun H7 e7 => ?_
        refine s_aug (a := (d : Int)) rfl ev_c fun H8 e8 => ?_
        refine ⟨u / b + v / b, div_sum_lt hb hne, (((e.trans e5).trans e6).trans e7).trans e8, u / b, v / b, d + 1, rfl, ?_, rfl⟩
        rw [partAt_ne hb hne] at hd
        omega
      · have he : u = v := by simpa using ht
        subst he
        rw [partAt_eq, Nat.add_zero] at hd
        subst hd
        exact s_ret (ev_var rfl) fun H6 e6 => k H6 ((e.trans e5).trans e6)
    · exact s_err (ea_cons (ev_var rfl) ea_nil) (fun _ _ => ⟨_, rfl, hb, rfl⟩) k
    · refine q_drop (ev_X (ea_cons (ev_var rfl) ea_nil) fun _ _ => ⟨_, rfl, by omega, by omega, rfl⟩) fun H1 e1 => ?_
      by_cases hx : x < 0
      · exact s_err (ea_cons (ev_var rfl) ea_nil) (fun _ _ => ⟨_, rfl, hx, rfl⟩) fun H2 e2 => k H2 (e1.trans e2)
      · refine q_drop (ev_X (ea_cons (ev_var rfl) ea_nil) fun _ _ => ⟨_, rfl, by omega, rfl⟩) fun H2 e2 => ?_
        exact s_err (ea_cons (ev_var rfl) ea_nil) (fun _ _ => ⟨_, rfl, by omega, rfl⟩) fun H3 e3 => k H3 ((e1.trans e2).trans e3)
/-! ### number_of -/
def D_number_of : List V → Hp → V → Prop := fun vs H z => ∃ (p : Addr) (xs : List V) (m : Int), vs = [.ref p] ∧ H p = some (.tup xs) ∧ xs[0]? = some (.int m) ∧ z = .int m
theorem O_number_of (T : Txt K mg NB NN FE LA BA ST) : Own P w K mg base "number_of" 1 ["thing"] (spD D_number_of) := by
  refine own_of T.d_number_of sc_number_of (fun vs H Q E h => ?_) (fun f cdv A outer s H vs Q E hr h => ⟨_, (pss_one (ps_ret (pe_ix ix_tup (pv 0) pe_int (fun _ _ => rfl)))), ?_⟩)
  · obtain ⟨z, ⟨p, xs, m, rfl, _⟩, _⟩ := h
    rfl
  · obtain ⟨z, ⟨p, xs, m, rfl, hp, h0, rfl⟩, k⟩ := h
    exact s_ret (ev_op (ev_var rfl) ev_c (rv_ixT (st_of hp) (atI_nat (j := 0) h0))) fun H1 e1 => k H1 e1
/-! ### first_of_least -/
structure FirstT (ts : List (Thing Str)) (i : Nat) (t : Thing Str) : Prop where
  at_ : ts[i]? = some t
  le : ∀ j u, ts[j]? = some u → t.num ≤ u.num ∧ (j < i → t.num < u.num)
theorem FirstT.uniq {ts : List (Thing Str)} {i j : Nat} {t u : Thing Str} (h : FirstT ts i t) (k : FirstT ts j u) : i = j := by
  have h1 := h.le j u k.at_
  have h2 := k.le i t h.at_
  by_cases e : i < j
  · have := h2.2 e
    omega
  · by_cases e2 : j < i
    · have := h1.2 e2
      omega
    · omega
theorem first_ex : ∀ {ts : List (Thing Str)}, ts ≠ [] → ∃ i t, FirstT ts i t
  | [], h => absurd rfl h
  | [t], _ => ⟨0, t, rfl, fun j u hj => by
    cases j with
    | zero =>
      have : t = u := by simpa using hj
      subst this
      exact ⟨Nat.le_refl _, fun h => absurd h (Nat.not_lt_zero _)⟩
    | succ j => simp at hj⟩
  | t :: v :: r, _ => by
    obtain ⟨i, x, hx⟩ := first_ex (ts := v :: r) (List.cons_ne_nil _ _)
    by_cases hc : t.num ≤ x.num
    · refine ⟨0, t, rfl, fun j u hj => ?_⟩
      cases j with
      | zero =>
        have : t = u := by simpa using hj
        subst this
        exact ⟨Nat.le_refl _, fun h => absurd h (Nat.not_lt_zero _)⟩
      | succ j =>
        have h1 := (hx.le j u (by simpa using hj)).1
        exact ⟨by omega, fun h => absurd h (Nat.not_lt_zero _)⟩
    · refine ⟨i + 1, x, by simpa using hx.at_, fun j u hj => ?_⟩
      cases j with
      | zero =>
        have : t = u := by simpa using hj
        subst this
        exact ⟨by omega, fun _ => by omega⟩
      | succ j =>
        have h1 := hx.le j u (by simpa using hj)
        exact ⟨h1.1, fun h => h1.2 (by omega)⟩
def D_first : List V → Hp → V → Prop := fun vs H z => ∃ (a : Addr) (ps : List V) (ts : List (Thing Str)) (i : Nat) (t : Thing Str), vs = [.ref a] ∧ H a = some (.lst ps) ∧ Tups H ps (ts.map tV) ∧ FirstT ts i t ∧ ps[i]? = some z
theorem O_first_of_least (T : Txt K mg NB NN FE LA BA ST) : Own P w K mg base "first_of_least" 3 ["lying"] (spD D_first) := by
  have O_number_of := O_number_of (P := P) (w := w) (base := base) T
  refine own_of T.d_first_of_least sc_first_of_least (fun vs H Q E h => ?_) (fun f cdv A outer s H vs Q E hr h => ⟨_, (pss_one (ps_ret (pe_minKey O_number_of hr (by decide) T.b_min (pa_cons (pv 0) pa_nil)))), ?_⟩)
  · obtain ⟨z, ⟨a, ps, ts, i, t, rfl, _⟩, _⟩ := h
    rfl
  · obtain ⟨z, ⟨a, ps, ts, i, t, rfl, ha, ht, hf, hz⟩, k⟩ := h
    have hl : ps.length = ts.length := by
      rw [tups_len ht, List.length_map]
    have hi : i < ts.length := (List.getElem?_eq_some_iff.mp hf.at_).1
    refine s_rt ?_
    refine (ea_cons (ev_var rfl) ea_nil) H (Ex.refl H) _ fun H1 e1 => ⟨a, ps, fun j => ((ts[j]?.map Thing.num).getD 0 : Nat), rfl, sq_of (e1 _ _ ha), by omega, fun x hx => ?_, fun j x H2 hj e2 => ?_, fun j x H2 hj hk e2 => ?_⟩
    · obtain ⟨p, xs, e, _⟩ := tups_ref ht x hx
      exact ⟨p, e⟩
    · have hjl : j < ts.length := by
        have := (List.getElem?_eq_some_iff.mp hj).1
        omega
      obtain ⟨p, h1, h2⟩ := tups_get (i := j) (xs := tV ts[j]) ht (by rw [List.getElem?_map, List.getElem?_eq_getElem hjl] <;> rfl)
      rw [hj] at h1
      cases h1
      exact ⟨p, tV ts[j], _, rfl, e2 _ _ (e1 _ _ h2), rfl, by simp [List.getElem?_eq_getElem hjl]⟩
    · have hjl : j < ts.length := by
        have := hk.lt
        omega
      have hk2 : FirstT ts j ts[j] := ⟨List.getElem?_eq_getElem hjl, fun m u hm => by
        have hml := (List.getElem?_eq_some_iff.mp hm).1
        have h1 := hk.le m (by omega)
        simp only [hm, List.getElem?_eq_getElem hjl, Option.map_some, Option.getD_some] at h1
        exact ⟨by omega, fun z => by have := h1.2 z; omega⟩⟩
      have e := hk2.uniq hf
      subst e
      rw [hz] at hj
      cases hj
      exact k H2 (e1.trans e2)
/-! ### Store._lowest -/
def spLow (ST BA : Addr) : Sp := fun vs H Q E => ∃ st b s n F, vs = [.ref st] ∧ SAt ST b st s n F H ∧ Tot s n ∧ (n = 0 → ∀ H1, Ex H H1 → E (.ref BA) none H1) ∧ ∀ p, Low s p → ∀ H1, Ex H H1 → Q (.int (p : Int)) H1
theorem O_Store__lowest (T : Txt K mg NB NN FE LA BA ST) : OwnM P w K mg base ST "_lowest" 1 ["self"] (spLow ST BA) := by
  refine ownM_of T.d_Store__lowest sc_Store__lowest (fun vs H Q E h => ?_) (fun f cdv A outer s H vs Q E hr h => ⟨_, (pss_cons (ps_if (pt_cmpR op_eq (pe_fld (pv 0) rfl) pe_int (nomark _))
    (pss_one (ps_own_raise T.e_Bare tk_out))
    pss_nil)
    (pss_one (ps_ret (pe_callB (cr_minK rfl) (by rfl) T.b_min (by decide +kernel) (pa_cons (pe_fld (pv 0) rfl) pa_nil))))), ?_⟩)
  · obtain ⟨st, b, s, n, F, rfl, _⟩ := h
    rfl
  · obtain ⟨st, b, s, n, F, rfl, S, hT, kE, kQ⟩ := h
    refine q_when (b := decide (n = 0)) (et_is (et_test (ev_op (ev_many S T.cl T.n_many (ev_var rfl)) ev_c (rv_eq rfl))) ?_) (fun ht H1 e1 => ?_) (fun ht H1 e1 => ?_)
    · by_cases h0 : n = 0
      · subst h0
        rfl
      · rw [decide_eq_false h0]
        exact decide_eq_false fun z => h0 (by injection z with z; omega)
    · exact kE (of_decide_eq_true ht) H1 e1
    · have h0 := of_decide_eq_false ht
      obtain ⟨p, hp⟩ := tot_low hT (by omega)
      have S1 := S.mono e1
      obtain ⟨dx, bk, D, R, _⟩ := S1.ex
      obtain ⟨l, hl⟩ := R.key hp.ne
      refine s_rt ?_
      refine (ea_cons (ev_fld T.cl T.n__buckets R.ins fl_buckets (ev_var rfl)) ea_nil) H1 (Ex.refl H1) _ fun H2 e2 => ⟨bk, D.map ent, (D.map Prod.fst).map fun (q : Nat) => (q : Int), rfl, e2 _ _ R.dk, ?_, ?_, fun m hm hle => ?_⟩
      · rw [List.map_map, List.map_map, List.map_map]
        rfl
      · intro z
        rw [List.map_eq_nil_iff, List.map_eq_nil_iff] at z
        rw [z] at hl
        cases hl
      · obtain ⟨q, hq, rfl⟩ := List.mem_map.mp hm
        obtain ⟨e, he, rfl⟩ := List.mem_map.mp hq
        have h1 := hle (p : Int) (List.mem_map.mpr ⟨p, List.mem_map_of_mem (f := Prod.fst) hl, rfl⟩)
        have h2 : ¬ e.1 < p := fun z => R.ne e he (hp.em e.1 z)
        have h3 : e.1 = p := by omega
        rw [h3]
        exact kQ p hp H2 (e1.trans e2)
/-! ### Store._set_down -/
def spDown (ST : Addr) : Sp := fun vs H Q _ => ∃ st b s n F q t th m, vs = [.ref st, .int ((q : Nat) : Int), .ref t] ∧ SAt ST b st s n F H ∧ H t = some (.tup (tV th)) ∧ Tot s m ∧ m ≤ 5000 ∧ ∀ F' H', SAt ST b st (s.lay q th) n F' H' → Mv F F' H H' → Q .non H'
theorem O_Store__set_down (T : Txt K mg NB NN FE LA BA ST) : OwnM P w K mg base ST "_set_down" 1 ["self", "at", "thing"] (spDown ST) := by
  refine ownM_of T.d_Store__set_down sc_Store__set_down (fun vs H Q E h => ?_) (fun f cdv A outer s H vs Q E hr h => ⟨_, (pss_one (ps_expr (pe_bm PySem.F.plainAttrs_list PySem.F.slot_list_append PySem.F.type_list_append mt_append (pe_dsetd (pe_fld (pv 0) rfl) (pv 1) (pe_lst pa_nil) ⟨rfl, rfl, rfl, rfl⟩) (pa_cons (pv 2) pa_nil)))), ?_⟩)
  · obtain ⟨st, b, s, n, F, q, t, th, m, rfl, _⟩ := h
    rfl
  · obtain ⟨st, b, s, n, F, q, t, th, m, rfl, S, ht, hT, hm, k⟩ := h
    obtain ⟨dx, bk, D, R, hF⟩ := S.ex
    obtain ⟨a1, a2, a3, a4⟩ := R.apart
    have hD := R.keys_le hT
    refine s_setdApp (ev_fld T.cl T.n__buckets R.ins fl_buckets (ev_var rfl)) (q := (q : Int)) (ev_var rfl) (fun _ => ev_var rfl) R.dk (by rw [List.length_map]; omega) (fun v hv => ?_) (fun hn l H2 hl h1 h2 k2 => ?_)
    · by_cases hq : q ∈ D.map Prod.fst
      · obtain ⟨⟨q', l'⟩, he, hq'⟩ := List.mem_map.mp hq
        have hq' : q' = q := hq'
        subst hq'
        rw [val_in R.nd1 he] at hv
        cases hv
        obtain ⟨ps, h1, h2⟩ := R.ls _ he
        refine ⟨l', ps, rfl, h1, ?_, fun H4 e4 => ?_⟩
        · rw [tups_len h2, List.length_map]
          have := (tot_upd (s' := s.cut q') (q := q') (l := []) hT fun _ => rfl).1
          show (s.B q').length < 100000
          omega
        · have R4 := R.mono e4
          refine k F _ ⟨S.hb, S.hb2, dx, bk, D, R4.old he (e4 _ _ h1) (e4 _ _ ht) upd_same (fun a o ha h => by rw [upd_ne ha]; exact h), hF⟩ fun a o h hnf => ?_
          have hne : a ≠ l' := fun z => hnf ((hF a).mpr (Or.inr (Or.inr (Or.inr (z ▸ List.mem_map_of_mem (f := Prod.snd) he)))))
          rw [upd_ne hne]
          exact ⟨e4 _ _ h, hnf⟩
      · rw [val_out hq] at hv
        cases hv
    · by_cases hq : q ∈ D.map Prod.fst
      · obtain ⟨⟨q', l'⟩, he, hq'⟩ := List.mem_map.mp hq
        have hq' : q' = q := hq'
        subst hq'
        rw [val_in R.nd1 he] at hn
        cases hn
      · rw [put_ent hq] at h2
        refine k (foot st dx bk (D ++ [(q, l)])) _ ⟨S.hb, S.hb2, dx, bk, D ++ [(q, l)], R.new hq hl ht h1 h2 k2, fun _ => Iff.rfl⟩ fun a o h hnf => ?_
        have hnf2 : ¬ foot st dx bk D a := fun z => hnf ((hF a).mpr z)
        refine ⟨k2 a o (fun z => hnf2 (Or.inr (Or.inr (Or.inl z)))) h, ?_⟩
        rintro (z | z | z | z)
        · exact hnf2 (Or.inl z)
        · exact hnf2 (Or.inr (Or.inl z))
        · exact hnf2 (Or.inr (Or.inr (Or.inl z)))
        · rw [List.map_append, List.mem_append] at z
          rcases z with z | z
          · exact hnf2 (Or.inr (Or.inr (Or.inr z)))
          · have z : a = l := by simpa using z
            rw [z, hl] at h
            cases h
/-! ### Store.__init__ -/
def spInit (ST NB : Addr) : Sp := fun vs H Q E => ∃ (st dx : Addr) (b : Int), vs = [.ref st, .int b] ∧ H st = some (.ins ST dx []) ∧ H dx = some (.own st) ∧ ((b < 2 ∨ 16 < b) → ∀ H1, Ex H H1 → E (.ref NB) none H1) ∧
  ∀ b' : Nat, b = (b' : Int) → 2 ≤ b' → b' ≤ 16 → ∀ F' H', SAt ST b' st Sto.new 0 F' H' → (∀ a o, H a = some o → a ≠ st → a ≠ dx → H' a = some o ∧ ¬ F' a) → Q .non H'
theorem O_Store___init__ (T : Txt K mg NB NN FE LA BA ST) : OwnI P w K mg base ST 2 ["self", "base"] (spInit ST NB) := by
  have O_check_base := O_check_base (P := P) (w := w) (base := base) T
  refine ownI_of T.d_Store___init__ sc_Store___init__ (fun vs H Q E h => ?_) (fun f cdv A outer s H vs Q E hr h => ⟨_, (pss_cons (ps_expr (pe_own O_check_base hr (by decide) ps_out (pa_cons (pv 1) pa_nil)))
    (pss_cons (ps_fld (pv 0) (pv 1) rfl)
    (pss_cons (ps_fld (pv 0) pe_int rfl)
    (pss_cons (ps_fld (pv 0) pe_int rfl)
    (pss_cons (ps_fld (pv 0) pe_int rfl)
    (pss_one (ps_fld (pv 0) pe_dnewK rfl))))))), ?_⟩)
  · obtain ⟨st, dx, b, rfl, _⟩ := h
    rfl
  · obtain ⟨st, dx, b, rfl, hst, hdx, kE, kQ⟩ := h
    by_cases hb : b < 2 ∨ 16 < b
    · exact s_err (ea_cons (ev_var rfl) ea_nil) (fun _ _ => ⟨_, rfl, hb, rfl⟩) (kE hb)
    · refine q_drop (ev_X (ea_cons (ev_var rfl) ea_nil) fun _ _ => ⟨_, rfl, by omega, by omega, rfl⟩) fun H1 e1 => ?_
      obtain ⟨b', rfl⟩ : ∃ b' : Nat, b = (b' : Int) := ⟨b.toNat, by omega⟩
      have ndx : dx ≠ st := fun z => by
        rw [z, hst] at hdx
        cases hdx
      refine q_fldw T.cl T.n_base (e1 _ _ hst) (by show 0 < 1000; decide) (ev_var rfl) (ev_var rfl) fun H2 e2 => ?_
      have h2 : (upd H2 st (.ins ST dx (putF "base" (.int (b' : Int)) []))) st = some (.ins ST dx [("base", .int (b' : Int))]) := upd_same
      refine q_fldw T.cl T.n_last h2 (by show 1 < 1000; decide) ev_c (ev_var rfl) fun H3 e3 => ?_
      have h3 : (upd H3 st (.ins ST dx (putF "last" (.int 0) [("base", .int (b' : Int))]))) st = some (.ins ST dx [("base", .int (b' : Int)), ("last", .int 0)]) := by rw [upd_same, fi_2]
      refine q_fldw T.cl T.n_many h3 (by show 2 < 1000; decide) ev_c (ev_var rfl) fun H4 e4 => ?_
      have h4 : (upd H4 st (.ins ST dx (putF "many" (.int 0) [("base", .int (b' : Int)), ("last", .int 0)]))) st = some (.ins ST dx [("base", .int (b' : Int)), ("last", .int 0), ("many", .int 0)]) := by rw [upd_same, fi_3]
      refine q_fldw T.cl T.n_moves h4 (by show 3 < 1000; decide) ev_c (ev_var rfl) fun H5 e5 => ?_
      have h5 : (upd H5 st (.ins ST dx (putF "moves" (.int 0) [("base", .int (b' : Int)), ("last", .int 0), ("many", .int 0)]))) st = some (.ins ST dx [("base", .int (b' : Int)), ("last", .int 0), ("many", .int 0), ("moves", .int 0)]) := by rw [upd_same, fi_4]
      have other : ∀ a o, H a = some o → a ≠ st → (upd H5 st (.ins ST dx (putF "moves" (.int 0) [("base", .int (b' : Int)), ("last", .int 0), ("many", .int 0)]))) a = some o := fun a o h hne => by
        rw [upd_ne hne]
        refine e5 _ _ ?_
        rw [upd_ne hne]
        refine e4 _ _ ?_
        rw [upd_ne hne]
        refine e3 _ _ ?_
        rw [upd_ne hne]
        exact e2 _ _ (e1 _ _ h)
      intro bk hbk
      refine ev_var (v := .ref st) rfl _ (Ex.refl _) _ fun H6 e6 => ?_
      have nbs : bk ≠ st := fun z => by
        rw [z, h5] at hbk
        cases hbk
      have nbo : ∀ a o, H a = some o → a ≠ st → a ≠ bk := fun a o h hne z => by
        have := other a o h hne
        rw [z, hbk] at this
        cases this
      have h6 := e6 _ _ (show (upd _ bk (.dK [])) st = _ from (upd_ne (Ne.symm nbs)).trans h5)
      refine ⟨st, ST, dx, _, rfl, h6, T.cl, T.n__buckets, by show 4 < 1000; decide, ?_⟩
      refine kQ b' rfl (by omega) (by omega) (foot st dx bk []) _ ⟨by omega, by omega, dx, bk, [], ⟨?_, ?_, ?_, by exact List.nodup_nil, by exact List.nodup_nil, (fun e he => nomatch he), (fun _ _ => rfl), (fun e he => nomatch he)⟩, fun _ => Iff.rfl⟩ fun a o h h1 h2 => ⟨?_, ?_⟩
      · rw [upd_same, fi_5]
        rfl
      · rw [upd_ne ndx]
        refine e6 _ _ ?_
        rw [upd_ne (nbo _ _ hdx ndx)]
        exact other _ _ hdx ndx
      · rw [upd_ne nbs]
        exact e6 _ _ upd_same
      · rw [upd_ne h1]
        refine e6 _ _ ?_
        rw [upd_ne (nbo _ _ h h1)]
        exact other _ _ h h1
      · rintro (z | z | z | z)
        · exact h1 z
        · exact h2 z
        · exact nbo _ _ h h1 z
        · cases z
theorem q_make {σ : L2.St} {H : Hp} {ta : TA} {tz : TS} {D : Ends} {E : XK} {b i : Nat} (h : EvA ta σ H [.int (b : Int)]) (hb : 2 ≤ b) (hb2 : b ≤ 16) (k : ∀ st F' H', SAt ST b st Sto.new 0 F' H' → Mv (fun _ => False) F' H H' → tz D (σ.set i (some (.ref st))) H') :
    tSeq (tAsg (tMake ST (spInit ST NB) [] E ta) (gName i)) tz D σ H := h H (Ex.refl H) _ fun H1 e1 x dx hx hdx hne => by
  show spInit ST NB [.ref x, .int (b : Int)] _ _ _
  refine ⟨x, dx, (b : Int), rfl, upd_same, by rw [upd_ne hne, upd_same], fun z => by omega, fun b' hb' _ _ F' H' S M => ⟨rfl, ?_⟩⟩
  obtain rfl : b' = b := by omega
  refine k x F' H' S fun a o ha _ => ?_
  have h1 := e1 _ _ ha
  have n1 : a ≠ x := ne_of_none h1 hx
  have n2 : a ≠ dx := ne_of_none h1 hdx
  exact M a o (by rw [upd_ne n1, upd_ne n2]; exact h1) n1 n2
theorem c_make {σ : L2.St} {H : Hp} {ta : TA} {Q : VK} {E : XK} {b : Nat} (h : EvA ta σ H [.int (b : Int)]) (hb : 2 ≤ b) (hb2 : b ≤ 16) (k : ∀ st F' H', SAt ST b st Sto.new 0 F' H' → Mv (fun _ => False) F' H H' → Q (.ref st) H') : tMake ST (spInit ST NB) [] E ta σ H Q := h H (Ex.refl H) _ fun H1 e1 x dx hx hdx hne => by
  show spInit ST NB [.ref x, .int (b : Int)] _ _ _
  refine ⟨x, dx, (b : Int), rfl, upd_same, by rw [upd_ne hne, upd_same], fun z => by omega, fun b' hb' _ _ F' H' S M => ⟨rfl, ?_⟩⟩
  obtain rfl : b' = b := by omega
  refine k x F' H' S fun a o ha _ => ?_
  have h1 := e1 _ _ ha
  have n1 : a ≠ x := ne_of_none h1 hx
  have n2 : a ≠ dx := ne_of_none h1 hdx
  exact M a o (by rw [upd_ne n1, upd_ne n2]; exact h1) n1 n2
theorem SAt.there {b : Nat} {st : Addr} {s : Sto Str} {n : Nat} {F : Addr → Prop} {H : Hp} (S : SAt ST b st s n F H) {a : Addr} (h : F a) : ∃ o, H a = some o := by
  obtain ⟨dx, bk, D, R, f⟩ := S.ex
  exact R.there ((f a).mp h)
/-! ### Store._fall -/
def spFall (ST : Addr) : Sp := fun vs H Q _ => ∃ st b s n F p m, vs = [.ref st, .int ((p : Nat) : Int)] ∧ SAt ST b st s n F H ∧ s.Ok b ∧ Low s p ∧ Tot s m ∧ m ≤ 5000 ∧ ∀ μ F' H', Least (s.B p) μ → SAt ST b st (s.fallAt b p μ) n F' H' → Mv F F' H H' → Q .non H'
theorem O_Store__fall (T : Txt K mg NB NN FE LA BA ST) : OwnM P w K mg base ST "_fall" 4 ["self", "at"] (spFall ST) := by
  have O_number_of := O_number_of (P := P) (w := w) (base := base) T
  have O_first_of_least := O_first_of_least (P := P) (w := w) (base := base) T
  have O_parting := O_parting (P := P) (w := w) (base := base) T
  have O_Store__set_down := O_Store__set_down (P := P) (w := w) (base := base) T
  refine ownM_of T.d_Store__fall sc_Store__fall (fun vs H Q E h => ?_) (fun f cdv A outer s H vs Q E hr h => ⟨_, (pss_cons (ps_set (i := 2) sc_Store__fall.nd rfl (Or.inl rfl) (pe_dpop1 (pe_fld (pv 0) rfl) (pv 1) ⟨rfl, rfl, rfl, rfl⟩))
    (pss_cons (ps_fld (pv 0) (pe_own O_number_of hr (by decide) passN (pa_cons (pe_own O_first_of_least hr (by decide) passN (pa_cons (pv 2) pa_nil)) pa_nil)) rfl)
    (pss_one (ps_for pw rfl (pi_list (pv 2)) (pg_tup rfl (pgs_cons (pg_name (i := 3) sc_Store__fall.nd rfl (Or.inl rfl)) (pgs_cons (pg_name (i := 4) sc_Store__fall.nd rfl (Or.inl rfl)) (pgs_cons (pg_name (i := 5) sc_Store__fall.nd rfl (Or.inl rfl)) pgs_nil))))
    (pss_cons (ps_set (i := 6) sc_Store__fall.nd rfl (Or.inl rfl) (pe_own O_parting hr (by decide) ps_out (pa_cons (pv 3) (pa_cons (pe_fld (pv 0) rfl) (pa_cons (pe_fld (pv 0) rfl) pa_nil)))))
    (pss_cut (ps_if (pt_cmpR op_lt (pv 6) (pv 1) (nomark _))
    (pss_cons (ps_aug (i := 5) sc_Store__fall.nd rfl (Or.inl rfl) pe_int ip_add)
    (pss_one (ps_fldaug (pv 0) pe_int in_add)))
    pss_nil)
    (pss_one (ps_expr (pe_ownM O_Store__set_down T.cl hr (by decide) passN (pv 0) (pa_cons (pv 6) (pa_cons (pe_tup (pa_cons (pv 3) (pa_cons (pv 4) (pa_cons (pv 5) pa_nil)))) pa_nil))))))))))), ?_⟩)
  · obtain ⟨st, b, s, n, F, p, m, rfl, _⟩ := h
    rfl
  · obtain ⟨st, b, s, n, F, p, m, rfl, S, ok, hp, hT, hm, k⟩ := h
    obtain ⟨dx, bk, D, R, hF⟩ := S.ex
    obtain ⟨l, hl⟩ := R.key hp.ne
    obtain ⟨ps, hps, htp⟩ := R.ls _ hl
    obtain ⟨a1, a2, a3, a4⟩ := R.apart
    have htp : Tups H ps ((s.B p).map tV) := htp
    have hps : H l = some (.lst ps) := hps
    refine q_dpop (ev_fld T.cl T.n__buckets R.ins fl_buckets (ev_var rfl)) (q := (p : Int)) (ev_var rfl) R.dk (val_in R.nd1 hl) fun H1 e1 => ?_
    obtain ⟨R2, nl⟩ := (R.mono e1).cut hl (H' := upd H1 bk (.dK (dropK (D.map ent) (Sum.inl (p : Int))))) (by rw [upd_same, drop_ent]) fun a o ha h _ => by rw [upd_ne ha]; exact h
    have sub : ∀ a, foot st dx bk (cutD D p) a → F a := fun a z => (hF a).mpr (by
      rcases z with z | z | z | z
      · exact Or.inl z
      · exact Or.inr (Or.inl z)
      · exact Or.inr (Or.inr (Or.inl z))
      · obtain ⟨e, he, rfl⟩ := List.mem_map.mp z
        exact Or.inr (Or.inr (Or.inr (List.mem_map_of_mem (mem_cut.mp he).1))))
    have k1 : ∀ a o, a ≠ bk → H a = some o → (upd H1 bk (.dK (dropK (D.map ent) (Sum.inl (p : Int))))) a = some o := fun a o ha h => by
      rw [upd_ne ha]
      exact e1 _ _ h
    have hps2 := k1 l _ (a4 _ hl).2.2 hps
    obtain ⟨i0, t0, hf⟩ := first_ex (ts := s.B p) hp.ne
    obtain ⟨pa, hpa, hpat⟩ := tups_get htp (i := i0) (xs := tV t0) (by rw [List.getElem?_map, hf.at_] <;> rfl)
    have hpat2 := k1 pa _ (ne_of hpat R.dk (by intro z; cases z)) hpat
    have htp2 : Tups (upd H1 bk (.dK (dropK (D.map ent) (Sum.inl (p : Int))))) ps ((s.B p).map tV) := tups_keep (fun a xs h => k1 a _ (ne_of h R.dk (by intro z; cases z)) h) htp
    have hL : Least (s.B p) t0.num := ⟨⟨t0, List.mem_of_getElem? hf.at_, rfl⟩, fun u hu => by
      obtain ⟨j, hj⟩ := List.mem_iff_getElem?.mp hu
      exact (hf.le j u hj).1⟩
    have nls : l ≠ st := (a4 _ hl).1
    refine q_fldw T.cl T.n_last R2.ins (by show 5 < 1000; decide) (y := .int (t0.num : Int)) (ev_D (ea_cons (ev_D (z := .ref pa) (ea_cons (ev_var rfl) ea_nil) fun H3 e3 => ⟨l, ps, s.B p, i0, t0, rfl, e3 _ _ hps2, htp2.mono e3, hf, hpa⟩) ea_nil) fun H3 e3 => ⟨pa, tV t0, _, rfl, e3 _ _ hpat2, rfl, rfl⟩) (ev_var rfl) fun H3 e3 => ?_
    have R4 : RAt ST b st dx bk (cutD D p) ((s.cut p).at_ t0.num) n (upd H3 st (.ins ST dx (putF "last" (.int (t0.num : Int)) (flds b (s.cut p).last n (s.cut p).moves bk)))) := (R2.mono e3).fld rfl (by rw [upd_same, fp_last]; rfl) (fun a o ha h => by rw [upd_ne ha]; exact h)
    have hl4 : (upd H3 st (.ins ST dx (putF "last" (.int (t0.num : Int)) (flds b (s.cut p).last n (s.cut p).moves bk)))) l = some (.lst ps) := by
      rw [upd_ne nls]
      exact e3 _ _ hps2
    refine s_forL (a := l) (xs := ps) (ev_var rfl) (sq_of hl4) (fun i σ' H' => ∃ F' v3 v4 v5 v6, σ' = [some (.ref st), some (.int (p : Int)), some (.ref l), v3, v4, v5, v6] ∧ SAt ST b st (((s.B p).take i).foldl (fallOne b p) ((s.cut p).at_ t0.num)) n F' H' ∧ Mv F F' H H' ∧ ¬ F' l ∧ H' l = some (.lst ps))
      (fun H5 e5 => ⟨foot st dx bk (cutD D p), none, none, none, none, rfl, ⟨S.hb, S.hb2, dx, bk, cutD D p, R4.mono e5, fun _ => Iff.rfl⟩, fun a o h hnf => ⟨?_, fun z => hnf (sub a z)⟩, nl, e5 _ _ hl4⟩) (fun i σ' H' _ h => ?_) (fun i x σ' H' hx h => ?_) (fun σ' H' h => ?_)
    · refine e5 _ _ ?_
      rw [upd_ne fun z => hnf ((hF a).mpr (Or.inl z))]
      exact e3 _ _ (k1 a o (fun z => hnf ((hF a).mpr (Or.inr (Or.inr (Or.inl z))))) h)
    · obtain ⟨_, _, _, _, _, _, _, _, _, h⟩ := h
      exact sq_of h
    · obtain ⟨F', v3, v4, v5, v6, rfl, S', M', nl', hl'⟩ := h
      have hi : i < (s.B p).length := by
        have h1 := (List.getElem?_eq_some_iff.mp hx).1
        rw [tups_len htp, List.length_map] at h1
        exact h1
      have htp' := M'.tups S htp
      obtain ⟨pt, hpt1, hpt⟩ := tups_get htp' (i := i) (xs := tV (s.B p)[i]) (by rw [List.getElem?_map, List.getElem?_eq_getElem hi] <;> rfl)
      rw [hx] at hpt1
      cases hpt1
      generalize hu : (s.B p)[i] = u at hpt
      have htake : (s.B p).take (i + 1) = (s.B p).take i ++ [u] := by
        rw [List.take_succ, List.getElem?_eq_getElem hi, hu]
        rfl
      have hlast : (((s.B p).take i).foldl (fallOne b p) ((s.cut p).at_ t0.num)).last = t0.num := on_last _ _
      have hTi := tot_on (b := b) (p := p) ((s.B p).take i) (tot_of (s' := (s.cut p).at_ t0.num) (tot_cut (p := p) hT).1 rfl)
      have hTm : m - (s.B p).length + ((s.B p).take i).length ≤ 5000 := by
        rw [List.length_take]
        have := (tot_cut (p := p) hT).2
        omega
      have hstep : ((s.B p).take (i + 1)).foldl (fallOne b p) ((s.cut p).at_ t0.num) = fallOne b p (((s.B p).take i).foldl (fallOne b p) ((s.cut p).at_ t0.num)) u := by
        rw [htake, List.foldl_append]
        rfl
      generalize hs1 : ((s.B p).take i).foldl (fallOne b p) ((s.cut p).at_ t0.num) = s1 at S' hlast hTi hstep
      refine g_tup3 hpt ?_
      refine q_asg (ev_X (ea_cons (ev_var rfl) (ea_cons (ev_last S' T.cl T.n_last (ev_var rfl)) (ea_cons (ev_base S' T.cl T.n_base (ev_var rfl)) ea_nil))) fun _ _ => ⟨u.num, s1.last, b, rfl, S.hb, S.hb2, rfl⟩) fun H5 e5 => ?_
      refine q_cut (M := fun σ2 H2 => ∃ (s2 : Sto Str) (c : Nat), σ2 = [some (.ref st), some (.int (p : Int)), some (.ref l), some (.int (u.num : Int)), some (.str u.name), some (.int (c : Int)), some (.int ((partAt b u.num s1.last : Nat) : Int))] ∧ SAt ST b st s2 n F' H2 ∧ Mv F' F' H' H2 ∧ s2.B = s1.B ∧ s2.lay (partAt b u.num s1.last) ⟨u.num, u.name, c⟩ = fallOne b p s1 u) ?_ ?_
      · refine s_when (b := decide (partAt b u.num s1.last < p)) (et_is (et_test (ev_op (ev_var rfl) (ev_var rfl) rv_I0)) (decide_eq_decide.mpr ⟨fun z => by omega, fun z => by omega⟩)) (fun ht H6 e6 => ?_) (fun ht H6 e6 => ?_)
        · refine q_aug (a := (u.cnt : Int)) rfl ev_c fun H7 e7 => ?_
          have S7 := ((S'.mono e5).mono e6).mono e7
          obtain ⟨dx7, bk7, D7, R7, hF7⟩ := S7.ex
          refine s_fladd T.cl T.n_moves R7.ins (by show 5 < 1000; decide) fl_moves ev_c (ev_var rfl) fun H8 e8 => ?_
          refine ⟨s1.more, u.cnt + 1, rfl, ⟨S.hb, S.hb2, dx7, bk7, D7, (R7.mono e8).fld rfl ?_ fun a o ha h => by rw [upd_ne ha]; exact h, hF7⟩, fun a o h hnf => ⟨?_, hnf⟩, rfl, ?_⟩
          · rw [upd_same, show ((s1.moves : Int) + 1) = ((s1.moves + 1 : Nat) : Int) from rfl, fp_moves]
            rfl
          · rw [upd_ne fun z => hnf ((hF7 a).mpr (Or.inl z))]
            exact e8 _ _ (e7 _ _ (e6 _ _ (e5 _ _ h)))
          · unfold fallOne
            rw [if_pos (of_decide_eq_true ht)]
            rfl
        · refine ⟨s1, u.cnt, rfl, (S'.mono e5).mono e6, Mv.ex (e5.trans e6), rfl, ?_⟩
          unfold fallOne
          rw [if_neg (of_decide_eq_false ht)]
      · rintro σ2 H2 ⟨s2, c, rfl, S2, M2, hB, hfo⟩
        refine s_dr (c_stoU S2 (by decide +kernel) (ev_var rfl) (ev_var rfl) (eu_tup (ea_cons (ev_var rfl) (ea_cons (ev_var rfl) (ea_cons (ev_var rfl) ea_nil))) (by show 3 ≤ 100000; decide)) fun pn H3 e3 hpn S3 => ?_)
        refine ⟨st, b, s2, n, F', partAt b u.num s1.last, pn, ⟨u.num, u.name, c⟩, _, rfl, S3, hpn, tot_of hTi hB, hTm, fun F3 H4 S4 M4 => ?_⟩
        have M24 := (M2.trans (Mv.ex e3)).trans M4
        obtain ⟨g1, g2⟩ := M24 l _ hl' nl'
        refine ⟨F3, _, _, _, _, rfl, ?_, M'.trans M24, g2, g1⟩
        rw [hstep, ← hfo]
        exact S4
    · obtain ⟨F', v3, v4, v5, v6, rfl, S', M', nl', hl'⟩ := h
      have hlen : ps.length = (s.B p).length := by rw [tups_len htp, List.length_map]
      rw [hlen, List.take_length, fallOn_eq hp fun t ht => part_in S.hb ok hL ht] at S'
      exact k _ F' H' hL S' M'
/-! ### Store.put -/
def spPut (ST NN LA : Addr) : Sp := fun vs H Q E => ∃ st b s n F, ∃ num : Int, ∃ nm m, vs = [.ref st, .int num, .str nm] ∧ SAt ST b st s n F H ∧ Tot s m ∧ m < 5000 ∧ (num < 0 → ∀ H1, Ex H H1 → E (.ref NN) none H1) ∧
  (0 ≤ num → num < (s.last : Int) → ∀ H1, Ex H H1 → E (.ref LA) none H1) ∧ ∀ k : Nat, num = (k : Int) → s.last ≤ k → ∀ F' H', SAt ST b st (s.put b k nm) (n + 1) F' H' → Mv F F' H H' → Q .non H'
theorem O_Store_put (T : Txt K mg NB NN FE LA BA ST) : OwnM P w K mg base ST "put" 3 ["self", "number", "name"] (spPut ST NN LA) := by
  have O_check_number := O_check_number (P := P) (w := w) (base := base) T
  have O_Store__set_down := O_Store__set_down (P := P) (w := w) (base := base) T
  have O_parting := O_parting (P := P) (w := w) (base := base) T
  refine ownM_of T.d_Store_put sc_Store_put (fun vs H Q E h => ?_) (fun f cdv A outer s H vs Q E hr h => ⟨_, (pss_cons (ps_expr (pe_own O_check_number hr (by decide) ps_out (pa_cons (pv 1) pa_nil)))
    (pss_cons (ps_if (pt_cmpR op_lt (pv 1) (pe_fld (pv 0) rfl) (nomark _))
    (pss_one (ps_own_raise T.e_Late tk_out))
    pss_nil)
    (pss_cons (ps_expr (pe_ownM O_Store__set_down T.cl hr (by decide) passN (pv 0) (pa_cons (pe_own O_parting hr (by decide) ps_out (pa_cons (pv 1) (pa_cons (pe_fld (pv 0) rfl) (pa_cons (pe_fld (pv 0) rfl) pa_nil)))) (pa_cons (pe_tup (pa_cons (pv 1) (pa_cons (pv 2) (pa_cons pe_int pa_nil)))) pa_nil))))
    (pss_one (ps_fldaug (pv 0) pe_int in_add))))), ?_⟩)
  · obtain ⟨st, b, s, n, F, num, nm, m, rfl, _⟩ := h
    rfl
  · obtain ⟨st, b, s, n, F, num, nm, m, rfl, S, hT, hm, kN, kL, kQ⟩ := h
    by_cases h0 : num < 0
    · exact s_err (ea_cons (ev_var rfl) ea_nil) (fun _ _ => ⟨_, rfl, h0, rfl⟩) (kN h0)
    · obtain ⟨k, rfl⟩ : ∃ k : Nat, num = (k : Int) := ⟨num.toNat, by omega⟩
      refine q_drop (ev_X (ea_cons (ev_var rfl) ea_nil) fun _ _ => ⟨_, rfl, by omega, rfl⟩) fun H1 e1 => ?_
      have S1 := S.mono e1
      refine q_when (b := decide ((k : Int) < (s.last : Int))) (et_test (ev_op (ev_var rfl) (ev_last S1 T.cl T.n_last (ev_var rfl)) rv_I0)) (fun ht H2 e2 => kL (by omega) (of_decide_eq_true ht) H2 (e1.trans e2)) (fun ht H2 e2 => ?_)
      have hge : s.last ≤ k := by
        have := of_decide_eq_false ht
        omega
      have S2 := S1.mono e2
      refine q_dr (c_stoU S2 (by decide +kernel) (ev_var rfl) (ev_X (z := .int ((partAt b k s.last : Nat) : Int)) (ea_cons (ev_var rfl) (ea_cons (ev_last S2 T.cl T.n_last (ev_var rfl)) (ea_cons (ev_base S2 T.cl T.n_base (ev_var rfl)) ea_nil))) fun _ _ => ⟨k, s.last, b, rfl, S.hb, S.hb2, rfl⟩)
        (eu_tup (ea_cons (ev_var rfl) (ea_cons (ev_var rfl) (ea_cons ev_c ea_nil))) (by show 3 ≤ 100000; decide)) fun pn H3 e3 hpn S3 => ?_)
      refine ⟨st, b, s, n, F, partAt b k s.last, pn, ⟨k, nm, 0⟩, m, rfl, S3, hpn, hT, by omega, fun F' H4 S4 M4 => ?_⟩
      obtain ⟨dx, bk, D, R, hF⟩ := S4.ex
      refine s_fladd T.cl T.n_many R.ins (by show 5 < 1000; decide) fl_many ev_c (ev_var rfl) fun H5 e5 => ?_
      refine kQ k rfl hge F' _ ⟨S.hb, S.hb2, dx, bk, D, (R.mono e5).fld rfl ?_ fun a o ha h => by rw [upd_ne ha]; exact h, hF⟩ fun a o h hnf => ?_
      · rw [upd_same, show ((n : Int) + 1) = ((n + 1 : Nat) : Int) from rfl, fp_many]
        rfl
      · obtain ⟨g1, g2⟩ := M4 a o (e3 _ _ (e2 _ _ (e1 _ _ h))) hnf
        refine ⟨?_, g2⟩
        rw [upd_ne fun z => g2 ((hF a).mpr (Or.inl z))]
        exact e5 _ _ g1
/-! ### Store.take -/
def spTake (ST BA : Addr) : Sp := fun vs H Q E => ∃ st b s n F, vs = [.ref st] ∧ SAt ST b st s n F H ∧ s.Ok b ∧ Tot s n ∧ n ≤ 5000 ∧ (n = 0 → ∀ H1, Ex H H1 → E (.ref BA) none H1) ∧
  ∀ s' t p F' H', Goes b s s' t → SAt ST b st s' (n - 1) F' H' → Mv F F' H H' → H' p = some (.tup (tV t)) → Q (.ref p) H'
theorem O_Store_take (T : Txt K mg NB NN FE LA BA ST) : OwnM P w K mg base ST "take" 5 ["self"] (spTake ST BA) := by
  have O_Store__lowest := O_Store__lowest (P := P) (w := w) (base := base) T
  have O_Store__fall := O_Store__fall (P := P) (w := w) (base := base) T
  refine ownM_of T.d_Store_take sc_Store_take (fun vs H Q E h => ?_) (fun f cdv A outer s H vs Q E hr h => ⟨_, (pss_cons (ps_set (i := 1) sc_Store_take.nd rfl (Or.inl rfl) (pe_ownM0 O_Store__lowest T.cl hr (by decide) ps_out (pv 0)))
    (pss_cut (ps_if (pt_cmpR op_gt (pv 1) pe_int (nomark _))
    (pss_one (ps_expr (pe_ownM O_Store__fall T.cl hr (by decide) passN (pv 0) (pa_cons (pv 1) pa_nil))))
    pss_nil)
    (pss_cons (ps_set (i := 2) sc_Store_take.nd rfl (Or.inl rfl) (pe_bm PySem.F.plainAttrs_list PySem.F.slot_list_pop PySem.F.type_list_pop mt_popAt (pe_dget (hu_of hr) (pe_fld (pv 0) rfl) pe_int (fun _ _ => rfl)) (pa_cons pe_int pa_nil)))
    (pss_cut (ps_if (pt_cmpR op_eq (pe_callB call_len_seq (by rfl) T.b_len PySem.boot_len (pa_cons (pe_dget (hu_of hr) (pe_fld (pv 0) rfl) pe_int (fun _ _ => rfl)) pa_nil)) pe_int (nomark _))
    (pss_one (ps_ddel (pe_fld (pv 0) rfl) pe_int))
    pss_nil)
    (pss_cons (ps_fldaug (pv 0) pe_int in_sub)
    (pss_one (ps_ret (pv 2)))))))), ?_⟩)
  · obtain ⟨st, b, s, n, F, rfl, _⟩ := h
    rfl
  · obtain ⟨st, b, s, n, F, rfl, S, ok, hT, hn, kE, kQ⟩ := h
    refine q_te (c_sto S (by decide +kernel) (ev_var rfl) ea_nil fun H1 e1 S1 => ?_)
    refine ⟨st, b, s, n, F, rfl, S1, hT, fun h0 H2 e2 => kE h0 H2 (e1.trans e2), fun p hp H2 e2 => ?_⟩
    have S2 := S1.mono e2
    have hn0 : 0 < n := by
      by_cases z : n = 0
      · exact absurd (tot_none hT z p) hp.ne
      · omega
    refine q_cut (M := fun σ3 H3 => ∃ (s1 : Sto Str) (F3 : Addr → Prop) (t : Thing Str) (r : List (Thing Str)), σ3 = [some (.ref st), some (.int (p : Int)), none] ∧ SAt ST b st s1 n F3 H3 ∧ Mv F F3 H H3 ∧ s1.B 0 = t :: r ∧ Tot s1 n ∧ Goes b s s1.pop t) ?_ ?_
    · refine s_when (b := decide (0 < p)) (et_is (et_test (ev_op (ev_var rfl) ev_c rv_I0)) (decide_eq_decide.mpr ⟨fun z => by omega, fun z => by omega⟩)) (fun ht H3 e3 => ?_) (fun ht H3 e3 => ?_)
      · have h0 := of_decide_eq_true ht
        refine s_dr (c_sto (S2.mono e3) (by decide +kernel) (ev_var rfl) (ea_cons (ev_var rfl) ea_nil) fun H4 e4 S4 => ?_)
        refine ⟨st, b, s, n, F, p, n, rfl, S4, ok, hp, hT, hn, fun μ F' H' hL S' M' => ?_⟩
        obtain ⟨t', ht', hz'⟩ := hL.mem
        have hz : (s.fallAt b p μ).B 0 ≠ [] := by
          rw [fall_zero S.hb h0]
          intro z
          rw [List.map_eq_nil_iff, List.filter_eq_nil_iff] at z
          exact z t' ht' (decide_eq_true hz')
        obtain ⟨t, r, htr⟩ := List.exists_cons_of_ne_nil hz
        exact ⟨_, F', t, r, rfl, S', (Mv.ex (((e1.trans e2).trans e3).trans e4)).trans M', htr, tot_fall hp (fun t ht => part_in S.hb ok hL ht) hT, ⟨p, hp, Or.inr ⟨h0, μ, r, hL, htr, rfl⟩⟩⟩
      · have h0 : p = 0 := by
          have := of_decide_eq_false ht
          omega
        subst h0
        obtain ⟨t, r, htr⟩ := List.exists_cons_of_ne_nil hp.ne
        exact ⟨s, F, t, r, rfl, S2.mono e3, Mv.ex ((e1.trans e2).trans e3), htr, hT, ⟨0, hp, Or.inl ⟨rfl, r, htr, rfl⟩⟩⟩
    · rintro σ3 H3 ⟨s1, F3, t, r, rfl, S3, M3, hB, hT3, hg⟩
      obtain ⟨dx, bk, D, R, hF⟩ := S3.ex
      obtain ⟨l, hl⟩ := R.key (q := 0) (by rw [hB]; exact List.cons_ne_nil _ _)
      obtain ⟨ps, hps, htp⟩ := R.ls _ hl
      have hps : H3 l = some (.lst ps) := hps
      have htp : Tups H3 ps ((s1.B 0).map tV) := htp
      rw [hB] at htp
      obtain ⟨a1, a2, a3, a4⟩ := R.apart
      obtain ⟨c1, c2, c3⟩ := a4 _ hl
      cases ps with
      | nil => exact htp.elim
      | cons x ps =>
      obtain ⟨⟨pt, rfl, hpt⟩, htr⟩ := htp
      refine q_pop0 (ev_dget (q := 0) (ev_fld T.cl T.n__buckets R.ins fl_buckets (ev_var rfl)) ev_c R.dk (val_in (q := 0) R.nd1 hl)) ev_c hps fun H4 e4 => ?_
      have k4 : ∀ a o, a ≠ l → H3 a = some o → (upd H4 l (.lst ps)) a = some o := fun a o ha h => by
        rw [upd_ne ha]
        exact e4 _ _ h
      have hlp : (pt : Addr) ≠ l := ne_of hpt hps (by intro z; cases z)
      have htr4 : Tups (upd H4 l (.lst ps)) ps (r.map tV) := tups_keep (fun a xs h => k4 a _ (ne_of h hps (by intro z; cases z)) h) htr
      have i4 := k4 _ _ (Ne.symm c1) R.ins
      have d4 := k4 _ _ (Ne.symm c3) R.dk
      have inF : F3 l := (hF l).mpr (Or.inr (Or.inr (Or.inr (List.mem_map_of_mem (f := Prod.snd) hl))))
      refine q_cut (M := fun σ5 H5 => ∃ F5, σ5 = [some (.ref st), some (.int (p : Int)), some (.ref pt)] ∧ SAt ST b st s1.pop n F5 H5 ∧ Mv F3 F5 H3 H5) ?_ ?_
      · refine s_when (b := decide (r = [])) (et_is (et_test (ev_op (ev_len (ev_dget (q := 0) (ev_fld T.cl T.n__buckets i4 fl_buckets (ev_var rfl)) ev_c d4 (val_in (q := 0) R.nd1 hl)) (sq_of upd_same)) ev_c (rv_eq rfl))) ?_) (fun ht H5 e5 => ?_) (fun ht H5 e5 => ?_)
        · have e1 : ps.length = r.length := by rw [tups_len htr, List.length_map]
          rw [e1]
          cases r with
          | nil => rfl
          | cons _ _ =>
            rw [decide_eq_false (List.cons_ne_nil _ _)]
            refine decide_eq_false fun z => ?_
            injection z with z
            rw [List.length_cons] at z
            omega
        · have hr0 := of_decide_eq_true ht
          refine s_ddel (ev_fld T.cl T.n__buckets (e5 _ _ i4) fl_buckets (ev_var rfl)) (q := 0) ev_c (e5 _ _ d4) (val_in (q := 0) R.nd1 hl) fun H6 e6 => ?_
          have key : ∀ a o, a ≠ bk → a ≠ l → H3 a = some o → (upd H6 bk (.dK (dropK (D.map ent) (Sum.inl (0 : Int))))) a = some o := fun a o ha hb h => by
            rw [upd_ne ha]
            exact e6 _ _ (e5 _ _ (k4 a o hb h))
          have hcut := R.cut hl (H' := upd H6 bk (.dK (dropK (D.map ent) (Sum.inl (0 : Int))))) (by
            rw [upd_same]
            exact congrArg some (congrArg HO.dK (drop_ent (p := 0) D))) fun a o ha h hor => key a o ha (fun z => by
              rcases hor with z2 | ⟨xs, z2⟩
              · exact absurd (z ▸ z2) (R.cut_not hl)
              · rw [z, hps, z2] at h
                cases h) h
          have e7 : s1.cut 0 = s1.pop := sto_ext rfl (fun q => by
            show (if q = 0 then [] else s1.B q) = if q = 0 then (s1.B 0).tail else s1.B q
            rw [hB, hr0]
            rfl) rfl
          rw [e7] at hcut
          refine ⟨foot st dx bk (cutD D 0), rfl, ⟨S.hb, S.hb2, dx, bk, _, hcut.1, fun _ => Iff.rfl⟩, fun a o h hnf => ⟨?_, fun z => hnf ((hF a).mpr ?_)⟩⟩
          · exact key a o (fun z => hnf ((hF a).mpr (Or.inr (Or.inr (Or.inl z))))) (fun z => hnf (z ▸ inF)) h
          · rcases z with z | z | z | z
            · exact Or.inl z
            · exact Or.inr (Or.inl z)
            · exact Or.inr (Or.inr (Or.inl z))
            · obtain ⟨e, he, rfl⟩ := List.mem_map.mp z
              exact Or.inr (Or.inr (Or.inr (List.mem_map_of_mem (mem_cut.mp he).1)))
        · have hr0 := of_decide_eq_false ht
          refine ⟨F3, rfl, ⟨S.hb, S.hb2, dx, bk, D, (R.lst (s' := s1.pop) (H' := upd H4 l (.lst ps)) hl upd_same (tups_keep (fun a xs h => h) (show Tups H3 ps (r.map tV) from htr)) hr0 rfl rfl (fun q => ?_) k4).mono e5, hF⟩, fun a o h hnf => ⟨e5 _ _ (k4 a o (fun z => hnf (z ▸ inF)) h), hnf⟩⟩
          show (if q = 0 then (s1.B 0).tail else s1.B q) = _
          rw [hB]
          rfl
      · rintro σ5 H5 ⟨F5, rfl, S5, M5⟩
        obtain ⟨dx5, bk5, D5, R5, hF5⟩ := S5.ex
        refine q_flsub T.cl T.n_many R5.ins (by show 5 < 1000; decide) fl_many ev_c (ev_var rfl) fun H6 e6 => ?_
        have hpt5 : H5 pt = some (.tup (tV t)) := M5.tup S3 hpt
        refine s_ret (ev_var rfl) fun H7 e7 => ?_
        have hput : (upd H6 st (.ins ST dx5 (putF "many" (.int ((n : Int) - 1)) (flds b s1.pop.last n s1.pop.moves bk5)))) st = some (.ins ST dx5 (flds b s1.pop.last (n - 1) s1.pop.moves bk5)) := by
          rw [upd_same, show ((n : Int) - 1) = ((n - 1 : Nat) : Int) from by omega, fp_many]
        have R6 := (R5.mono e6).fld (n' := n - 1) (s' := s1.pop) rfl hput fun a o ha h => by rw [upd_ne ha]; exact h
        have nst : (pt : Addr) ≠ st := ne_of hpt5 R5.ins (by intro z; cases z)
        refine kQ s1.pop t pt F5 H7 hg ⟨S.hb, S.hb2, dx5, bk5, D5, R6.mono e7, hF5⟩ (M3.trans (M5.trans fun a o h hnf => ⟨e7 _ _ ?_, hnf⟩)) (e7 _ _ ?_)
        · rw [upd_ne fun z => hnf ((hF5 a).mpr (Or.inl z))]
          exact e6 _ _ h
        · rw [upd_ne nst]
          exact e6 _ _ hpt5
/-! ### Store.least -/
theorem least_goes {b p i : Nat} {s : Sto Str} {t0 : Thing Str} (hb : 2 ≤ b) (ok : s.Ok b) (hp : Low s p) (hf : FirstT (s.B p) i t0) : ∃ s' t, Goes b s s' t ∧ t.num = t0.num ∧ t.name = t0.name := by
  by_cases h0 : p = 0
  · subst h0
    obtain ⟨t, r, htr⟩ := List.exists_cons_of_ne_nil hp.ne
    refine ⟨s.pop, t, ⟨0, hp, Or.inl ⟨rfl, r, htr, rfl⟩⟩, ?_⟩
    have h1 := zero_num hb ok (t := t) (by rw [htr]; exact List.mem_cons_self)
    have h2 := zero_num hb ok (t := t0) (List.mem_of_getElem? hf.at_)
    have h3 : i = 0 := by
      by_cases z : i = 0
      · exact z
      · have := (hf.le 0 t (by rw [htr] <;> rfl)).2 (by omega)
        omega
    subst h3
    have h4 := hf.at_
    rw [htr] at h4
    have h4 : t = t0 := by simpa using h4
    rw [h4]
    exact ⟨rfl, rfl⟩
  · have hL : Least (s.B p) t0.num := ⟨⟨t0, List.mem_of_getElem? hf.at_, rfl⟩, fun u hu => by
      obtain ⟨j, hj⟩ := List.mem_iff_getElem?.mp hu
      exact (hf.le j u hj).1⟩
    have h1 : ((s.B p).filter fun t => decide (t.num = t0.num)).head? = some t0 := by
      have key : ∀ (l : List (Thing Str)) (i : Nat), FirstT l i t0 → (l.filter fun t => decide (t.num = t0.num)).head? = some t0 := by
        intro l
        induction l with
        | nil =>
          intro i h
          have := h.at_
          simp at this
        | cons x r ih =>
          intro i h
          cases i with
          | zero =>
            have e : x = t0 := by simpa using h.at_
            subst e
            rw [List.filter_cons_of_pos (by simp)]
            rfl
          | succ i =>
            have hx := (h.le 0 x rfl).2 (by omega)
            rw [List.filter_cons_of_neg (by simp only [decide_eq_true_eq]; omega)]
            exact ih i ⟨by simpa using h.at_, fun j u hj => by
              have := h.le (j + 1) u (by simpa using hj)
              exact ⟨this.1, fun z => this.2 (by omega)⟩⟩
      exact key _ i hf
    have h2 : (s.fallAt b p t0.num).B 0 = ((s.B p).filter fun t => decide (t.num = t0.num)).map Thing.inc := fall_zero hb (by omega)
    obtain ⟨r, hr⟩ : ∃ r, ((s.B p).filter fun t => decide (t.num = t0.num)) = t0 :: r := by
      cases e : ((s.B p).filter fun t => decide (t.num = t0.num)) with
      | nil =>
        rw [e] at h1
        cases h1
      | cons y r =>
        rw [e] at h1
        have : y = t0 := by simpa using h1
        exact ⟨r, by rw [this]⟩
    rw [hr, List.map_cons] at h2
    exact ⟨_, t0.inc, ⟨p, hp, Or.inr ⟨by omega, t0.num, _, hL, h2, rfl⟩⟩, rfl, rfl⟩
def spLeast (ST BA : Addr) : Sp := fun vs H Q E => ∃ st b s n F, vs = [.ref st] ∧ SAt ST b st s n F H ∧ s.Ok b ∧ Tot s n ∧ (n = 0 → ∀ H1, Ex H H1 → E (.ref BA) none H1) ∧
  ∀ s' t p H1, Goes b s s' t → Ex H H1 → H p = none → H1 p = some (.tup [.int (t.num : Int), .str t.name]) → Q (.ref p) H1
theorem O_Store_least (T : Txt K mg NB NN FE LA BA ST) : OwnM P w K mg base ST "least" 4 ["self"] (spLeast ST BA) := by
  have O_first_of_least := O_first_of_least (P := P) (w := w) (base := base) T
  have O_Store__lowest := O_Store__lowest (P := P) (w := w) (base := base) T
  refine ownM_of T.d_Store_least sc_Store_least (fun vs H Q E h => ?_) (fun f cdv A outer s H vs Q E hr h => ⟨_, (pss_cons (ps_asg (pe_own O_first_of_least hr (by decide) passN (pa_cons (pe_dget (hu_of hr) (pe_fld (pv 0) rfl) (pe_ownM0 O_Store__lowest T.cl hr (by decide) ps_out (pv 0)) (fun _ _ => rfl)) pa_nil)) (pg_tup rfl (pgs_cons (pg_name (i := 1) sc_Store_least.nd rfl (Or.inl rfl)) (pgs_cons (pg_name (i := 2) sc_Store_least.nd rfl (Or.inl rfl)) (pgs_cons (pg_name (i := 3) sc_Store_least.nd rfl (Or.inl rfl)) pgs_nil)))))
    (pss_one (ps_ret (pe_tup (pa_cons (pv 1) (pa_cons (pv 2) pa_nil)))))), ?_⟩)
  · obtain ⟨st, b, s, n, F, rfl, _⟩ := h
    rfl
  · obtain ⟨st, b, s, n, F, rfl, S, ok, hT, kE, kQ⟩ := h
    obtain ⟨dx, bk, D, R, hF⟩ := S.ex
    refine q_tu (c_call1 (c_dget (ev_fld T.cl T.n__buckets R.ins fl_buckets (ev_var rfl)) fun H1 e1 => c_sto (S.mono e1) (by decide +kernel) (ev_var rfl) ea_nil fun H2 e2 S2 => ?_))
    refine ⟨st, b, s, n, F, rfl, S2, hT, fun h0 H3 e3 => kE h0 H3 ((e1.trans e2).trans e3), fun p hp H3 e3 => ?_⟩
    have e13 := (e1.trans e2).trans e3
    have R3 := R.mono e13
    obtain ⟨l, hl⟩ := R3.key hp.ne
    obtain ⟨ps, hps, htp⟩ := R3.ls _ hl
    have htp : Tups H3 ps ((s.B p).map tV) := htp
    obtain ⟨i, t0, hf⟩ := first_ex (ts := s.B p) hp.ne
    obtain ⟨pa, hpa, hpat⟩ := tups_get htp (i := i) (xs := tV t0) (by rw [List.getElem?_map, hf.at_] <;> rfl)
    refine ⟨bk, .ref l, rfl, ?_, ⟨.ref pa, ⟨l, ps, s.B p, i, t0, rfl, hps, htp, hf, hpa⟩, fun H4 e4 => ?_⟩⟩
    · have := DGet.k (k := Sum.inl (p : Int)) R3.dk
      rw [val_in R3.nd1 hl] at this
      exact this
    · obtain ⟨s', t, hg, g1, g2⟩ := least_goes S.hb ok hp hf
      refine g_tup3 (e4 _ _ hpat) ?_
      refine s_retU (eu_tup (ea_cons (ev_var rfl) (ea_cons (ev_var rfl) ea_nil)) (by show 2 ≤ 100000; decide)) fun q H5 hq e5 h5 => ?_
      have h5 : H5 q = some (.tup [.int (t0.num : Int), .str t0.name]) := h5
      rw [← g1, ← g2] at h5
      exact kQ s' t q H5 hg ((e13.trans e4).trans e5) (fresh_back (e13.trans e4) hq) h5
/-! ### Store.rows -/
def spRows (ST : Addr) : Sp := fun vs H Q _ => ∃ st b s n F m, vs = [.ref st] ∧ SAt ST b st s n F H ∧ Tot s m ∧ m ≤ 1000 ∧ Few s ∧
  ∀ R p ps H1, IsRows s R → Ex H H1 → H p = none → H1 p = some (.lst ps) → Tups H1 ps (R.map rV) → Q (.ref p) H1
theorem O_Store_rows (T : Txt K mg NB NN FE LA BA ST) : OwnM P w K mg base ST "rows" 1 ["self"] (spRows ST) := by
  refine ownM_of T.d_Store_rows sc_Store_rows (fun vs H Q E h => ?_) (fun f cdv A outer s H vs Q E hr h => ⟨_, (pss_cons (ps_set (i := 1) sc_Store_rows.nd rfl (Or.inl rfl) (pe_lst pa_nil))
    (pss_cons (ps_for pw rfl (pi_list (pe_callB (call_sortDI rfl) (by rfl) T.b_sorted (by decide +kernel) (pa_cons (pe_fld (pv 0) rfl) pa_nil))) (pg_name (i := 2) sc_Store_rows.nd rfl (Or.inl rfl))
    (pss_one (ps_for pw rfl (pi_list (pe_dget (hu_of hr) (pe_fld (pv 0) rfl) (pv 2) (fun _ _ => rfl))) (pg_tup rfl (pgs_cons (pg_name (i := 3) sc_Store_rows.nd rfl (Or.inl rfl)) (pgs_cons (pg_name (i := 4) sc_Store_rows.nd rfl (Or.inl rfl)) (pgs_cons (pg_name (i := 5) sc_Store_rows.nd rfl (Or.inl rfl)) pgs_nil))))
    (pss_one (ps_expr (pe_bm PySem.F.plainAttrs_list PySem.F.slot_list_append PySem.F.type_list_append mt_append (pv 1) (pa_cons (pe_tup (pa_cons (pv 2) (pa_cons (pv 3) (pa_cons (pv 4) (pa_cons (pv 5) pa_nil))))) pa_nil)))))))
    (pss_one (ps_ret (pv 1))))), ?_⟩)
  · obtain ⟨st, b, s, n, F, m, rfl, _⟩ := h
    rfl
  · obtain ⟨st, b, s, n, F, m, rfl, S, hT, hm, few, kQ⟩ := h
    refine q_asgL (el_lst ea_nil (Nat.zero_le _)) fun pl H1 hpl e1 hL => ?_
    have S1 := S.mono e1
    obtain ⟨dx, bk, D, R, hF⟩ := S1.ex
    have hD : D.length < 64 := by
      have := few (D.map Prod.fst) R.nd1 fun q hq => by
        obtain ⟨e, he, rfl⟩ := List.mem_map.mp hq
        exact R.ne e he
      rw [List.length_map] at this
      exact this
    have hlen : ∀ q, (s.B q).length ≤ m := fun q => (tot_upd (s' := s.cut q) (q := q) (l := []) hT fun _ => rfl).1
    refine q_forSortDI (ev_fld T.cl T.n__buckets R.ins fl_buckets (ev_var rfl)) R.dk R.nd1 hD fun ks p H2 hks hmem hp e2 hP => ?_
    have hkl : ks.length < 64 := by
      refine few ks (hks.imp fun h => by omega) fun q hq => ?_
      obtain ⟨e, he, rfl⟩ := List.mem_map.mp ((hmem q).mp hq)
      exact R.ne e he
    have npl : p ≠ pl := fun z => by
      rw [z, hL] at hp
      cases hp
    refine ⟨fun i σ' H' => ∃ ps v2 v3 v4 v5, σ' = [some (.ref st), some (.ref pl), v2, v3, v4, v5] ∧ H' pl = some (.lst ps) ∧ Tups H' ps (((ks.take i).flatMap fun q => (s.B q).map fun t => (q, t)).map rV) ∧ Ex H H' ∧ H' p = some (.lst (ks.map fun (q : Nat) => V.int (q : Int))),
      ⟨[], none, none, none, none, rfl, e2 _ _ hL, True.intro, e1.trans e2, hP⟩, fun i σ' H' _ h => ?_, fun i q σ' H' hq h => ?_, fun σ' H' h => ?_⟩
    · obtain ⟨_, _, _, _, _, _, _, _, _, h⟩ := h
      exact h
    · obtain ⟨ps, v2, v3, v4, v5, rfl, h1, h2, e3, h3⟩ := h
      have S3 := S.mono e3
      obtain ⟨dx3, bk3, D3, R3, hF3⟩ := S3.ex
      have hqn : s.B q ≠ [] := by
        obtain ⟨e, he, rfl⟩ := List.mem_map.mp ((hmem q).mp (List.mem_of_getElem? hq))
        exact R.ne e he
      obtain ⟨l, hl⟩ := R3.key hqn
      obtain ⟨qs, hqs, htq⟩ := R3.ls _ hl
      have hqs : H' l = some (.lst qs) := hqs
      have htq : Tups H' qs ((s.B q).map tV) := htq
      have hlH : ∃ o, H l = some o := by
        obtain ⟨dx0, bk0, D0, R0, hF0⟩ := S.ex
        have : F l := (hF3 l).mpr (Or.inr (Or.inr (Or.inr (List.mem_map_of_mem (f := Prod.snd) hl))))
        exact R0.there ((hF0 l).mp this)
      have nll : l ≠ pl := fun z => by
        obtain ⟨o, ho⟩ := hlH
        rw [z, hpl] at ho
        cases ho
      have hbase : (((ks.take i).flatMap fun q => (s.B q).map fun t => (q, t))).length ≤ 63000 := by
        have h4 := flat_len (f := fun q => (s.B q).map fun t => (q, t)) (n := m) (ks := ks.take i) fun q _ => by
          rw [List.length_map]
          exact hlen q
        rw [List.length_take] at h4
        have h5 : min i ks.length * m ≤ 63 * m := Nat.mul_le_mul_right m (by omega)
        have h6 : 63 * m ≤ 63 * 1000 := Nat.mul_le_mul_left 63 hm
        omega
      have htake : (ks.take (i + 1)) = ks.take i ++ [q] := by
        rw [List.take_succ, hq]
        rfl
      refine s_forL (a := l) (xs := qs) (ev_dget (q := (q : Int)) (ev_fld T.cl T.n__buckets R3.ins fl_buckets (ev_var rfl)) (ev_var rfl) R3.dk (val_in R3.nd1 hl)) (sq_of hqs)
        (fun j σ2 H4 => ∃ ps v3 v4 v5, σ2 = [some (.ref st), some (.ref pl), some (.int (q : Int)), v3, v4, v5] ∧ H4 pl = some (.lst ps) ∧ Tups H4 ps (((ks.take i).flatMap fun q => (s.B q).map fun t => (q, t)).map rV ++ ((s.B q).take j).map fun t => rV (q, t)) ∧ Ex H H4 ∧ H4 p = some (.lst (ks.map fun (q : Nat) => V.int (q : Int))) ∧ H4 l = some (.lst qs) ∧ Tups H4 qs ((s.B q).map tV))
        (fun H4 e4 => ⟨ps, v3, v4, v5, rfl, e4 _ _ h1, ?_, e3.trans e4, e4 _ _ h3, e4 _ _ hqs, htq.mono e4⟩) (fun j σ2 H4 _ h => ?_) (fun j x σ2 H4 hx h => ?_) (fun σ2 H4 h => ?_)
      · rw [List.take_zero, List.map_nil, List.append_nil]
        exact h2.mono e4
      · obtain ⟨_, _, _, _, _, _, _, _, _, h, _⟩ := h
        exact sq_of h
      · obtain ⟨ps, v3, v4, v5, rfl, g1, g2, e4, g3, g4, g5⟩ := h
        have hj : j < (s.B q).length := by
          have h1 := (List.getElem?_eq_some_iff.mp hx).1
          rw [tups_len g5, List.length_map] at h1
          exact h1
        obtain ⟨pt, hpt1, hpt⟩ := tups_get g5 (i := j) (xs := tV (s.B q)[j]) (by rw [List.getElem?_map, List.getElem?_eq_getElem hj] <;> rfl)
        rw [hx] at hpt1
        cases hpt1
        have htk : (s.B q).take (j + 1) = (s.B q).take j ++ [(s.B q)[j]] := by
          rw [List.take_succ, List.getElem?_eq_getElem hj]
          rfl
        generalize (s.B q)[j] = u at hpt htk
        refine g_tup3 hpt ?_
        have hps : ps.length < 100000 := by
          rw [tups_len g2, List.length_append, List.length_map, List.length_map, List.length_take]
          have := hlen q
          omega
        refine s_appU g1 (ev_var rfl) (eu_tup (ea_cons (ev_var rfl) (ea_cons (ev_var rfl) (ea_cons (ev_var rfl) (ea_cons (ev_var rfl) ea_nil)))) (by show 4 ≤ 100000; decide)) hps fun pn H5 hn e5 h5 => ?_
        have hnpl : pn ≠ pl := fun z => by
          rw [z, g1] at hn
          cases hn
        have tk : ∀ a xs, H4 a = some (.tup xs) → (upd H5 pl (.lst (ps ++ [.ref pn]))) a = some (.tup xs) := fun a xs h => by
          rw [upd_ne (ne_of h g1 (by intro z; cases z))]
          exact e5 _ _ h
        refine ⟨_, _, _, _, rfl, upd_same, ?_, Ex.mut (e4.trans e5) hpl, ?_, ?_, tups_keep tk g5⟩
        · rw [htk, List.map_append, ← List.append_assoc]
          refine tups_snoc (tups_keep tk g2) ?_
          rw [upd_ne hnpl]
          exact h5
        · rw [upd_ne npl]
          exact e5 _ _ g3
        · rw [upd_ne nll]
          exact e5 _ _ g4
      · obtain ⟨ps, v3, v4, v5, rfl, g1, g2, e4, g3, g4, g5⟩ := h
        refine ⟨ps, _, v3, v4, v5, rfl, g1, ?_, e4, g3⟩
        have hlq : qs.length = (s.B q).length := by rw [tups_len htq, List.length_map]
        rw [hlq, List.take_length] at g2
        rw [htake, List.flatMap_append, List.map_append]
        simpa [List.map_map, Function.comp_def] using g2
    · obtain ⟨ps, v2, v3, v4, v5, rfl, h1, h2, e3, h3⟩ := h
      rw [List.take_length] at h2
      refine s_ret (ev_var rfl) fun H4 e4 => ?_
      obtain ⟨M, hM, hMn⟩ := hT.ex
      refine kQ (rowsTo s M) pl ps H4 ⟨M, hM, rfl⟩ (e3.trans e4) hpl (e4 _ _ h1) ?_
      rw [← rows_keys M ks hks (fun q hq => ?_) (fun q _ hq => ?_)]
      · exact h2.mono e4
      · obtain ⟨e, he, rfl⟩ := List.mem_map.mp ((hmem q).mp hq)
        by_cases z : e.1 < M
        · exact z
        · exact absurd (hM e.1 (by omega)) (R.ne e he)
      · obtain ⟨l, hl⟩ := R.key hq
        exact (hmem q).mpr (List.mem_map_of_mem (f := Prod.fst) hl)
theorem elt_rows {σ : L2.St} {H : Hp} {ta : TE} {E : XK} {st : Addr} {b : Nat} {s : Sto Str} {n m : Nat} {F : Addr → Prop} {R : List (Nat × Thing Str)} (S : SAt ST b st s n F H) (hT : Tot s m) (hm : m ≤ 1000) (few : Few s) (hR : IsRows s R) (ha : ∀ H1, Ex H H1 → Ev ta σ H1 (.ref st)) : EvLT (tMeth ST "rows" (spRows ST) [] E ta tNil) σ H (R.map rV) := fun H1 e Q q =>
  c_sto (S.mono e) (by decide +kernel) (ha H1 e) ea_nil fun H2 e2 S2 => ⟨st, b, s, n, F, m, rfl, S2, hT, hm, few, fun R' p ps H3 hR' e3 hp h3 t3 => by
    rw [rows_uniq hR' hR] at t3
    exact q p ps H3 (fresh_back e2 hp) (e2.trans e3) h3 t3⟩
/-! ### _law_cell_at -/
def D_cell (K : PySem.W.Frag) : List V → Hp → V → Prop := fun vs H z => ∃ (a : Addr) (ns : List Int) (k : Int), vs = [.ref a, .int k] ∧ 0 ≤ k ∧ SqL K H a (ns.map V.int) ∧ z = .int (L2.cellOf ns k.toNat)
theorem O__law_cell_at (T : Txt K mg NB NN FE LA BA ST) : Own P w K mg base "_law_cell_at" 1 ["_law_script", "_law_k"] (spD (D_cell K)) := by
  refine own_of T.d__law_cell_at sc__law_cell_at (fun vs H Q E h => ?_) (fun f cdv A outer s H vs Q E hr h => ⟨_, (pss_cons (ps_if (pt_cmpR op_lt (pv 1) (pe_callB call_len_seq (by rfl) T.b_len PySem.boot_len (pa_cons (pv 0) pa_nil)) (nomark _))
    (pss_one (ps_ret (pe_ix ix_list (pv 0) (pv 1) (fun _ _ => rfl))))
    pss_nil)
    (pss_one (ps_ret pe_int))), ?_⟩)
  · obtain ⟨z, ⟨a, ns, k, rfl, _⟩, _⟩ := h
    rfl
  · obtain ⟨z, ⟨a, ns, k, rfl, hk, hS, rfl⟩, q⟩ := h
    obtain ⟨j, rfl⟩ := Int.eq_ofNat_of_zero_le hk
    rw [Int.toNat_natCast] at q
    refine q_when (et_test (ev_op (ev_var rfl) (ev_len (ev_var rfl) hS) rv_I0)) (fun hb H1 e1 => ?_) (fun hb H1 e1 => ?_)
    · have h1 := of_decide_eq_true hb
      rw [List.length_map] at h1
      refine s_ret (ev_op (ev_var rfl) (ev_var rfl) (rv_ixL (ex_l e1 hS) (atI_cell (by omega)))) fun H2 e2 => q H2 (e1.trans e2)
    · have h1 := of_decide_eq_false hb
      rw [List.length_map] at h1
      rw [cell_out (by omega)] at q
      exact s_ret ev_c fun H2 e2 => q H2 (e1.trans e2)
theorem ev_cell {σ : L2.St} {H : Hp} {ta : TA} {E : XK} {a : Addr} {ns : List Int} {k : Int} (hS : SqL K H a (ns.map V.int)) (h : EvA ta σ H [.ref a, .int k]) (hk : 0 ≤ k) : Ev (tCall (spD (D_cell K)) [] E ta) σ H (.int (L2.cellOf ns k.toNat)) :=
  ev_D h fun H1 e1 => ⟨a, ns, k, rfl, hk, ex_l e1 hS, rfl⟩
/-! ### _law_room -/
def roomV (ns : List Int) (f : Bool) : Int := if f = true then 8 else if (63 : Int) < (ns.length : Int) then 90 else 28
def D_room (K : PySem.W.Frag) : List V → Hp → V → Prop := fun vs H z => ∃ (a : Addr) (ns : List Int) (f : Bool), vs = [.ref a, .bl f] ∧ SqL K H a (ns.map V.int) ∧ z = .int (roomV ns f)
theorem O__law_room (T : Txt K mg NB NN FE LA BA ST) : Own P w K mg base "_law_room" 1 ["_law_script", "_law_far"] (spD (D_room K)) := by
  refine own_of T.d__law_room sc__law_room (fun vs H Q E h => ?_) (fun f cdv A outer s H vs Q E hr h => ⟨_, (pss_cons (ps_if (pt_val (pv 1))
    (pss_one (ps_ret pe_int))
    pss_nil)
    (pss_cons (ps_if (pt_cmpR op_gt (pe_callB call_len_seq (by rfl) T.b_len PySem.boot_len (pa_cons (pv 0) pa_nil)) pe_int (nomark _))
    (pss_one (ps_ret pe_int))
    pss_nil)
    (pss_one (ps_ret pe_int)))), ?_⟩)
  · obtain ⟨z, ⟨a, ns, f, rfl, _⟩, _⟩ := h
    rfl
  · obtain ⟨z, ⟨a, ns, f, rfl, hS, rfl⟩, k⟩ := h
    unfold roomV at k
    refine q_when (et_B (ev_var rfl)) (fun ht H1 e1 => ?_) (fun ht H1 e1 => ?_)
    · rw [if_pos ht] at k
      exact s_ret ev_c fun H2 e2 => k H2 (e1.trans e2)
    · rw [if_neg (by rw [ht]; exact Bool.false_ne_true)] at k
      refine q_when (et_test (ev_op (ev_len (ev_var rfl) (ex_l e1 hS)) ev_c rv_I0)) (fun ht H2 e2 => ?_) (fun ht H2 e2 => ?_)
      · have h1 := of_decide_eq_true ht
        rw [List.length_map] at h1
        rw [if_pos (by omega)] at k
        exact s_ret ev_c fun H3 e3 => k H3 ((e1.trans e2).trans e3)
      · have h1 := of_decide_eq_false ht
        rw [List.length_map] at h1
        rw [if_neg (by omega)] at k
        exact s_ret ev_c fun H3 e3 => k H3 ((e1.trans e2).trans e3)
/-! ### _law_whole -/
def D_whole : List V → Hp → V → Prop := fun vs _ z => ∃ n : Int, vs = [.int n] ∧ z = .bl true
theorem O__law_whole (T : Txt K mg NB NN FE LA BA ST) : Own P w K mg base "_law_whole" 1 ["_law_found"] (spD D_whole) := by
  refine own_of T.d__law_whole sc__law_whole (fun vs H Q E h => ?_) (fun f cdv A outer s H vs Q E hr h => ⟨_, (pss_one (ps_ret (pe_and (pe_callB call_isi (by rfl) T.b_isinstance (by decide +kernel) (pa_cons (pv 0) (pa_cons (pe_bltn (v := .ty "int") rfl T.b_int (by decide +kernel) rfl) pa_nil))) (pe_one (pe_not (pe_callB call_isi (by rfl) T.b_isinstance (by decide +kernel) (pa_cons (pv 0) (pa_cons (pe_bltn (v := .ty "bool") rfl T.b_bool (by decide +kernel) rfl) pa_nil)))))))), ?_⟩)
  · obtain ⟨z, ⟨n, rfl, _⟩, _⟩ := h
    rfl
  · obtain ⟨z, ⟨n, rfl, rfl⟩, q⟩ := h
    refine s_ret (v := .bl true) (ev_is (v := .bl (true && !false)) (ev_andV (ev_isi (x := .int n) (c := .ty "int") (ea_cons (ev_var rfl) (ea_cons ev_c ea_nil)) (.ty "int") (fun _ _ => .base (.int n)) (kit_ty (b := "int") (by decide +kernel))) fun _ => ev_notV (ev_isi (x := .int n) (c := .ty "bool") (ea_cons (ev_var rfl) (ea_cons ev_c ea_nil)) (.ty "bool") (fun _ _ => .base (.int n)) (kit_ty (b := "bool") (by decide +kernel)))) rfl) q
/-! ### _law_length -/
def D_llen : List V → Hp → V → Prop := fun vs _ z => ∃ n b : Nat, vs = [.int (n : Int), .int (b : Int)] ∧ 2 ≤ b ∧ b ≤ 16 ∧ z = .int ((digs b n).length : Int)
theorem O__law_length (T : Txt K mg NB NN FE LA BA ST) : Own P w K mg base "_law_length" 1 ["_law_number", "_law_base"] (spD D_llen) := by
  refine own_of T.d__law_length sc__law_length (fun vs H Q E h => ?_) (fun f cdv A outer s H vs Q E hr h => ⟨_, (pss_cons (ps_set (i := 2) sc__law_length.nd rfl (Or.inl rfl) pe_int)
    (pss_cons (ps_while pw (pt_cmpR op_gt (pv 0) pe_int (nomark _))
    (pss_cons (ps_set (i := 0) sc__law_length.nd rfl (Or.inl rfl) (pe_op op_fdivW (pv 0) (pv 1)))
    (pss_one (ps_set (i := 2) sc__law_length.nd rfl (Or.inl rfl) (pe_op op_add (pv 2) pe_int)))))
    (pss_one (ps_ret (pv 2))))), ?_⟩)
  · obtain ⟨z, ⟨n, b, rfl, _⟩, _⟩ := h
    rfl
  · obtain ⟨z, ⟨n, b, rfl, hb, hb2, rfl⟩, k⟩ := h
    refine q_asg ev_c fun H1 e1 => ?_
    refine q_while (fun m σ' H' => Ex H H' ∧ ∃ d : Nat, d + (digs b m).length = (digs b n).length ∧ σ' = [some (.int ((m : Nat) : Int)), some (.int (b : Int)), some (.int (d : Int))]) n ⟨e1, 0, Nat.zero_add _, rfl⟩ ?_
    rintro m σ' H' ⟨e, d, hd, rfl⟩
    refine ⟨decide ((0 : Int) < (m : Int)), et_is (et_test (ev_op (ev_var rfl) ev_c rv_I0)) (by rfl), fun ht H5 e5 => ?_, fun ht H5 e5 => ?_⟩
    · have hm : 0 < m := by
        have := of_decide_eq_true ht
        omega
      refine ⟨fun σ2 H2 => ∃ m', m' < m ∧ Ex H H2 ∧ ∃ d : Nat, d + (digs b m').length = (digs b n).length ∧ σ2 = [some (.int ((m' : Nat) : Int)), some (.int (b : Int)), some (.int (d : Int))], fun _ _ h => h, ?_⟩
      refine q_asg (ev_op (ev_var rfl) (ev_var rfl) (rv_I (g := fun i j => .int (i / j)) (wide_div (b := 5) (by omega) (by rw [Int.natAbs_natCast]; omega) (by decide) (by decide)))) fun H6 e6 => ?_
      refine s_asg (ev_op (ev_var rfl) ev_c rv_I0) fun H7 e7 => ⟨m / b, Nat.div_lt_self hm (by omega), ((e.trans e5).trans e6).trans e7, d + 1, ?_, rfl⟩
      rw [digs_pos hb hm, List.length_cons] at hd
      omega
    · have hm : m = 0 := by
        have := of_decide_eq_false ht
        omega
      subst hm
      rw [digs_zero, List.length_nil, Nat.add_zero] at hd
      subst hd
      exact s_ret (ev_var rfl) fun H6 e6 => k H6 ((e.trans e5).trans e6)
/-! ### _law_first -/
def D_lfirst : List V → Hp → V → Prop := fun vs H z => ∃ (a : Addr) (ps : List V) (l : List (Nat × Str)) (i : Nat) (x : Nat × Str), vs = [.ref a] ∧ H a = some (.lst ps) ∧ Tups H ps (l.map nV) ∧ l.length ≤ 1000 ∧ IsFirst l i x ∧ z = .int (i : Int)
theorem O__law_first (T : Txt K mg NB NN FE LA BA ST) : Own P w K mg base "_law_first" 1 ["_law_things"] (spD D_lfirst) := by
  refine own_of T.d__law_first sc__law_first (fun vs H Q E h => ?_) (fun f cdv A outer s H vs Q E hr h => ⟨_, (pss_cons (ps_set (i := 1) sc__law_first.nd rfl (Or.inl rfl) pe_int)
    (pss_cons (ps_for pw rfl (pi_range1 (by rfl) T.b_range (pa_cons (pe_callB call_len_seq (by rfl) T.b_len PySem.boot_len (pa_cons (pv 0) pa_nil)) pa_nil)) (pg_name (i := 2) sc__law_first.nd rfl (Or.inl rfl))
    (pss_one (ps_if (pt_cmpR op_lt (pe_ix ix_tup (pe_ix ix_list (pv 0) (pv 2) (fun _ _ => rfl)) pe_int (fun _ _ => rfl)) (pe_ix ix_tup (pe_ix ix_list (pv 0) (pv 1) (fun _ _ => rfl)) pe_int (fun _ _ => rfl)) (nomark _))
    (pss_one (ps_set (i := 1) sc__law_first.nd rfl (Or.inl rfl) (pv 2)))
    pss_nil)))
    (pss_one (ps_ret (pv 1))))), ?_⟩)
  · obtain ⟨z, ⟨a, ps, l, i, x, rfl, _⟩, _⟩ := h
    rfl
  · obtain ⟨z, ⟨a, ps, l, i, x, rfl, ha, ht, hl, hf, rfl⟩, q⟩ := h
    have hpl : ps.length = l.length := by rw [tups_len ht, List.length_map]
    have h0 : 0 < l.length := by
      have := (List.getElem?_eq_some_iff.mp hf.at_).1
      omega
    refine q_asg ev_c fun H1 e1 => ?_
    refine q_forR1 (n := ((ps.length : Nat) : Int)) (ea_cons (ev_len (ev_var rfl) (sq_of (e1 _ _ ha))) ea_nil) ⟨by omega, by omega⟩ (fun k σ' H' => Ex H H' ∧ ∃ (at_ : Nat) (y : Nat × Str) (v : Option V), σ' = [some (.ref a), some (.int (at_ : Int)), v] ∧ l[at_]? = some y ∧ at_ ≤ k ∧ ∀ (j : Nat) (u : Nat × Str), j < k → l[j]? = some u → y.1 ≤ u.1 ∧ (j < at_ → y.1 < u.1))
      (fun H2 e2 => ⟨e1.trans e2, 0, l[0], none, rfl, List.getElem?_eq_getElem h0, Nat.le_refl _, fun j u hj => absurd hj (Nat.not_lt_zero _)⟩) ?_ ?_
    · rintro k σ' H' hk ⟨e, at_, y, v, rfl, hy, hat, hle⟩
      have hkl : k < l.length := by omega
      have hk2 := List.getElem?_eq_getElem hkl
      generalize l[k] = u at hk2
      have ht2 := ht.mono e
      refine s_when (b := decide ((u.1 : Int) < (y.1 : Int))) (et_test (ev_op (ev_num (ev_var rfl) (ev_var rfl) (e _ _ ha) ht2 hk2) (ev_num (ev_var rfl) (ev_var rfl) (e _ _ ha) ht2 hy) rv_I0)) (fun hb H2 e2 => ?_) (fun hb H2 e2 => ?_)
      · have hlt := of_decide_eq_true hb
        refine s_asg (ev_var rfl) fun H3 e3 => ⟨(e.trans e2).trans e3, k, u, _, rfl, hk2, by omega, fun j w hj hw => ?_⟩
        by_cases z : j = k
        · subst z
          rw [hk2] at hw
          cases hw
          exact ⟨Nat.le_refl _, fun z => absurd z (Nat.lt_irrefl _)⟩
        · have := (hle j w (by omega) hw).1
          exact ⟨by omega, fun _ => by omega⟩
      · have hge := of_decide_eq_false hb
        refine ⟨e.trans e2, at_, y, _, rfl, hy, by omega, fun j w hj hw => ?_⟩
        by_cases z : j = k
        · subst z
          rw [hk2] at hw
          cases hw
          exact ⟨by omega, fun z => by omega⟩
        · exact hle j w (by omega) hw
    · rintro σ' H' ⟨e, at_, y, v, rfl, hy, hat, hle⟩
      rw [Int.toNat_natCast, hpl] at hle
      have hf2 : IsFirst l at_ y := ⟨hy, fun j u hu => hle j u (List.getElem?_eq_some_iff.mp hu).1 hu⟩
      obtain ⟨e1, e2⟩ := hf2.uniq hf
      subst e1 e2
      exact s_ret (ev_var rfl) fun H2 e2 => q H2 (e.trans e2)
/-! ### _law_places -/
def spPlaces : Sp := fun vs H Q _ => ∃ (a : Addr) (ps : List V) (R : List Row), vs = [.ref a] ∧ H a = some (.lst ps) ∧ Tups H ps (R.map rV) ∧ R.length ≤ 1000 ∧ (R.map fun r => r.2.name).Nodup ∧ ∀ d H1, H d = none → Ex H H1 → PlAt H1 d R → Q (.ref d) H1
theorem O__law_places (T : Txt K mg NB NN FE LA BA ST) : Own P w K mg base "_law_places" 2 ["_law_rows"] spPlaces := by
  have O__law_whole := O__law_whole (P := P) (w := w) (base := base) T
  refine own_of T.d__law_places sc__law_places (fun vs H Q E h => ?_) (fun f cdv A outer s H vs Q E hr h => ⟨_, (pss_cons (ps_set (i := 1) sc__law_places.nd rfl (Or.inl rfl) pe_dnewK)
    (pss_cons (ps_if (pt_not (pt_val (pe_callB call_isi (by rfl) T.b_isinstance (by decide +kernel) (pa_cons (pv 0) (pa_cons (pe_bltn (v := .ty "list") rfl T.b_list (by decide +kernel) rfl) pa_nil)))))
    (pss_one (ps_ret (pv 1)))
    pss_nil)
    (pss_cons (ps_for pw rfl (pi_list (pv 0)) (pg_name (i := 2) sc__law_places.nd rfl (Or.inl rfl))
    (pss_cons (ps_if (PW.pt (pw_or (pt_not (pt_val (pe_callB call_isi (by rfl) T.b_isinstance (by decide +kernel) (pa_cons (pv 2) (pa_cons (pe_bltn (v := .ty "tuple") rfl T.b_tuple (by decide +kernel) rfl) pa_nil))))) (pw_or (pt_cmpR op_ne (pe_callB call_len_seq (by rfl) T.b_len PySem.boot_len (pa_cons (pv 2) pa_nil)) pe_int (nomark _)) (pw_or1 (pt_not (pt_val (pe_callB call_isi (by rfl) T.b_isinstance (by decide +kernel) (pa_cons (pe_ix ix_tup (pv 2) pe_int (fun _ _ => rfl)) (pa_cons (pe_bltn (v := .ty "str") rfl T.b_str (by decide +kernel) rfl) pa_nil)))))))))
    (pss_one (ps_ret pe_dnewK))
    pss_nil)
    (pss_cons (ps_if (PW.pt (pw_or (pt_not (pt_val (pe_own O__law_whole hr (by decide) passN (pa_cons (pe_ix ix_tup (pv 2) pe_int (fun _ _ => rfl)) pa_nil)))) (pw_or1 (pt_not (pt_val (pe_own O__law_whole hr (by decide) passN (pa_cons (pe_ix ix_tup (pv 2) pe_int (fun _ _ => rfl)) pa_nil)))))))
    (pss_one (ps_ret pe_dnewK))
    pss_nil)
    (pss_one (ps_asg (pe_tup (pa_cons (pe_ix ix_tup (pv 2) pe_int (fun _ _ => rfl)) (pa_cons (pe_ix ix_tup (pv 2) pe_int (fun _ _ => rfl)) pa_nil))) (pg_sub (pv 1) (pe_ix ix_tup (pv 2) pe_int (fun _ _ => rfl)) (set_dict (hu_of hr))))))))
    (pss_one (ps_ret (pv 1)))))), ?_⟩)
  · obtain ⟨a, ps, R, rfl, _⟩ := h
    rfl
  · obtain ⟨a, ps, R, rfl, hps, htp, hRl, hnd, k⟩ := h
    have hpl : ps.length = R.length := by rw [tups_len htp, List.length_map]
    refine q_te ?_
    intro d hd
    generalize hH1 : L2.upd H d (.dK []) = H1
    have e1 : Ex H H1 := hH1 ▸ Ex.new hd
    have hd1 : H1 d = some (.dK []) := by rw [← hH1]; exact upd_same
    refine q_when (b := false) (et_is (et_not (et_isLst (ev_var rfl) (e1 _ _ hps))) rfl) (fun z => nomatch z) fun _ H2 e2 => ?_
    have e12 := e1.trans e2
    refine q_forL (xs := ps) (ev_var rfl) (sq_of (e12 _ _ hps)) (fun i σ' H' => ∃ (ks : List (Key × V)) (v2 : Option V), σ' = [some (.ref a), some (.ref d), v2] ∧ Ex H H' ∧ H' d = some (.dK ks) ∧ PlL H' ks (R.take i))
      (fun H3 e3 => ⟨[], none, rfl, e12.trans e3, e3 _ _ (e2 _ _ hd1), True.intro⟩) (fun i σ' H' _ h => ?_) (fun i x σ' H' hx h => ?_) (fun σ' H' h => ?_)
    · obtain ⟨_, _, _, e, _⟩ := h
      exact sq_of (e _ _ hps)
    · obtain ⟨ks, v2, rfl, e, hks, hpk⟩ := h
      have hil : i < R.length := by
        have := (List.getElem?_eq_some_iff.mp hx).1
        omega
      have hRi := List.getElem?_eq_getElem hil
      obtain ⟨px, hpx, hpxt⟩ := tups_get htp (i := i) (xs := rV R[i]) (by rw [List.getElem?_map, hRi] <;> rfl)
      rw [hx] at hpx
      cases hpx
      have htake : R.take (i + 1) = R.take i ++ [R[i]] := by
        rw [List.take_succ, hRi]
        rfl
      have hnew : plf (R.take i) R[i].2.name = none := by
        rw [plf_none]
        intro r hr z
        obtain ⟨j, hj⟩ := List.mem_iff_getElem?.mp hr
        have hji : j < i := by
          have := (List.getElem?_eq_some_iff.mp hj).1
          rw [List.length_take] at this
          omega
        rw [List.getElem?_take_of_lt hji] at hj
        obtain ⟨hj1, hj2⟩ := List.getElem?_eq_some_iff.mp hj
        have h1 := List.pairwise_iff_getElem.mp (List.nodup_iff_pairwise_ne.mp hnd) j i (by rw [List.length_map]; exact hj1) (by rw [List.length_map]; exact hil) hji
        rw [List.getElem_map, List.getElem_map, hj2] at h1
        exact h1 z
      generalize R[i] = r at hpxt htake hnew
      have hp1 := e _ _ hpxt
      have hkl := pl_len hpk
      rw [List.length_take] at hkl
      refine q_when (b := false) (et_is (b := false) (et_or (a := false) (et_is (et_not (et_isTup (ev_var rfl) hp1)) rfl) fun _ => et_or (a := false) (b := false) (et_is (et_test (ev_op (ev_lenT (ev_var rfl) hp1) ev_c (rv_ne rfl))) rfl) fun _ => et_is (et_not (et_isStr (z := r.2.name) (ev_op (ev_var rfl) ev_c (rv_ixT (st_of hp1) (atI_nat (j := 2) rfl))))) rfl) rfl) (fun z => nomatch z) fun _ H3 e3 => ?_
      have hp3 := e3 _ _ hp1
      refine q_when (b := false) (et_is (b := false) (et_or (a := false) (b := false) (et_is (et_not (et_B (ev_D (z := .bl true) (ea_cons (ev_op (ev_var rfl) ev_c (rv_ixT (st_of hp3) (atI_nat (j := 0) rfl))) ea_nil) fun _ _ => ⟨_, rfl, rfl⟩))) rfl) fun _ => et_is (et_not (et_B (ev_D (z := .bl true) (ea_cons (ev_op (ev_var rfl) ev_c (rv_ixT (st_of hp3) (atI_nat (j := 3) rfl))) ea_nil) fun _ _ => ⟨_, rfl, rfl⟩))) rfl) rfl) (fun z => nomatch z) fun _ H4 e4 => ?_
      have e34 := e3.trans e4
      have hp4 := e4 _ _ hp3
      refine s_dputU (x := r.2.name) (xs := pcV r) (e34 _ _ hks) (eu_tup (ea_cons (ev_op (ev_var rfl) ev_c (rv_ixT (st_of hp4) (atI_nat (j := 0) rfl))) (ea_cons (ev_op (ev_var rfl) ev_c (rv_ixT (st_of hp4) (atI_nat (j := 3) rfl))) ea_nil)) (by show 2 ≤ 100000; decide)) (fun _ _ => ev_var rfl) (fun H5 e5 => ev_op (ev_var rfl) ev_c (rv_ixT (st_of (e5 _ _ hp4)) (atI_nat (j := 2) rfl))) (by omega) fun t H5 ht e5 h5 => ?_
      have e35 := e34.trans e5
      have hv := (pl_val r.2.name hpk).1 hnew
      rw [putK_new _ hv]
      have kk : ∀ a xs, H5 a = some (.tup xs) → (upd H5 d (.dK (ks ++ [(Sum.inr r.2.name, .ref t)]))) a = some (.tup xs) := fun a xs h => by
        rw [upd_ne (ne_of h (e35 _ _ hks) (by intro q; cases q))]
        exact h
      refine ⟨_, _, rfl, Ex.mut (e.trans e35) hd, upd_same, ?_⟩
      rw [htake]
      exact pl_snoc (kk _ _ h5) (pl_keep (fun a xs z => kk _ _ (e35 _ _ z)) hpk)
    · obtain ⟨ks, v2, rfl, e, hks, hpk⟩ := h
      rw [hpl, List.take_length] at hpk
      exact s_ret (ev_var rfl) fun H3 e3 => k d H3 hd (e.trans e3) ⟨ks, e3 _ _ hks, pl_keep (fun a xs z => e3 _ _ z) hpk⟩
/-! ### _law_steps -/
def StepOk (bR : List Row) (cm ln : Str → Option Nat) (r : Row) : Prop := ∃ m g, cm r.2.name = some m ∧ ln r.2.name = some g ∧ r.2.cnt + r.1 ≤ m ∧ r.2.cnt ≤ g ∧ (plf bR r.2.name = none → r.2.cnt = 0) ∧ ∀ q, plf bR r.2.name = some q → (q.1 = r.1 ∧ q.2.cnt = r.2.cnt) ∨ (r.1 < q.1 ∧ r.2.cnt = q.2.cnt + 1)
def spSteps : Sp := fun vs H Q _ => ∃ (a d c l : Addr) (bR aR : List Row) (cm ln : Str → Option Nat), vs = [.ref a, .ref d, .ref c, .ref l] ∧ PlAt H a bR ∧ PlAt H d aR ∧ CmAt H c cm ∧ CmAt H l ln ∧ (aR.map fun r => r.2.name).Nodup ∧ (∀ r ∈ aR, StepOk bR cm ln r) ∧ ∀ H1, Ex H H1 → Q (.int (movedN bR aR : Int)) H1
theorem O__law_steps (T : Txt K mg NB NN FE LA BA ST) : Own P w K mg base "_law_steps" 1 ["_law_before", "_law_after", "_law_came", "_law_lengths"] spSteps := by
  refine own_of T.d__law_steps sc__law_steps (fun vs H Q E h => ?_) (fun f cdv A outer s H vs Q E hr h => ⟨_, (pss_cons (ps_set (i := 4) sc__law_steps.nd rfl (Or.inl rfl) pe_int)
    (pss_cons (ps_lock (ps_for pw rfl (pi_keys (pv 1)) (pg_name (i := 5) sc__law_steps.nd rfl (Or.inl rfl))
    (pss_cons (ps_if (pt_cmp (pc_dnotin (hu_of hr) (pv 5) (pv 2)))
    (pss_one (ps_ret (pe_un un_neg pe_int)))
    pss_nil)
    (pss_cons (ps_asg (pe_dget (hu_of hr) (pv 1) (pv 5) (fun _ _ => rfl)) (pg_tup rfl (pgs_cons (pg_name (i := 6) sc__law_steps.nd rfl (Or.inl rfl)) (pgs_cons (pg_name (i := 7) sc__law_steps.nd rfl (Or.inl rfl)) pgs_nil))))
    (pss_cut (ps_if (pt_cmp (pc_dnotin (hu_of hr) (pv 5) (pv 0)))
    (pss_one (ps_if (pt_cmpR op_ne (pv 7) pe_int (nomark _))
    (pss_one (ps_ret (pe_un un_neg pe_int)))
    pss_nil))
    (pss_one (ps_if (pt_cmpR (show OpR _ (compareOp .NotEq) (rNeD K) from op_neD hr.units) (pe_dget (hu_of hr) (pv 0) (pv 5) (fun _ _ => rfl)) (pe_tup (pa_cons (pv 6) (pa_cons (pv 7) pa_nil))) (nomark _))
    (pss_cons (ps_set (i := 4) sc__law_steps.nd rfl (Or.inl rfl) (pe_op op_add (pv 4) pe_int))
    (pss_one (ps_if (PW.pt (pw_or (pt_cmpR op_le (pe_ix ix_tup (pe_dget (hu_of hr) (pv 0) (pv 5) (fun _ _ => rfl)) pe_int (fun _ _ => rfl)) (pv 6) (nomark _)) (pw_or1 (pt_cmpR op_ne (pe_op op_add (pe_ix ix_tup (pe_dget (hu_of hr) (pv 0) (pv 5) (fun _ _ => rfl)) pe_int (fun _ _ => rfl)) pe_int) (pv 7) (nomark _)))))
    (pss_one (ps_ret (pe_un un_neg pe_int)))
    pss_nil)))
    pss_nil)))
    (pss_one (ps_if (PW.pt (pw_or (pt_cmpR op_gt (pv 7) (pe_op op_sub (pe_dget (hu_of hr) (pv 2) (pv 5) (fun _ _ => rfl)) (pv 6)) (nomark _)) (pw_or1 (pt_cmpR op_gt (pv 7) (pe_dget (hu_of hr) (pv 3) (pv 5) (fun _ _ => rfl)) (nomark _)))))
    (pss_one (ps_ret (pe_un un_neg pe_int)))
    pss_nil)))))))
    (pss_one (ps_ret (pv 4))))), ?_⟩)
  · obtain ⟨a, d, c, l, bR, aR, cm, ln, rfl, _⟩ := h
    rfl
  · obtain ⟨a, d, c, l, bR, aR, cm, ln, rfl, ⟨kb, hkb, pkb⟩, ⟨ka, hka, pka⟩, ⟨kc, hkc, vkc⟩, ⟨kl, hkl, vkl⟩, hnd, hok, k⟩ := h
    refine q_asg ev_c fun H1 e1 => ?_
    have hka1 := e1 _ _ hka
    refine q_forKeys hka1 (fun _ => ev_var rfl) (fun i σ' => ∃ v5 v6 v7, σ' = [some (.ref a), some (.ref d), some (.ref c), some (.ref l), some (.int (movedN bR (aR.take i) : Int)), v5, v6, v7]) ⟨none, none, none, rfl⟩ (fun De H0 i ky v σ' H' hi hP lk e hN => ?_) (fun σ' H' hP e => ?_)
    · obtain ⟨v5, v6, v7, rfl⟩ := hP
      obtain ⟨r, hri, rfl⟩ := pl_get pka hi
      have hmem : r ∈ aR := List.mem_of_getElem? hri
      obtain ⟨m, g, hm, hg, h1, h2, h3, h4⟩ := hok r hmem
      have hmv : movedN bR (aR.take (i + 1)) = movedN bR (aR.take i) + if movedB bR r = true then 1 else 0 := by
        unfold movedN
        rw [List.take_succ, hri, List.filter_append, List.length_append]
        show _ + (List.filter (movedB bR) [r]).length = _
        rw [List.filter_cons]
        cases movedB bR r <;> rfl
      have rd : ∀ {q : Addr} {ks : List (Key × V)}, H q = some (.dK ks) → Rd H' q (.dK ks) := fun hq => ex_rd e (lk.rd hka1 (e1 _ _ hq))
      have tp : ∀ {t : Addr} {xs : List V}, H t = some (.tup xs) → H' t = some (.tup xs) := fun ht => e _ _ (lk.tup hka1 (e1 _ _ ht))
      obtain ⟨t, hvt, htt⟩ := (pl_val r.2.name pka).2 r (plf_mem hnd hmem)
      refine q_when (b := false) (et_is (et_B (ev_dnotin (x := r.2.name) (ev_var rfl) (ev_var rfl) (rd hkc))) (by rw [vkc, hm] <;> rfl)) (fun z => nomatch z) fun _ H2 e2 => ?_
      refine q_tu (ev_dgetS (x := r.2.name) (ev_var rfl) (ev_var rfl) (ex_rd e2 (rd hka)) hvt H2 (Ex.refl H2) _ fun H3 e3 => g_tup2 (a := .int (r.1 : Int)) (b := .int (r.2.cnt : Int)) ((e2.trans e3) _ _ (tp htt)) ?_)
      have e23 := e2.trans e3
      refine q_cut (M := fun σ2 H4 => σ2 = [some (.ref a), some (.ref d), some (.ref c), some (.ref l), some (.int (movedN bR (aR.take (i + 1)) : Int)), some (.str r.2.name), some (.int (r.1 : Int)), some (.int (r.2.cnt : Int))] ∧ Ex H3 H4) ?_ ?_
      · cases hb : plf bR r.2.name with
        | none =>
          have hmb : movedB bR r = false := by
            unfold movedB
            rw [hb]
          refine s_if (b := true) (et_is (et_B (ev_dnotin (x := r.2.name) (ev_var rfl) (ev_var rfl) (ex_rd e23 (rd hkb)))) (by rw [(pl_val r.2.name pkb).1 hb] <;> rfl)) (fun _ H4 e4 => ?_) (fun z => nomatch z)
          refine s_when (b := false) (et_is (et_test (ev_op (ev_var rfl) ev_c (rv_ne rfl))) (by rw [h3 hb] <;> rfl)) (fun z => nomatch z) fun _ H5 e5 => ⟨by rw [hmv, hmb] <;> rfl, e4.trans e5⟩
        | some q =>
          obtain ⟨u, hvu, hut⟩ := (pl_val r.2.name pkb).2 q hb
          have hu' := e23 _ _ (tp hut)
          have rb := ex_rd e23 (rd hkb)
          have old : ∀ {σ : L2.St} {H9 : Hp}, Ex H3 H9 → σ[0]? = some (some (.ref a)) → σ[5]? = some (some (.str r.2.name)) → Ev (tDGet (tVar 0) (tVar 5)) σ H9 (.ref u) := fun e9 s0 s5 => ev_dgetS (x := r.2.name) (ev_var s0) (ev_var s5) (ex_rd e9 rb) hvu
          refine s_if (b := false) (et_is (et_B (ev_dnotin (x := r.2.name) (ev_var rfl) (ev_var rfl) rb)) (by rw [hvu] <;> rfl)) (fun z => nomatch z) fun _ H4 e4 => ?_
          have hut4 := e4 _ _ hu'
          have hfl : ∀ x : Row, (pcV x).all flatOk = true := fun x => by simp [pcV, flatOk]
          have hmb : movedB bR r = !decide (q.1 = r.1 ∧ q.2.cnt = r.2.cnt) := by
            unfold movedB
            rw [hb]
          refine s_when (b := movedB bR r) (et_is (et_test (ev_opU (xs := pcV r) (old e4 rfl rfl) (eu_tup (ea_cons (ev_var rfl) (ea_cons (ev_var rfl) ea_nil)) (by show 2 ≤ 100000; decide)) fun p H5 hp e5 => rvl_neD (fun H6 e6 => dp_tup (e6 _ _ (e5 _ _ hut4)) (hfl q)) (fun H6 e6 => dp_tup (e6 _ _ hp) (hfl r)) (shaped_tup (hfl q)).1 (shaped_tup (hfl r)).1)) (by rw [hmb, show PyData.eqv (tD (pcV q)) (tD (pcV r)) = decide (q.1 = r.1 ∧ q.2.cnt = r.2.cnt) from eqv_pc _ _ _ _])) (fun ht H5 e5 => ?_) (fun ht H5 e5 => ⟨by rw [hmv, ht] <;> rfl, e4.trans e5⟩)
          have hlt : r.1 < q.1 ∧ r.2.cnt = q.2.cnt + 1 := by
            rcases h4 q hb with z | z
            · rw [hmb, decide_eq_true z] at ht
              cases ht
            · exact z
          have hut5 := e5 _ _ hut4
          refine q_asg (ev_op (ev_var rfl) ev_c rv_I0) fun H6 e6 => ?_
          have hut6 := e6 _ _ hut5
          have e46 := (e4.trans e5).trans e6
          refine s_when (b := false) (et_is (b := false) (et_or (a := false) (b := false) (et_is (et_test (ev_op (ev_op (old e46 rfl rfl) ev_c (rv_ixT (st_of hut6) (atI_nat (j := 0) (v := .int (q.1 : Int)) rfl))) (ev_var rfl) rv_I0)) (decide_eq_false (by omega))) fun _ => et_is (et_test (ev_op (x := .int ((q.2.cnt : Int) + 1)) (ev_op (ev_op (old e46 rfl rfl) ev_c (rv_ixT (st_of hut6) (atI_nat (j := 1) (v := .int (q.2.cnt : Int)) rfl))) ev_c rv_I0) (ev_var rfl) (rv_ne rfl))) (by rw [hlt.2]; simp)) rfl) (fun z => nomatch z) fun _ H7 e7 => ⟨by rw [hmv, ht] <;> rfl, e46.trans e7⟩
      · rintro σ2 H4 ⟨rfl, e4⟩
        have e24 := e23.trans e4
        have hvc : valV kc (Sum.inr r.2.name : Key) = some (.int (m : Int)) := by rw [vkc, hm] <;> rfl
        have hvl : valV kl (Sum.inr r.2.name : Key) = some (.int (g : Int)) := by rw [vkl, hg] <;> rfl
        refine s_when (b := false) (et_is (b := false) (et_or (a := false) (b := false) (et_is (et_test (ev_op (ev_var rfl) (ev_op (ev_dgetS (x := r.2.name) (ev_var rfl) (ev_var rfl) (ex_rd e24 (rd hkc)) hvc) (ev_var rfl) rv_I0) rv_I0)) (decide_eq_false (by omega))) fun _ => et_is (et_test (ev_op (ev_var rfl) (ev_dgetS (x := r.2.name) (ev_var rfl) (ev_var rfl) (ex_rd e24 (rd hkl)) hvl) rv_I0)) (decide_eq_false (by omega))) rfl) (fun z => nomatch z) fun _ H5 e5 => ?_
        exact hN _ _ ⟨_, _, _, rfl⟩ ((e.trans e24).trans e5)
    · obtain ⟨v5, v6, v7, rfl⟩ := hP
      rw [pl_len pka, List.take_length]
      exact s_ret (ev_var rfl) fun H2 e2 => k H2 ((e1.trans e).trans e2)
/-! ### _law_step_by -/
def stepPick (c : Int) : Int := if c % 7 = 0 then 10 else if c % 7 = 1 then 100 else if c % 7 = 2 then 1000 else if c % 7 = 3 then 10 else if c % 7 = 4 then 100 else if c % 7 = 5 then 10 ^ 6 else 10 ^ 12
theorem stepPick_pos (c : Int) : 0 < stepPick c := by
  unfold stepPick
  repeat (first | decide | split)
def D_step_by : List V → Hp → V → Prop := fun vs _ z => ∃ (c : Int) (f : Bool), vs = [.int c, .bl f] ∧ z = .int (if f = true then c % 10 ^ 40 else c / 21 % stepPick (c / 3))
theorem step_nn (c : Int) (f : Bool) : ∃ n : Nat, (if f = true then c % 10 ^ 40 else c / 21 % stepPick (c / 3)) = (n : Int) := by
  refine Int.eq_ofNat_of_zero_le ?_
  split
  · exact Int.emod_nonneg _ (by decide)
  · exact Int.emod_nonneg _ (by have := stepPick_pos (c / 3); omega)
theorem O__law_step_by (T : Txt K mg NB NN FE LA BA ST) : Own P w K mg base "_law_step_by" 1 ["_law_cell", "_law_far"] (spD D_step_by) := by
  refine own_of T.d__law_step_by sc__law_step_by (fun vs H Q E h => ?_) (fun f cdv A outer s H vs Q E hr h => ⟨_, (pss_cons (ps_if (pt_val (pv 1))
    (pss_one (ps_ret (pe_op op_mod (pv 0) (pe_op op_pow pe_int pe_int))))
    pss_nil)
    (pss_one (ps_ret (pe_op op_mod (pe_op op_fdivW (pv 0) pe_int) (pe_ix ix_list (pe_lst (pa_cons pe_int (pa_cons pe_int (pa_cons pe_int (pa_cons pe_int (pa_cons pe_int (pa_cons (pe_op op_pow pe_int pe_int) (pa_cons (pe_op op_pow pe_int pe_int) pa_nil)))))))) (pe_op op_mod (pe_op op_fdivW (pv 0) pe_int) pe_int) (fun _ _ => rfl)))))), ?_⟩)
  · obtain ⟨z, ⟨c, f, rfl, _⟩, _⟩ := h
    rfl
  · obtain ⟨z, ⟨c, f, rfl, rfl⟩, k⟩ := h
    refine q_when (et_B (ev_var rfl)) (fun ht H1 e1 => ?_) (fun ht H1 e1 => ?_)
    · subst ht
      exact s_ret (ev_op (ev_var rfl) (ev_pow10s 40 rfl (by decide)) (rv_I (g := fun i j => .int (i % j)) (by decide))) fun H2 e2 => k H2 (e1.trans e2)
    · subst ht
      have hat : atI [V.int 10, V.int 100, V.int 1000, V.int 10, V.int 100, V.int (10 ^ 6), V.int (10 ^ 12)] (c / 3 % 7) = some (.int (stepPick (c / 3))) := by
        have h7 : c / 3 % 7 = 0 ∨ c / 3 % 7 = 1 ∨ c / 3 % 7 = 2 ∨ c / 3 % 7 = 3 ∨ c / 3 % 7 = 4 ∨ c / 3 % 7 = 5 ∨ c / 3 % 7 = 6 := by omega
        unfold stepPick
        rcases h7 with h | h | h | h | h | h | h <;> rw [h] <;> rfl
      refine s_ret (ev_op (ev_op (ev_var rfl) ev_c (rv_I (g := fun i j => .int (i / j)) (wide_div (b := 5) (by decide) (by decide) (by decide) (by decide)))) (ix_ev (el_lst (ea_cons ev_c (ea_cons ev_c (ea_cons ev_c (ea_cons ev_c (ea_cons ev_c (ea_cons (ev_pow10s 6 rfl (by decide)) (ea_cons (ev_pow10s 12 rfl (by decide)) ea_nil))))))) (by show 7 ≤ 100000; decide)) (fun _ _ => ev_op (ev_op (ev_var rfl) ev_c (rv_I (g := fun i j => .int (i / j)) (wide_div (b := 2) (by decide) (by decide) (by decide) (by decide)))) ev_c (rv_I (g := fun i j => .int (i % j)) (by decide))) hat) (rv_I (g := fun i j => .int (i % j)) (stepPick_pos _))) fun H2 e2 => k H2 (e1.trans e2)
/-! ### _law_went -/
def D_went : List V → Hp → V → Prop := fun vs H z => ∃ (pg a l : Addr) (t : Thing Str) (bR : List Row) (ln : Str → Option Nat) (q : Row) (g : Nat), vs = [.ref pg, .str t.name, .ref a, .ref l] ∧ H pg = some (.tup (tV t)) ∧ PlAt H a bR ∧ CmAt H l ln ∧ plf bR t.name = some q ∧ ln t.name = some g ∧ t.cnt = q.2.cnt + (if 0 < q.1 then 1 else 0) ∧ t.cnt ≤ g ∧ z = .int (if 0 < q.1 then 1 else 0)
theorem ev_intB {σ : L2.St} {H : Hp} {ta : TE} {b : Bool} (h : Ev ta σ H (.bl b)) : Ev (tCB (fun xs H Q => (∃ i, xs = [.int i] ∧ Q (.int i) H) ∨ ∃ k, xs = [.bl k] ∧ Q (.int (if k then 1 else 0)) H) (tCons ta tNil)) σ H (.int (if b then 1 else 0)) := fun H1 e Q q =>
  h H1 e _ fun H2 e2 => Or.inr ⟨b, rfl, q H2 e2⟩
theorem O__law_went (T : Txt K mg NB NN FE LA BA ST) : Own P w K mg base "_law_went" 2 ["_law_gone", "_law_name", "_law_before", "_law_lengths"] (spD D_went) := by
  have O__law_whole := O__law_whole (P := P) (w := w) (base := base) T
  refine own_of T.d__law_went sc__law_went (fun vs H Q E h => ?_) (fun f cdv A outer s H vs Q E hr h => ⟨_, (pss_cons (ps_if (PW.pt (pw_or (pt_not (pt_val (pe_callB call_isi (by rfl) T.b_isinstance (by decide +kernel) (pa_cons (pv 0) (pa_cons (pe_bltn (v := .ty "tuple") rfl T.b_tuple (by decide +kernel) rfl) pa_nil))))) (pw_or (pt_cmpR op_ne (pe_callB call_len_seq (by rfl) T.b_len PySem.boot_len (pa_cons (pv 0) pa_nil)) pe_int (nomark _)) (pw_or (pt_cmpR op_ne (pe_ix ix_tup (pv 0) pe_int (fun _ _ => rfl)) (pv 1) (nomark _)) (pw_or1 (pt_cmp (pc_dnotin (hu_of hr) (pv 1) (pv 2))))))))
    (pss_one (ps_ret (pe_un un_neg pe_int)))
    pss_nil)
    (pss_cons (ps_asg (pe_dget (hu_of hr) (pv 2) (pv 1) (fun _ _ => rfl)) (pg_tup rfl (pgs_cons (pg_name (i := 4) sc__law_went.nd rfl (Or.inl rfl)) (pgs_cons (pg_name (i := 5) sc__law_went.nd rfl (Or.inl rfl)) pgs_nil))))
    (pss_cons (ps_if (PW.pt (pw_or (pt_not (pt_val (pe_own O__law_whole hr (by decide) passN (pa_cons (pe_ix ix_tup (pv 0) pe_int (fun _ _ => rfl)) pa_nil)))) (pw_or (pt_cmpR op_ne (pe_ix ix_tup (pv 0) pe_int (fun _ _ => rfl)) (pe_op op_add (pv 5) (pe_callTy call_int1 (by rfl) T.b_int (by decide +kernel) (pa_cons (pe_cmpR op_gt (pv 4) pe_int (nomark _)) pa_nil))) (nomark _)) (pw_or1 (pt_cmpR op_gt (pe_ix ix_tup (pv 0) pe_int (fun _ _ => rfl)) (pe_dget (hu_of hr) (pv 3) (pv 1) (fun _ _ => rfl)) (nomark _))))))
    (pss_one (ps_ret (pe_un un_neg pe_int)))
    pss_nil)
    (pss_one (ps_ret (pe_callTy call_int1 (by rfl) T.b_int (by decide +kernel) (pa_cons (pe_cmpR op_gt (pv 4) pe_int (nomark _)) pa_nil))))))), ?_⟩)
  · obtain ⟨z, ⟨pg, a, l, t, bR, ln, q, g, rfl, _⟩, _⟩ := h
    rfl
  · obtain ⟨z, ⟨pg, a, l, t, bR, ln, q, g, rfl, hpg, ⟨kb, hkb, pkb⟩, ⟨kl, hkl, vkl⟩, hq, hg, hc, hcg, rfl⟩, k⟩ := h
    obtain ⟨u, hvu, hut⟩ := (pl_val t.name pkb).2 q hq
    have hvl : valV kl (Sum.inr t.name : Key) = some (.int (g : Int)) := by rw [vkl, hg] <;> rfl
    refine q_when (b := false) (et_is (b := false) (et_or (a := false) (et_is (et_not (et_isTup (ev_var rfl) hpg)) rfl) fun _ => et_or (a := false) (et_is (et_test (ev_op (ev_lenT (ev_var rfl) hpg) ev_c (rv_ne rfl))) rfl) fun _ => et_or (a := false) (b := false) (et_is (et_test (ev_op (x := .str t.name) (ev_op (ev_var rfl) ev_c (rv_ixT (st_of hpg) (atI_nat (j := 1) rfl))) (ev_var rfl) (rv_ne rfl))) (by simp)) fun _ => et_is (et_B (ev_dnotin (x := t.name) (ev_var rfl) (ev_var rfl) (Or.inl hkb))) (by rw [hvu] <;> rfl)) rfl) (fun z => nomatch z) fun _ H1 e1 => ?_
    refine q_tu (ev_dgetS (x := t.name) (ev_var rfl) (ev_var rfl) (Or.inl (e1 _ _ hkb)) hvu H1 (Ex.refl H1) _ fun H2 e2 => g_tup2 (a := .int (q.1 : Int)) (b := .int (q.2.cnt : Int)) ((e1.trans e2) _ _ hut) ?_)
    have e12 := e1.trans e2
    have hpg2 := e12 _ _ hpg
    have hgt : decide ((q.1 : Int) > 0) = decide (0 < q.1) := by
      by_cases z : 0 < q.1
      · rw [decide_eq_true z]
        exact decide_eq_true (by omega)
      · rw [decide_eq_false z]
        exact decide_eq_false (by omega)
    have hif : (if decide ((q.1 : Int) > 0) = true then (1 : Int) else 0) = if 0 < q.1 then 1 else 0 := by
      rw [hgt]
      by_cases z : 0 < q.1
      · rw [if_pos z, if_pos (decide_eq_true z)]
      · rw [if_neg z, if_neg (by simpa using z)]
    have hcI : (t.cnt : Int) = (q.2.cnt : Int) + if 0 < q.1 then 1 else 0 := by
      rw [hc]
      by_cases z : 0 < q.1
      · rw [if_pos z, if_pos z]
        omega
      · rw [if_neg z, if_neg z]
        omega
    have iv : ∀ {σ : L2.St} {H9 : Hp}, σ[4]? = some (some (.int (q.1 : Int))) → Ev (tCB (fun xs H Q => (∃ i, xs = [.int i] ∧ Q (.int i) H) ∨ ∃ k, xs = [.bl k] ∧ Q (.int (if k then 1 else 0)) H) (tCons (tOp (rI0 fun i j => .bl (decide (i > j))) (tVar 4) (tC (.int 0))) tNil)) σ H9 (.int (if 0 < q.1 then 1 else 0)) := fun h4 => hif ▸ ev_intB (ev_op (ev_var h4) ev_c rv_I0)
    refine q_when (b := false) (et_is (b := false) (et_or (a := false) (et_is (et_not (et_B (ev_D (z := .bl true) (ea_cons (ev_op (ev_var rfl) ev_c (rv_ixT (st_of hpg2) (atI_nat (j := 2) rfl))) ea_nil) fun _ _ => ⟨_, rfl, rfl⟩))) rfl) fun _ => et_or (a := false) (b := false) (et_is (et_test (ev_op (x := .int (t.cnt : Int)) (ev_op (ev_var rfl) ev_c (rv_ixT (st_of hpg2) (atI_nat (j := 2) rfl))) (ev_op (ev_var rfl) (iv rfl) rv_I0) (rv_ne rfl))) (by rw [hcI]; simp)) fun _ => et_is (et_test (ev_op (ev_op (ev_var rfl) ev_c (rv_ixT (st_of hpg2) (atI_nat (j := 2) (v := .int (t.cnt : Int)) rfl))) (ev_dgetS (x := t.name) (ev_var rfl) (ev_var rfl) (Or.inl (e12 _ _ hkl)) hvl) rv_I0)) (decide_eq_false (by omega))) rfl) (fun z => nomatch z) fun _ H3 e3 => ?_
    exact s_ret (iv rfl) fun H4 e4 => k H4 ((e12.trans e3).trans e4)
def spLaw (K : PySem.W.Frag) : Sp := fun vs H Q _ => ∃ (a : Addr) (ns : List Int), vs = [.ref a] ∧ SqL K H a (ns.map V.int) ∧ ns.length ≤ 63 ∧ ∀ H', Q (.bl true) H'
def CmL (H : Hp) (d : Addr) (f : Str → Option Nat) (n : Nat) : Prop := ∃ ks : List (Key × V), H d = some (.dK ks) ∧ (∀ x, valV ks (Sum.inr x : Key) = (f x).map fun (n : Nat) => V.int (n : Int)) ∧ ks.length ≤ n
theorem CmL.cm {H : Hp} {d : Addr} {f : Str → Option Nat} {n : Nat} (h : CmL H d f n) : CmAt H d f := by
  obtain ⟨ks, h1, h2, _⟩ := h
  exact ⟨ks, h1, h2⟩
theorem CmL.mono {H H' : Hp} {d : Addr} {f : Str → Option Nat} {n m : Nat} (h : CmL H d f n) (e : Ex H H') (hm : n ≤ m) : CmL H' d f m := by
  obtain ⟨ks, h1, h2, h3⟩ := h
  exact ⟨ks, e _ _ h1, h2, by omega⟩
theorem CmL.mv {F F' : Addr → Prop} {H H' : Hp} {d : Addr} {f : Str → Option Nat} {n : Nat} (h : CmL H d f n) (nf : ¬ F d) (M : Mv F F' H H') : CmL H' d f n ∧ ¬ F' d := by
  obtain ⟨ks, h1, h2, h3⟩ := h
  exact ⟨⟨ks, (M _ _ h1 nf).1, h2, h3⟩, (M _ _ h1 nf).2⟩
theorem CmL.other {H : Hp} {d q : Addr} {f : Str → Option Nat} {n : Nat} {o : HO} (h : CmL H d f n) (hd : d ≠ q) : CmL (L2.upd H q o) d f n := by
  obtain ⟨ks, h1, h2, h3⟩ := h
  exact ⟨ks, by rw [upd_ne hd]; exact h1, h2, h3⟩
theorem CmL.put {H : Hp} {d : Addr} {f : Str → Option Nat} {n : Nat} {ks : List (Key × V)} (h1 : H d = some (.dK ks)) (h2 : ∀ x, valV ks (Sum.inr x : Key) = (f x).map fun (n : Nat) => V.int (n : Int)) (h3 : ks.length ≤ n) (x : Str) (v : Nat) : CmL (L2.upd H d (.dK (putK ks (Sum.inr x : Key) (.int (v : Int))))) d (fun y => if y = x then some v else f y) (n + 1) := by
  refine ⟨_, upd_same, fun y => ?_, ?_⟩
  · rw [valV_put]
    show _ = (if y = x then some v else f y).map fun (n : Nat) => V.int (n : Int)
    by_cases e : y = x
    · rw [if_pos (by rw [e]), if_pos e]
      rfl
    · rw [if_neg (fun z => e (Sum.inr.inj z)), if_neg e]
      exact h2 y
  · unfold putK
    split
    · rw [List.length_map]
      omega
    · rw [List.length_append, List.length_singleton]
      omega
theorem PlAt.mv {F F' : Addr → Prop} {H H' : Hp} {d : Addr} {R : List Row} {ST : Addr} {b : Nat} {st : Addr} {s : Sto Str} {n : Nat} (h : PlAt H d R) (nf : ¬ F d) (S : SAt ST b st s n F H) (M : Mv F F' H H') : PlAt H' d R ∧ ¬ F' d := by
  obtain ⟨ks, h1, h2⟩ := h
  exact ⟨⟨ks, (M _ _ h1 nf).1, pl_keep (fun a xs z => M.tup S z) h2⟩, (M _ _ h1 nf).2⟩
theorem PlAt.other {H : Hp} {d q : Addr} {R : List Row} {o u : HO} (h : PlAt H d R) (hd : d ≠ q) (hq : H q = some u) (hu : ∀ xs, u ≠ .tup xs) : PlAt (L2.upd H q o) d R := by
  obtain ⟨ks, h1, h2⟩ := h
  refine ⟨ks, by rw [upd_ne hd]; exact h1, pl_keep (fun a xs z => ?_) h2⟩
  rw [upd_ne fun e => by rw [e, hq] at z; exact hu xs (Option.some.inj z)]
  exact z
theorem LawSt.other {ST : Addr} {b : Nat} {st : Addr} {s : Sto Str} {F : Addr → Prop} {l : List (Nat × Str)} {pl q : Addr} {H : Hp} {ks : List (Key × V)} {o : HO} (L : LawSt ST b st s F l pl H) (hq : ¬ F q) (h : H q = some (.dK ks)) : LawSt ST b st s F l pl (L2.upd H q o) := by
  obtain ⟨ps, h1, h2⟩ := L.tl
  refine ⟨L.S.other hq (fun xs z => by rw [h] at z; cases z), L.fu, L.ok, L.nf, ps, by rw [upd_ne (ne_of h1 h (by intro z; cases z))]; exact h1, tups_keep (fun a ys z => ?_) h2⟩
  rw [upd_ne (ne_of z h (by intro w; cases w))]
  exact z
theorem e_call4 {t1 t2 t3 t4 : TE} {σ : L2.St} {H : Hp} {Q : VK} {E : XK} {sp : Sp} (h : t1 σ H fun u H1 => t2 σ H1 fun v H2 => t3 σ H2 fun w H3 => t4 σ H3 fun x H4 => sp [u, v, w, x] H4 Q E) : tCall sp [] E (tCons t1 (tCons t2 (tCons t3 (tCons t4 tNil)))) σ H Q := h
theorem e_call1 {t1 : TE} {σ : L2.St} {H : Hp} {Q : VK} {E : XK} {sp : Sp} (h : t1 σ H fun u H1 => sp [u] H1 Q E) : tCall sp [] E (tCons t1 tNil) σ H Q := h
theorem ok_law (T : Txt K mg NB NN FE LA BA ST) {fa : Addr} {fd : FuncData} (F : Fun K "law" "law" s_law fa fd) : FnOk P w K mg base (L2N.CX P w) 6 fa fd ["_law_script"] (spLaw K) := by
  have O_Store___init__ := O_Store___init__ (P := P) (w := w) (base := base) T
  have O__law_steps := O__law_steps (P := P) (w := w) (base := base) T
  have O__law_cell_at := O__law_cell_at (P := P) (w := w) (base := base) T
  have O_Store_put := O_Store_put (P := P) (w := w) (base := base) T
  have O__law_places := O__law_places (P := P) (w := w) (base := base) T
  have O__law_length := O__law_length (P := P) (w := w) (base := base) T
  have O__law_room := O__law_room (P := P) (w := w) (base := base) T
  have O__law_step_by := O__law_step_by (P := P) (w := w) (base := base) T
  have O_Store_rows := O_Store_rows (P := P) (w := w) (base := base) T
  have O__law_first := O__law_first (P := P) (w := w) (base := base) T
  have O__law_went := O__law_went (P := P) (w := w) (base := base) T
  have O__law_whole := O__law_whole (P := P) (w := w) (base := base) T
  have O_Store_take := O_Store_take (P := P) (w := w) (base := base) T
  refine okN F sc_law (fun vs H Q E h => ?_) (fun cdv A outer s H vs Q E hr h => ⟨_, (pss_cons (ps_set (i := 1) sc_law.nd rfl (Or.inl rfl) (pe_op op_add pe_int (pe_op op_mod (pe_own O__law_cell_at hr (by decide) passN (pa_cons (pv 0) (pa_cons pe_int pa_nil))) pe_int)))
    (pss_cons (ps_set (i := 2) sc_law.nd rfl (Or.inl rfl) (pe_cmpR op_eq (pe_op op_mod (pe_own O__law_cell_at hr (by decide) passN (pa_cons (pv 0) (pa_cons pe_int pa_nil))) pe_int) pe_int (nomark _)))
    (pss_cons (ps_set (i := 3) sc_law.nd rfl (Or.inl rfl) (pe_ownI O_Store___init__ T.e_Store hr (by decide) ps_out (pa_cons (pv 1) pa_nil)))
    (pss_cons (ps_set (i := 4) sc_law.nd rfl (Or.inl rfl) (pe_slice sl_list (pv 0) (po_some pe_int) (po_some (pe_op op_add pe_int (pe_own O__law_room hr (by decide) passN (pa_cons (pv 0) (pa_cons (pv 2) pa_nil)))))))
    (pss_cons (ps_set (i := 5) sc_law.nd rfl (Or.inl rfl) (pe_lst pa_nil))
    (pss_cons (ps_set (i := 6) sc_law.nd rfl (Or.inl rfl) pe_dnewK)
    (pss_cons (ps_set (i := 7) sc_law.nd rfl (Or.inl rfl) pe_dnewK)
    (pss_cons (ps_set (i := 8) sc_law.nd rfl (Or.inl rfl) pe_dnewK)
    (pss_cons (ps_set (i := 9) sc_law.nd rfl (Or.inl rfl) pe_int)
    (pss_cons (ps_set (i := 10) sc_law.nd rfl (Or.inl rfl) pe_int)
    (pss_cons (ps_for pw rfl (pi_range1 (by rfl) T.b_range (pa_cons (pe_op op_mulW pe_int (pe_callB call_len_seq (by rfl) T.b_len PySem.boot_len (pa_cons (pv 4) pa_nil))) pa_nil)) (pg_name (i := 11) sc_law.nd rfl (Or.inl rfl))
    (pss_cons (ps_set (i := 12) sc_law.nd rfl (Or.inl rfl) (pv 6))
    (pss_cut (ps_if (PW.pt (pw_and (pt_cmpR op_lt (pv 11) (pe_callB call_len_seq (by rfl) T.b_len PySem.boot_len (pa_cons (pv 4) pa_nil)) (nomark _)) (pw_and1 (PW.pt (pw_or (pt_cmpR op_gt (pe_op op_mod (pe_ix ix_list (pv 4) (pv 11) (fun _ _ => rfl)) pe_int) pe_int (nomark _)) (pw_or1 (pt_cmpR (show OpR _ (compareOp .Eq) (rEqD K) from op_eqD hr.units) (pv 5) (pe_lst pa_nil) (nomark _))))))))
    (pss_cons (ps_set (i := 13) sc_law.nd rfl (Or.inl rfl) (pe_op op_add (pv 9) (pe_own O__law_step_by hr (by decide) passN (pa_cons (pe_ix ix_list (pv 4) (pv 11) (fun _ _ => rfl)) (pa_cons (pv 2) pa_nil)))))
    (pss_cons (ps_set (i := 14) sc_law.nd rfl (Or.inl rfl) (pe_callTy call_str_int (by rfl) T.b_str (by decide +kernel) (pa_cons (pv 11) pa_nil)))
    (pss_cons (ps_expr (pe_bm PySem.F.plainAttrs_list PySem.F.slot_list_append PySem.F.type_list_append mt_append (pv 5) (pa_cons (pe_tup (pa_cons (pv 13) (pa_cons (pv 14) pa_nil))) pa_nil)))
    (pss_cons (ps_expr (pe_ownM O_Store_put T.cl hr (by decide) ps_out (pv 3) (pa_cons (pv 13) (pa_cons (pv 14) pa_nil))))
    (pss_cons (ps_set (i := 12) sc_law.nd rfl (Or.inl rfl) (pe_own O__law_places hr (by decide) passN (pa_cons (pe_ownM0 O_Store_rows T.cl hr (by decide) passN (pv 3)) pa_nil)))
    (pss_cons (ps_if (pt_cmp (pc_dnotin (hu_of hr) (pv 14) (pv 12)))
    (pss_one (ps_ret pe_bl))
    pss_nil)
    (pss_cons (ps_asg (pe_ix ix_tup (pe_dget (hu_of hr) (pv 12) (pv 14) (fun _ _ => rfl)) pe_int (fun _ _ => rfl)) (pg_sub (pv 7) (pv 14) (set_dict (hu_of hr))))
    (pss_one (ps_asg (pe_own O__law_length hr (by decide) passN (pa_cons (pv 13) (pa_cons (pv 1) pa_nil))) (pg_sub (pv 8) (pv 14) (set_dict (hu_of hr))))))))))))
    (pss_one (ps_if (pt_cmpR (show OpR _ (compareOp .NotEq) (rNeD K) from op_neD hr.units) (pv 5) (pe_lst pa_nil) (nomark _))
    (pss_cons (ps_set (i := 15) sc_law.nd rfl (Or.inl rfl) (pe_own O__law_first hr (by decide) passN (pa_cons (pv 5) pa_nil)))
    (pss_cons (ps_set (i := 9) sc_law.nd rfl (Or.inl rfl) (pe_ix ix_tup (pe_ix ix_list (pv 5) (pv 15) (fun _ _ => rfl)) pe_int (fun _ _ => rfl)))
    (pss_cons (ps_set (i := 16) sc_law.nd rfl (Or.inl rfl) (pe_own O__law_went hr (by decide) passN (pa_cons (pe_ownM0 O_Store_take T.cl hr (by decide) ps_out (pv 3)) (pa_cons (pe_ix ix_tup (pe_ix ix_list (pv 5) (pv 15) (fun _ _ => rfl)) pe_int (fun _ _ => rfl)) (pa_cons (pv 6) (pa_cons (pv 8) pa_nil))))))
    (pss_cons (ps_if (pt_cmpR op_lt (pv 16) pe_int (nomark _))
    (pss_one (ps_ret pe_bl))
    pss_nil)
    (pss_cons (ps_set (i := 5) sc_law.nd rfl (Or.inl rfl) (pe_op op_cat (pe_slice sl_list (pv 5) po_none (po_some (pv 15))) (pe_slice sl_list (pv 5) (po_some (pe_op op_add (pv 15) pe_int)) po_none)))
    (pss_cons (ps_set (i := 10) sc_law.nd rfl (Or.inl rfl) (pe_op op_add (pv 10) (pv 16)))
    (pss_one (ps_set (i := 12) sc_law.nd rfl (Or.inl rfl) (pe_own O__law_places hr (by decide) passN (pa_cons (pe_ownM0 O_Store_rows T.cl hr (by decide) passN (pv 3)) pa_nil))))))))))
    pss_nil)))
    (pss_cons (ps_set (i := 17) sc_law.nd rfl (Or.inl rfl) (pe_own O__law_steps hr (by decide) passN (pa_cons (pv 6) (pa_cons (pv 12) (pa_cons (pv 7) (pa_cons (pv 8) pa_nil))))))
    (pss_cons (ps_if (PW.pt (pw_or (pt_cmpR op_lt (pv 17) pe_int (nomark _)) (pw_or1 (pt_cmpR op_ne (pe_callB call_lenD (by rfl) T.b_len PySem.boot_len (pa_cons (pv 12) pa_nil)) (pe_callB call_len_seq (by rfl) T.b_len PySem.boot_len (pa_cons (pv 5) pa_nil)) (nomark _)))))
    (pss_one (ps_ret pe_bl))
    pss_nil)
    (pss_cons (ps_set (i := 10) sc_law.nd rfl (Or.inl rfl) (pe_op op_add (pv 10) (pv 17)))
    (pss_cons (ps_set (i := 6) sc_law.nd rfl (Or.inl rfl) (pv 12))
    (pss_one (ps_if (PW.pt (pw_or (pt_not (pt_val (pe_own O__law_whole hr (by decide) passN (pa_cons (pe_fld (pv 3) rfl) pa_nil)))) (pw_or1 (pt_cmpR op_ne (pe_fld (pv 3) rfl) (pv 10) (nomark _)))))
    (pss_one (ps_ret pe_bl))
    pss_nil)))))))))
    (pss_one (ps_ret (pe_cmpR (show OpR _ (compareOp .Eq) (rEqD K) from op_eqD hr.units) (pv 5) (pe_lst pa_nil) (nomark _))))))))))))))), ?_⟩)
  · obtain ⟨a, ns, rfl, _⟩ := h
    rfl
  · obtain ⟨a, ns, rfl, hS, hlen, k⟩ := h
    have cell : ∀ {i : Int} {c : Int}, L2.cellOf ns i.toNat = c → 0 ≤ i → ∀ {σ : L2.St} {H1 : Hp} {E : XK}, Ex H H1 → σ[0]? = some (some (.ref a)) → Ev (tCall (spD (D_cell K)) [] E (tCons (tVar 0) (tCons (tC (.int i)) tNil))) σ H1 (.int c) :=
      fun {i c} hc hi {σ H1 E} e hσ => hc ▸ ev_cell (ex_l e hS) (ea_cons (ev_var hσ) (ea_cons ev_c ea_nil)) hi
    generalize hc0 : L2.cellOf ns (0 : Int).toNat = c0
    generalize hc1 : L2.cellOf ns (1 : Int).toNat = c1
    have m15 := Int.emod_nonneg c0 (show (15 : Int) ≠ 0 by decide)
    have l15 := Int.emod_lt_of_pos c0 (show (0 : Int) < 15 by decide)
    obtain ⟨b, hb⟩ : ∃ b : Nat, 2 + c0 % 15 = (b : Int) := Int.eq_ofNat_of_zero_le (by omega)
    have hb1 : 2 ≤ b := by omega
    have hb2 : b ≤ 16 := by omega
    obtain ⟨far, hfar⟩ : ∃ f : Bool, decide (V.int (c1 % 9) = V.int 1) = f := ⟨_, rfl⟩
    refine q_asg (v := .int (b : Int)) (ev_is (ev_op ev_c (ev_op (cell hc0 (by decide) (Ex.refl H) rfl) ev_c (rv_I (g := fun i j => .int (i % j)) (by decide))) rv_I0) (congrArg V.int hb)) fun H0 e0 => ?_
    refine q_asg (v := .bl far) (ev_is (ev_op (ev_op (cell hc1 (by decide) e0 rfl) ev_c (rv_I (g := fun i j => .int (i % j)) (by decide))) ev_c (rv_eq rfl)) (congrArg V.bl hfar)) fun H1 e01 => ?_
    have e1 := e0.trans e01
    refine q_make (b := b) (ea_cons (ev_var rfl) ea_nil) hb1 hb2 fun st F2 H2 S2 M2 => ?_
    have e2 : Ex H H2 := fun a o h => (M2 a o (e1 _ _ h) (fun z => z)).1
    generalize hcs : cutL ns (some 2) (some (2 + roomV ns far)) = cs
    have hcl : cs.length ≤ 63 := by
      have := cutL_len ns (some 2) (some (2 + roomV ns far))
      rw [hcs] at this
      omega
    refine q_asgL (xs := cs.map V.int) (hcs ▸ el_slI (ev_var rfl) (eo_some ev_c) (eo_some (ev_op ev_c (ev_D (ea_cons (ev_var rfl) (ea_cons (ev_var rfl) ea_nil)) fun H5 e5 => ⟨a, ns, far, rfl, ex_l (e2.trans e5) hS, rfl⟩) rv_I0)) (ex_l e2 hS)) fun pC H3 hpC e3 hC => ?_
    refine q_asgL (el_lst ea_nil (Nat.zero_le _)) fun pl H4 hpl e4 hL => ?_
    refine q_te ?_
    intro db hdb
    generalize hH5 : L2.upd H4 db (.dK []) = H5
    have e5 : Ex H4 H5 := hH5 ▸ Ex.new hdb
    have hB5 : H5 db = some (.dK []) := by rw [← hH5]; exact upd_same
    refine q_te ?_
    intro dc hdc
    generalize hH6 : L2.upd H5 dc (.dK []) = H6
    have e6 : Ex H5 H6 := hH6 ▸ Ex.new hdc
    have hC6 : H6 dc = some (.dK []) := by rw [← hH6]; exact upd_same
    refine q_te ?_
    intro dl hdl
    generalize hH7 : L2.upd H6 dl (.dK []) = H7
    have e7 : Ex H6 H7 := hH7 ▸ Ex.new hdl
    have hD7 : H7 dl = some (.dK []) := by rw [← hH7]; exact upd_same
    refine q_asg ev_c fun H8 e8 => ?_
    refine q_asg ev_c fun H9 e9 => ?_
    have e89 := e8.trans e9
    have e59 := (e6.trans e7).trans e89
    have e49 := e5.trans e59
    have L9 : LawSt ST b st Sto.new F2 [] pl H9 := lawSt_new ((S2.mono e3).free hpl) (((S2.mono e3).mono e4).mono e49) (e49 _ _ hL)
    refine q_forR1 (n := 2 * ((cs.length : Nat) : Int)) (ea_cons (ev_op ev_c (ev_is (ev_len (ev_var rfl) (sq_of ((e4.trans e49) _ _ hC))) (by rw [List.length_map])) (rv_I (g := fun i j => .int (i * j)) (wide_mul (a := 2) (b := 7) (by decide) (by rw [Int.natAbs_natCast]; omega) (by decide) (by decide) (by decide)))) ea_nil) ⟨by omega, by omega⟩
      (fun i σ' H' => ∃ (s : Sto Str) (F : Addr → Prop) (l : List (Nat × Str)) (pl : Addr) (R : List Row) (db : Addr) (cm ln : Str → Option Nat) (v11 v12 v13 v14 v15 v16 v17 : Option V), σ' = [some (.ref a), some (.int (b : Int)), some (.bl far), some (.ref st), some (.ref pC), some (.ref pl), some (.ref db), some (.ref dc), some (.ref dl), some (.int (s.last : Int)), some (.int (s.moves : Int)), v11, v12, v13, v14, v15, v16, v17] ∧
        LawSt ST b st s F l pl H' ∧ IsRows s R ∧ PlAt H' db R ∧ ¬ F db ∧ CmL H' dc cm i ∧ CmL H' dl ln i ∧ ¬ F dc ∧ ¬ F dl ∧ db ≠ dc ∧ db ≠ dl ∧ dc ≠ dl ∧ H' pC = some (.lst (cs.map V.int)) ∧ ¬ F pC ∧ pC ≠ pl ∧ (R.map fun r => r.2.name).Nodup ∧ (∀ r ∈ R, ∃ j, j < i ∧ r.2.name = numStr j) ∧
        (∀ r ∈ R, ∃ m g, cm r.2.name = some m ∧ ln r.2.name = some g ∧ r.2.cnt + r.1 ≤ m ∧ m ≤ g) ∧ l.length ≤ i ∧ l.length + i ≤ 2 * cs.length ∧ l.length ≤ cs.length)
      (fun HA eA => ?_) ?_ ?_
    · refine ⟨Sto.new, F2, [], pl, [], db, fun _ => none, fun _ => none, none, none, none, none, none, none, none, rfl, L9.mono eA, ⟨0, fun _ _ => rfl, rfl⟩, ⟨[], (e59.trans eA) _ _ hB5, True.intro⟩, ((S2.mono e3).mono e4).free hdb, ⟨[], ((e7.trans e89).trans eA) _ _ hC6, fun _ => rfl, Nat.le_refl _⟩, ⟨[], (e89.trans eA) _ _ hD7, fun _ => rfl, Nat.le_refl _⟩, (((S2.mono e3).mono e4).mono e5).free hdc, ((((S2.mono e3).mono e4).mono e5).mono e6).free hdl, ne_of_none hB5 hdc, ne_of_none (e6 _ _ hB5) hdl, ne_of_none hC6 hdl, ((e4.trans e49).trans eA) _ _ hC, S2.free hpC, ne_of_none hC hpl, List.nodup_nil, (fun _ h => nomatch h), (fun _ h => nomatch h), Nat.le_refl _, Nat.zero_le _, Nat.zero_le _⟩
    · rintro i σ' H' hi ⟨s, F, l, pl, R, db, cm, ln, v11, v12, v13, v14, v15, v16, v17, rfl, L, hR, hdb', nfb, hcm, hln, nfc, nfl, nbc, nbl, ndl, hpC', nfC, nCl, hnd, hnames, hcnt, hli, hl2, hlc⟩
      have hi2 : i < 2 * cs.length := by omega
      refine q_asg (v := .ref db) (ev_var rfl) fun H1 e1 => ?_
      have L := L.mono e1
      have hdb' := hdb'.mono e1
      have hcm := hcm.mono e1 (Nat.le_refl i)
      have hln := hln.mono e1 (Nat.le_refl i)
      have hpC' := e1 _ _ hpC'
      obtain ⟨ps, hps, htp⟩ := id L.tl
      have hpsl : ps.length = l.length := by rw [tups_len htp, List.length_map]
      have hcell : ∀ {σ : L2.St} {H9 : Hp}, Ex H1 H9 → i < cs.length → σ[4]? = some (some (.ref pC)) → σ[11]? = some (some (.int (i : Int))) → Ev (tOp (rIxL K) (tVar 4) (tVar 11)) σ H9 (.int (cs.getD i 0)) := fun e9 hc s4 s11 => ev_op (ev_var s4) (ev_var s11) (rv_ixL (sq_of (e9 _ _ hpC')) (atI_nat (by rw [List.getElem?_map, List.getD_eq_getElem?_getD, List.getElem?_eq_getElem hc] <;> rfl)))
      have few : Few s := few_tot L.fu.tot (by omega)
      refine q_cut (M := fun σ2 H2 => ∃ (s' : Sto Str) (F : Addr → Prop) (l : List (Nat × Str)) (pl : Addr) (R' : List Row) (da : Addr) (cm ln : Str → Option Nat) (mv : Nat) (v13 v14 v15 v16 v17 : Option V), σ2 = [some (.ref a), some (.int (b : Int)), some (.bl far), some (.ref st), some (.ref pC), some (.ref pl), some (.ref db), some (.ref dc), some (.ref dl), some (.int (s'.last : Int)), some (.int (mv : Int)), some (.int (i : Int)), some (.ref da), v13, v14, v15, v16, v17] ∧
        LawSt ST b st s' F l pl H2 ∧ IsRows s' R' ∧ PlAt H2 db R ∧ PlAt H2 da R' ∧ ¬ F da ∧ CmL H2 dc cm (i + 1) ∧ CmL H2 dl ln (i + 1) ∧ ¬ F dc ∧ ¬ F dl ∧ da ≠ dc ∧ da ≠ dl ∧ H2 pC = some (.lst (cs.map V.int)) ∧ ¬ F pC ∧ pC ≠ pl ∧ (R'.map fun r => r.2.name).Nodup ∧ (∀ r ∈ R', ∃ j, j < i + 1 ∧ r.2.name = numStr j) ∧
        (∀ r ∈ R', ∃ m g, cm r.2.name = some m ∧ ln r.2.name = some g ∧ r.2.cnt + r.1 ≤ m ∧ m ≤ g) ∧ (∀ r ∈ R', StepOk R cm ln r) ∧ mv + movedN R R' = s'.moves ∧ l.length ≤ i + 1 ∧ l.length + (i + 1) ≤ 2 * cs.length ∧ l.length ≤ cs.length) ?_ ?_
      · refine s_if (b := decide (i < cs.length) && (decide (cs.getD i 0 % 3 > 0) || decide (l.map nV = []))) (et_and (et_is (et_test (ev_op (ev_var rfl) (ev_len (ev_var rfl) (sq_of hpC')) rv_I0)) (by rw [List.length_map]; exact decide_eq_decide.mpr (by omega))) fun hc => et_or (et_test (ev_op (ev_op (hcell (Ex.refl _) (of_decide_eq_true hc) rfl rfl) ev_c (rv_I (g := fun i j => .int (i % j)) (by decide))) ev_c rv_I0)) fun _ => et_eqNil (ev_var rfl) hps htp (nV_ok L.ok)) (fun ht H2 e2 => ?_) (fun ht H2 e2 => ?_)
        · rw [Bool.and_eq_true] at ht
          have hic := of_decide_eq_true ht.1
          obtain ⟨q, hq⟩ := step_nn (cs.getD i 0) far
          refine q_asg (v := .int ((s.last + q : Nat) : Int)) (ev_is (ev_op (ev_var rfl) (ev_D (ea_cons (hcell e2 hic rfl rfl) (ea_cons (ev_var rfl) ea_nil)) fun _ _ => ⟨cs.getD i 0, far, rfl, rfl⟩) rv_I0) (by rw [hq] <;> rfl)) fun H3 e3 => ?_
          refine q_asg (v := .str (numStr i)) (ev_strN (ev_var rfl) (by omega)) fun H4 e4 => ?_
          have e24 := (e2.trans e3).trans e4
          refine q_appU (e24 _ _ hps) (ev_var rfl) (eu_tup (ea_cons (ev_var rfl) (ea_cons (ev_var rfl) ea_nil)) (by show 2 ≤ 100000; decide)) (by omega) fun pt H5 hpt e5 h5 => ?_
          have e25 := e24.trans e5
          have hps5 := e25 _ _ hps
          obtain ⟨kb, hkb, _⟩ := id hdb'
          obtain ⟨kc, hkc, _⟩ := id hcm
          obtain ⟨kl, hkl, _⟩ := id hln
          have kk : ∀ a xs, H5 a = some (.tup xs) → (upd H5 pl (.lst (ps ++ [.ref pt]))) a = some (.tup xs) := fun a xs h => by
            rw [upd_ne (ne_of h hps5 (by intro q; cases q))]
            exact h
          have S6 := (L.S.mono e25).otherL (o := .lst (ps ++ [.ref pt])) L.nf hps5
          have tl6 : Tups (upd H5 pl (.lst (ps ++ [.ref pt]))) (ps ++ [.ref pt]) ((l ++ [(s.last + q, numStr i)]).map nV) := by
            rw [List.map_append]
            exact tups_snoc (tups_keep kk (htp.mono e25)) (kk _ _ h5)
          have hdb6 := (hdb'.mono e25).other (o := .lst (ps ++ [.ref pt])) (ne_of (e25 _ _ hkb) hps5 (by intro z; cases z)) hps5 (by intro xs z; cases z)
          have hcm6 := (hcm.mono e25 (Nat.le_refl _)).other (o := .lst (ps ++ [.ref pt])) (ne_of (e25 _ _ hkc) hps5 (by intro z; cases z))
          have hln6 := (hln.mono e25 (Nat.le_refl _)).other (o := .lst (ps ++ [.ref pt])) (ne_of (e25 _ _ hkl) hps5 (by intro z; cases z))
          have hpC6 : (upd H5 pl (.lst (ps ++ [.ref pt]))) pC = some (.lst (cs.map V.int)) := by rw [upd_ne nCl]; exact e25 _ _ hpC'
          have hpl6 : (upd H5 pl (.lst (ps ++ [.ref pt]))) pl = some (.lst (ps ++ [.ref pt])) := upd_same
          generalize upd H5 pl (.lst (ps ++ [.ref pt])) = H6 at S6 tl6 hdb6 hcm6 hln6 hpC6 hpl6 ⊢
          refine q_dr (c_sto S6 (by decide +kernel) (ev_var rfl) (ea_cons (ev_var rfl) (ea_cons (ev_var rfl) ea_nil)) fun H7 e7 S7 => ?_)
          refine ⟨st, b, s, l.length, F, ((s.last + q : Nat) : Int), numStr i, l.length, rfl, S7, L.fu.tot, by omega, fun z => by omega, fun _ z => by omega, fun k' hk' hle F' H8 S8 M8 => ?_⟩
          obtain rfl : s.last + q = k' := by omega
          obtain ⟨hpl8, nf8⟩ := M8 _ _ (e7 _ _ hpl6) L.nf
          have tl8 := M8.tups S7 (tl6.mono e7)
          obtain ⟨hdb8, nfb8⟩ := (hdb6.mono e7).mv nfb S7 M8
          obtain ⟨hcm8, nfc8⟩ := (hcm6.mono e7 (Nat.le_refl _)).mv nfc M8
          obtain ⟨hln8, nfl8⟩ := (hln6.mono e7 (Nat.le_refl _)).mv nfl M8
          obtain ⟨hpC8, nfC8⟩ := M8 _ _ (e7 _ _ hpC6) nfC
          have L8 : LawSt ST b st (s.put b (s.last + q) (numStr i)) F' (l ++ [(s.last + q, numStr i)]) pl H8 := by
            refine ⟨by rw [List.length_append, List.length_singleton]; exact S8, full_put L.fu (numStr i) hle, fun x hx => ?_, nf8, _, hpl8, tl8⟩
            rcases List.mem_append.mp hx with hx | hx
            · exact L.ok x hx
            · rw [List.mem_singleton.mp hx]
              exact numStr_ok i
          have hl8 : (l ++ [(s.last + q, numStr i)]).length = l.length + 1 := by rw [List.length_append, List.length_singleton]
          generalize l ++ [(s.last + q, numStr i)] = l8 at L8 hl8
          obtain ⟨R', hR', hperm⟩ := put_rows (b := b) hR (s.last + q) (numStr i)
          have hfresh : ∀ r ∈ R, r.2.name ≠ numStr i := fun r hr z => by
            obtain ⟨j, hj, e⟩ := hnames r hr
            have := numStr_inj (by omega) (by omega) (e.symm.trans z)
            omega
          have hnd' : (R'.map fun r => r.2.name).Nodup := by
            refine (hperm.map _).nodup_iff.mpr ?_
            rw [List.map_append, List.nodup_append]
            refine ⟨hnd, by simp, fun x hx y hy => ?_⟩
            obtain ⟨r, hr, rfl⟩ := List.mem_map.mp hx
            have : y = numStr i := by simpa using hy
            rw [this]
            exact hfresh r hr
          have hin : ∀ r ∈ R', r ∈ R ∨ r = (partAt b (s.last + q) s.last, (⟨s.last + q, numStr i, 0⟩ : Thing Str)) := fun r hr => by
            rcases List.mem_append.mp (hperm.mem_iff.mp hr) with z | z
            · exact Or.inl z
            · exact Or.inr (List.mem_singleton.mp z)
          have hnewm : (partAt b (s.last + q) s.last, (⟨s.last + q, numStr i, 0⟩ : Thing Str)) ∈ R' := hperm.mem_iff.mpr (List.mem_append_right _ List.mem_cons_self)
          have hnewf : plf R' (numStr i) = some (partAt b (s.last + q) s.last, (⟨s.last + q, numStr i, 0⟩ : Thing Str)) := plf_mem hnd' hnewm
          have hold : plf R (numStr i) = none := plf_none.mpr hfresh
          have hmv0 : movedN R R' = 0 := by
            unfold movedN
            rw [List.length_eq_zero_iff, List.filter_eq_nil_iff]
            intro r hr z
            unfold movedB at z
            rcases hin r hr with h | h
            · rw [plf_mem hnd h] at z
              have z : (!decide (r.1 = r.1 ∧ r.2.cnt = r.2.cnt)) = true := z
              rw [decide_eq_true ⟨rfl, rfl⟩] at z
              cases z
            · rw [h, hold] at z
              cases z
          have hlastP : (s.put b (s.last + q) (numStr i)).last = s.last := rfl
          have hmovP : (s.put b (s.last + q) (numStr i)).moves = s.moves := rfl
          have hplen : partAt b (s.last + q) s.last ≤ (digs b (s.last + q)).length := part_le_len hb1 (by omega)
          refine q_te (e_call1 (elt_rows L8.S L8.fu.tot (by omega) (few_tot L8.fu.tot (by omega)) hR' (fun _ _ => ev_var rfl) H8 (Ex.refl H8) _ fun pr prs H9 hpr e9 hprs htpr => ?_))
          refine ⟨pr, prs, R', rfl, hprs, htpr, by rw [rows_len hR' L8.fu.tot]; omega, hnd', fun da HA hda eA hPda => ?_⟩
          have e8A := e9.trans eA
          have hda8 := fresh_back e9 hda
          obtain ⟨ka, hka, pka⟩ := id hPda
          obtain ⟨u, hvu, hut⟩ := (pl_val (numStr i) pka).2 _ hnewf
          refine q_when (b := false) (et_is (et_B (ev_dnotin (x := numStr i) (ev_var rfl) (ev_var rfl) (Or.inl hka))) (by rw [hvu] <;> rfl)) (fun z => nomatch z) fun _ HB eB => ?_
          have e8B := e8A.trans eB
          obtain ⟨kc8, hkc8, vkc8, lkc8⟩ := id hcm8
          obtain ⟨kl8, hkl8, vkl8, lkl8⟩ := id hln8
          have nac : da ≠ dc := fun z => by rw [z, hkc8] at hda8; cases hda8
          have nal : da ≠ dl := fun z => by rw [z, hkl8] at hda8; cases hda8
          refine q_tr (s_dput (x := numStr i) (v := .int ((partAt b (s.last + q) s.last : Nat) : Int)) (e8B _ _ hkc8) (ev_op (ev_dgetS (x := numStr i) (ev_var rfl) (ev_var rfl) (Or.inl (eB _ _ hka)) hvu) ev_c (rv_ixT (st_of (eB _ _ hut)) (atI_nat (j := 0) rfl))) (ev_var rfl) (ev_var rfl) (by omega) fun HC eC => ?_)
          dsimp only
          have e8C := e8B.trans eC
          have LD := (L8.mono e8C).other (o := .dK (putK kc8 (Sum.inr (numStr i) : Key) (.int ((partAt b (s.last + q) s.last : Nat) : Int)))) nfc8 (e8C _ _ hkc8)
          have hcD := CmL.put (e8C _ _ hkc8) vkc8 lkc8 (numStr i) (partAt b (s.last + q) s.last)
          have hlD := (hln8.mono e8C (Nat.le_refl _)).other (o := .dK (putK kc8 (Sum.inr (numStr i) : Key) (.int ((partAt b (s.last + q) s.last : Nat) : Int)))) (q := dc) (fun z => ndl z.symm)
          have hbD := (hdb8.mono e8C).other (o := .dK (putK kc8 (Sum.inr (numStr i) : Key) (.int ((partAt b (s.last + q) s.last : Nat) : Int)))) nbc (e8C _ _ hkc8) (by intro xs z; cases z)
          have haD := ((hPda.mono eB).mono eC).other (o := .dK (putK kc8 (Sum.inr (numStr i) : Key) (.int ((partAt b (s.last + q) s.last : Nat) : Int)))) nac (e8C _ _ hkc8) (by intro xs z; cases z)
          have hpCC := e8C _ _ hpC8
          have npc : pC ≠ dc := ne_of hpCC (e8C _ _ hkc8) (by intro z; cases z)
          have hpCD : (upd HC dc (.dK (putK kc8 (Sum.inr (numStr i) : Key) (.int ((partAt b (s.last + q) s.last : Nat) : Int))))) pC = some (.lst (cs.map V.int)) := by rw [upd_ne npc]; exact hpCC
          generalize upd HC dc (.dK (putK kc8 (Sum.inr (numStr i) : Key) (.int ((partAt b (s.last + q) s.last : Nat) : Int)))) = HD at LD hcD hlD hbD haD hpCD ⊢
          obtain ⟨kl', hkl', vkl', lkl'⟩ := id hlD
          refine s_dput (x := numStr i) (v := .int (((digs b (s.last + q)).length : Nat) : Int)) hkl' (ev_D (ea_cons (ev_var rfl) (ea_cons (ev_var rfl) ea_nil)) fun _ _ => ⟨s.last + q, b, rfl, hb1, hb2, rfl⟩) (ev_var rfl) (ev_var rfl) (by omega) fun HE eE => ?_
          have hkE := eE _ _ hkl'
          have hpCE := eE _ _ hpCD
          have npl2 : pC ≠ dl := ne_of hpCE hkE (by intro z; cases z)
          have key : ∀ r ∈ R', ∃ m g, (if r.2.name = numStr i then some (partAt b (s.last + q) s.last) else cm r.2.name) = some m ∧ (if r.2.name = numStr i then some (digs b (s.last + q)).length else ln r.2.name) = some g ∧ r.2.cnt + r.1 ≤ m ∧ m ≤ g := fun r hr => by
            rcases hin r hr with h | h
            · rw [if_neg (hfresh r h), if_neg (hfresh r h)]
              exact hcnt r h
            · refine ⟨_, _, if_pos (by rw [h]), if_pos (by rw [h]), ?_, hplen⟩
              rw [h]
              show 0 + partAt b (s.last + q) s.last ≤ _
              omega
          refine ⟨s.put b (s.last + q) (numStr i), F', l8, pl, R', da, fun y => if y = numStr i then some (partAt b (s.last + q) s.last) else cm y, fun y => if y = numStr i then some (digs b (s.last + q)).length else ln y, s.moves, _, _, _, _, _, rfl, (LD.mono eE).other nfl8 hkE, hR', (hbD.mono eE).other nbl hkE (by intro xs z; cases z), (haD.mono eE).other nal hkE (by intro xs z; cases z), S8.free hda8, (hcD.mono eE (Nat.le_refl _)).other ndl, CmL.put hkE vkl' lkl' (numStr i) (digs b (s.last + q)).length, nfc8, nfl8, nac, nal, by rw [upd_ne npl2]; exact hpCE, nfC8, nCl, hnd', fun r hr => ?_, key, fun r hr => ?_, by rw [hmv0]; rfl, by omega, by omega, by omega⟩
          · rcases hin r hr with h | h
            · obtain ⟨j, hj, e⟩ := hnames r h
              exact ⟨j, by omega, e⟩
            · exact ⟨i, by omega, by rw [h]⟩
          · obtain ⟨m, g, k1, k2, k3, k4⟩ := key r hr
            refine ⟨m, g, k1, k2, k3, by omega, fun z => ?_, fun q2 hq2 => ?_⟩
            · rcases hin r hr with h | h
              · rw [plf_mem hnd h] at z
                cases z
              · rw [h]
            · rcases hin r hr with h | h
              · rw [plf_mem hnd h] at hq2
                cases hq2
                exact Or.inl ⟨rfl, rfl⟩
              · rw [h] at hq2
                have hq2 : plf R (numStr i) = some q2 := hq2
                rw [hold] at hq2
                cases hq2
        · refine s_when (b := decide (l.map nV ≠ [])) (et_neNil (ev_var rfl) (e2 _ _ hps) (htp.mono e2) (nV_ok L.ok)) (fun ht2 H3 e3 => ?_) (fun ht2 H3 e3 => ?_)
          · have hne : l ≠ [] := fun z => of_decide_eq_true ht2 (by rw [z] <;> rfl)
            have e23 := e2.trans e3
            obtain ⟨j, x, hf⟩ := isFirst_ex hne
            have hjl := (List.getElem?_eq_some_iff.mp hf.at_).1
            refine q_asg (v := .int (j : Int)) (ev_D (ea_cons (ev_var rfl) ea_nil) fun H2 e2 => ⟨pl, ps, l, j, x, rfl, e2 _ _ (e23 _ _ hps), (htp.mono e23).mono e2, by omega, hf, rfl⟩) fun H4 e4 => ?_
            have e24 := e23.trans e4
            refine q_asg (v := .int (x.1 : Int)) (ev_num (ev_var rfl) (ev_var rfl) (e24 _ _ hps) (htp.mono e24) hf.at_) fun H5 e5 => ?_
            have e25 := e24.trans e5
            have L5 := L.mono e25
            refine q_te (e_call4 (c_sto L5.S (by decide +kernel) (ev_var rfl) ea_nil fun H6 e6 S6 => ?_))
            refine ⟨st, b, s, l.length, F, rfl, S6, L.fu.ok, L.fu.tot, by omega, fun z => by omega, fun s' t pg F' H7 g S7 M7 hpg => ?_⟩
            have hx := (full_goes S6.hb L.fu g hf).1
            subst hx
            have hRne : R ≠ [] := fun z => hne (List.length_eq_zero_iff.mp (by rw [← rows_len hR L.fu.tot, z]; rfl))
            obtain ⟨R', q, hR', hqf, hqm, hqc, hnd', hst, hmov⟩ := go_rows hb1 L.fu.ok hR hRne hnd g
            have e26 := e25.trans e6
            have L6 := L.mono e26
            have hps6 := e26 _ _ hps
            obtain ⟨hps7, nf7⟩ := M7 _ _ hps6 L.nf
            have htp7 := M7.tups S6 (htp.mono e26)
            obtain ⟨px, hpx, hpxt⟩ := tups_get (i := j) (xs := nV (nn t)) htp7 (by rw [List.getElem?_map, hf.at_] <;> rfl)
            obtain ⟨hdb7, nfb7⟩ := (hdb'.mono e26).mv nfb S6 M7
            obtain ⟨hcm7, nfc7⟩ := (hcm.mono e26 (Nat.le_refl _)).mv nfc M7
            obtain ⟨hln7, nfl7⟩ := (hln.mono e26 (Nat.le_refl _)).mv nfl M7
            obtain ⟨hpC7, nfC7⟩ := M7 _ _ (e26 _ _ hpC') nfC
            have hqn : q.2.name = t.name := of_decide_eq_true (List.find?_some (p := fun r : Row => decide (r.2.name = t.name)) hqf)
            obtain ⟨m, gg, hm, hg, hmg, hgg⟩ := hcnt q hqm
            rw [hqn] at hm hg
            refine ev_op (ev_op (ev_var rfl) (ev_var rfl) (rv_ixL (sq_of hps7) (atI_nat hpx))) ev_c (rv_ixT (st_of hpxt) (atI_nat (j := 1) (v := .str t.name) rfl)) H7 (Ex.refl H7) _ fun H8 e8 => ?_
            refine ev_var rfl H8 (Ex.refl H8) _ fun H9 e9 => ev_var rfl H9 (Ex.refl H9) _ fun HA eA => ?_
            have e7A := (e8.trans e9).trans eA
            refine ⟨_, ⟨pg, db, dl, t, R, ln, q, gg, rfl, e7A _ _ hpg, hdb7.mono e7A, (hln7.mono e7A (Nat.le_refl _)).cm, hqf, hg, hqc, ?_, rfl⟩, fun HB eB => ?_⟩
            · rw [hqc]
              split <;> omega
            refine q_when (b := false) (et_is (et_test (ev_op (ev_var rfl) ev_c rv_I0)) (decide_eq_false (by split <;> decide))) (fun z => nomatch z) fun _ HC eC => ?_
            have e7C := (e7A.trans eB).trans eC
            refine q_asgL (el_without (ev_var rfl) (ev_var rfl) (ev_var rfl) (ev_op (ev_var rfl) ev_c rv_I0) (e7C _ _ hps7) (by omega) (by omega)) fun p2 HD hp2 eD hD => ?_
            have e7D := e7C.trans eD
            have hp27 := fresh_back e7C hp2
            obtain ⟨g1, g2, g3⟩ := L6.gone hf g S7 M7 e7D hps6 (htp.mono e26) hp27 hD
            refine q_asg (v := .int ((s.moves + (if 0 < q.1 then 1 else 0) : Nat) : Int)) (ev_is (ev_op (ev_var rfl) (ev_var rfl) rv_I0) (by split <;> rfl)) fun HE eE => ?_
            have L8 := g3.mono eE
            have hdl := drop_len hf.at_
            refine s_te (e_call1 (elt_rows L8.S L8.fu.tot (by omega) (few_tot L8.fu.tot (by omega)) hR' (fun _ _ => ev_var rfl) HE (Ex.refl HE) _ fun pr prs HF hpr eF hprs htpr => ?_))
            refine ⟨pr, prs, R', rfl, hprs, htpr, by rw [rows_len hR' L8.fu.tot]; omega, hnd', fun da HG hda eG hPda => ?_⟩
            have e7G := ((e7D.trans eE).trans eF).trans eG
            have hdaE := fresh_back ((e7D.trans eE).trans eF) hda
            obtain ⟨kc, hkc, _⟩ := id hcm7
            obtain ⟨kl, hkl, _⟩ := id hln7
            refine ⟨s', F', _, p2, R', da, cm, ln, s.moves + (if 0 < q.1 then 1 else 0), _, _, _, _, _, by rw [g2] <;> rfl, L8.mono (eF.trans eG), hR', hdb7.mono e7G, hPda, S7.free hdaE, hcm7.mono e7G (by omega), hln7.mono e7G (by omega), nfc7, nfl7, fun z => ?_, fun z => ?_, e7G _ _ hpC7, nfC7, ?_, hnd', fun r hr => ?_, fun r hr => ?_, fun r hr => ?_, by rw [hmov]; omega, by omega, by omega, by omega⟩
            · rw [z, hkc] at hdaE
              cases hdaE
            · rw [z, hkl] at hdaE
              cases hdaE
            · exact ne_of_none hpC7 hp27
            · obtain ⟨q', h1, h2, _⟩ := hst r hr
              obtain ⟨j', hj', e⟩ := hnames q' h1
              exact ⟨j', by omega, by rw [← h2]; exact e⟩
            · obtain ⟨q', h1, h2, h3, h4⟩ := hst r hr
              obtain ⟨m, g', k1, k2, k3, k4⟩ := hcnt q' h1
              rw [h2] at k1 k2
              refine ⟨m, g', k1, k2, ?_, k4⟩
              rcases h4 with z | z
              · rw [← z]
                exact k3
              · omega
            · obtain ⟨q', h1, h2, h3, h4⟩ := hst r hr
              obtain ⟨m, g', k1, k2, k3, k4⟩ := hcnt q' h1
              rw [h2] at k1 k2
              have k5 : r.2.cnt + r.1 ≤ m := by
                rcases h4 with z | z
                · rw [← z]
                  exact k3
                · omega
              refine ⟨m, g', k1, k2, k5, by omega, fun z => ?_, fun q2 hq2 => ?_⟩
              · rw [h3] at z
                cases z
              · rw [h3] at hq2
                cases hq2
                rcases h4 with z | z
                · exact Or.inl ⟨by rw [z], by rw [z]⟩
                · exact Or.inr z
          · have hl0 : l = [] := by
              by_cases z : l = []
              · exact z
              · exact absurd (of_decide_eq_false ht2) (fun h => h fun y => z (List.map_eq_nil_iff.mp y))
            have e23 := e2.trans e3
            have hmv0 : movedN R R = 0 := by
              unfold movedN
              rw [List.length_eq_zero_iff, List.filter_eq_nil_iff]
              intro r hr z
              unfold movedB at z
              rw [plf_mem hnd hr] at z
              have z : (!decide (r.1 = r.1 ∧ r.2.cnt = r.2.cnt)) = true := z
              rw [decide_eq_true ⟨rfl, rfl⟩] at z
              cases z
            refine ⟨s, F, l, pl, R, db, cm, ln, s.moves, _, _, _, _, _, rfl, L.mono e23, hR, hdb'.mono e23, hdb'.mono e23, nfb, hcm.mono e23 (by omega), hln.mono e23 (by omega), nfc, nfl, nbc, nbl, e23 _ _ hpC', nfC, nCl, hnd, fun r hr => ?_, hcnt, fun r hr => ?_, by rw [hmv0]; rfl, by omega, by rw [hl0]; show 0 + (i + 1) ≤ _; omega, hlc⟩
            · obtain ⟨j, hj, e⟩ := hnames r hr
              exact ⟨j, by omega, e⟩
            · obtain ⟨m, g, h1, h2, h3, h4⟩ := hcnt r hr
              refine ⟨m, g, h1, h2, h3, by omega, fun z => ?_, fun q hq => ?_⟩
              · rw [plf_mem hnd hr] at z
                cases z
              · rw [plf_mem hnd hr] at hq
                cases hq
                exact Or.inl ⟨rfl, rfl⟩
      · rintro σ2 H2 ⟨s', F, l, pl, R', da, cm, ln, mv, v13, v14, v15, v16, v17, rfl, L, hR', hdb2, hda, nfa, hcm, hln, nfc, nfl, nac, nal, hpC2, nfC, nCl, hnd', hnames', hcnt', hsteps, hmov, hli, hl2, hlc⟩
        refine q_te ((ea_cons (ev_var rfl) (ea_cons (ev_var rfl) (ea_cons (ev_var rfl) (ea_cons (ev_var rfl) ea_nil)))) H2 (Ex.refl H2) _ fun H3 e3 => ?_)
        refine ⟨db, da, dc, dl, R, R', cm, ln, rfl, hdb2.mono e3, hda.mono e3, (hcm.mono e3 (Nat.le_refl _)).cm, (hln.mono e3 (Nat.le_refl _)).cm, hnd', hsteps, fun H4 e4 => ?_⟩
        have e24 := e3.trans e4
        obtain ⟨ps2, hps2, htp2⟩ := id L.tl
        obtain ⟨ka, hka, pka⟩ := id hda
        have hlen2 : ka.length = ps2.length := by rw [pl_len pka, tups_len htp2, List.length_map, rows_len hR' L.fu.tot]
        refine q_when (b := false) (et_is (b := false) (et_or (a := false) (b := false) (et_is (et_test (ev_op (ev_var rfl) ev_c rv_I0)) (decide_eq_false (by omega))) fun _ => et_is (et_test (ev_op (ev_lenD (ev_var rfl) (e24 _ _ hka)) (ev_len (ev_var rfl) (sq_of (e24 _ _ hps2))) (rv_ne rfl))) (by rw [hlen2]; simp)) rfl) (fun z => nomatch z) fun _ H5 e5 => ?_
        refine q_asg (v := .int (s'.moves : Int)) (ev_is (ev_op (ev_var rfl) (ev_var rfl) rv_I0) (by rw [← hmov, Int.natCast_add])) fun H6 e6 => ?_
        refine q_asg (v := .ref da) (ev_var rfl) fun H7 e7 => ?_
        have e27 := ((e24.trans e5).trans e6).trans e7
        have L7 := L.mono e27
        refine s_when (b := false) (et_is (b := false) (et_or (a := false) (b := false) (et_is (et_not (et_B (ev_D (z := .bl true) (ea_cons (ev_moves L7.S T.cl T.n_moves (ev_var rfl)) ea_nil) fun _ _ => ⟨_, rfl, rfl⟩))) rfl) fun _ => et_is (et_test (ev_op (ev_moves L7.S T.cl T.n_moves (ev_var rfl)) (ev_var rfl) (rv_ne rfl))) (by simp)) rfl) (fun z => nomatch z) fun _ H8 e8 => ?_
        have e28 := e27.trans e8
        exact ⟨s', F, l, pl, R', da, cm, ln, _, _, _, _, _, _, _, rfl, L.mono e28, hR', hda.mono e28, nfa, hcm.mono e28 (Nat.le_refl _), hln.mono e28 (Nat.le_refl _), nfc, nfl, nac, nal, ndl, e28 _ _ hpC2, nfC, nCl, hnd', hnames', hcnt', hli, hl2, hlc⟩
    · rintro σ' H' ⟨s, F, l, pl, R, db, cm, ln, v11, v12, v13, v14, v15, v16, v17, rfl, L, hR, hdb', nfb, hcm, hln, nfc, nfl, nbc, nbl, ndl, hpC', nfC, nCl, hnd, hnames, hcnt, hli, hl2, hlc⟩
      have h0 : l = [] := List.length_eq_zero_iff.mp (by omega)
      subst h0
      obtain ⟨ps, hps, htp⟩ := id L.tl
      have hps0 : ps = [] := List.length_eq_zero_iff.mp (tups_len htp)
      subst hps0
      refine s_ret (v := .bl true) (ev_is (ev_opL (ev_var rfl) (el_lst ea_nil (Nat.zero_le _)) fun r HA hr eA => rvl_eqD (fun HB eB => .lst (sq_of (eB _ _ (eA _ _ hps))) .nil) (fun HB eB => .lst (sq_of (eB _ _ hr)) .nil) (by decide +kernel) (by decide +kernel)) ?_) fun HA _ => k HA
      decide +kernel
end
theorem all_mk {l : PySem.W.OpenLaw} {w : World} {K : PySem.W.Frag} {mg : Str → Option Value} {fa : Addr} (hfa : mg "law" = some (.ref fa)) {NB NN FE LA BA ST : Addr} (T : Txt K mg NB NN FE LA BA ST) (d : DefAt K mg "law" s_law ["_law_script"]) :
    ∃ fd : FuncData, (∀ (s : Shared) (v : Value), BindsTo s fd ⟨[v], []⟩ [("_law_script", v)]) ∧ ∀ base : Heap, K.In base → base.Ns mainGlobals mg → FnOk l.prog w K mg base (L2N.CX l.prog w) 6 fa fd ["_law_script"] (spLaw K) := by
  obtain ⟨f, fd, F, hm, hb⟩ := d.ex
  have e := hfa.symm.trans hm
  cases e
  exact ⟨fd, fun s v => .of_eq (hb [v] rfl), fun base _ _ => ok_law T F⟩
theorem walk {l : PySem.W.OpenLaw} {q : Program} {loose : List Str} {XP : (Str → Option Value) → Heap → Prop} {YP : World → Heap → Prop} {d : DefRec} {K : Params → PySem.W.Frag} (hn : l.most = some 63) (hdf : d.params.defaults = [])
    (hY : ∀ (w : World) (h : Heap), YP w h → (K w.params).In h)
    (F : ∀ (w : World) (mg : Str → Option Value) (fa : Addr) (h : Heap), (K w.params).In h → h.Ns mainGlobals mg → mg d.name = some (.ref fa) →
      ∃ fd : FuncData, (∀ (s : Shared) (u : Value), BindsTo s fd ⟨[u], []⟩ [("_law_script", u)]) ∧ ∀ base : Heap, (K w.params).In base → base.Ns mainGlobals mg → FnOk l.prog w (K w.params) mg base (L2N.CX l.prog w) 6 fa fd ["_law_script"] (spLaw (K w.params))) :
    PySem.W.WalkO q loose XP YP l.row.toRowW d [] (fun f vs => PySem.call f vs) :=
  L2.walk_of (n := 63) (k := 6) (x := "_law_script") (CX := fun w => L2N.CX l.prog w) (sp := fun w => spLaw (K w.params)) hn (by decide) hdf ⟨rfl, by decide, by decide⟩ hY F (fun _ _ a ns hl _ hS => ⟨a, ns, rfl, hS, hl, fun _ => rfl⟩) fun w H s e s' z => noCX l.prog w H s e s' z
end BF
open PySem PySem.W PyProof.Rows in
set_option maxRecDepth 100000 in
set_option maxHeartbeats 0 in
theorem PySem.Challenge.cw_bucketfall_k11_whole_moves_counted_holds : PySem.Challenge.rw_bucketfall_k11_whole_moves_counted.Holds := by
  w_on; o_law; k_head; (case hw => w_witness2)
  k_fill
  refine BF.walk (l := PySem.Challenge.rw_bucketfall_k11_whole_moves_counted) rfl rfl (fun w h Y => PySem.W.kIn_of Y) ?F
  case F =>
    intro w mg fa h KX G hmg
    refine' BF.all_mk hmg (NB := ?C_NB) (NN := ?C_NN) (FE := ?C_FE) (LA := ?C_LA) (BA := ?C_BA) (ST := ?C_ST) ⟨BF.ErrAt.mk (PySem.W.mg_of KX G ?g_FallError) ?x_FallError ?k_FallError ?b_FallError ?t_FallError, BF.ErrAt.mk (PySem.W.mg_of KX G ?g_NoBase) ?x_NoBase ?k_NoBase ?b_NoBase ?t_NoBase, BF.ErrAt.mk (PySem.W.mg_of KX G ?g_NoNumber) ?x_NoNumber ?k_NoNumber ?b_NoNumber ?t_NoNumber, BF.ErrAt.mk (PySem.W.mg_of KX G ?g_Late) ?x_Late ?k_Late ?b_Late ?t_Late, BF.ErrAt.mk (PySem.W.mg_of KX G ?g_Bare) ?x_Bare ?k_Bare ?b_Bare ?t_Bare, BF.const_mk KX G ?c_LEAST_BASE ?v_LEAST_BASE, BF.const_mk KX G ?c_MOST_BASE ?v_MOST_BASE, PySem.W.mg_none_of KX G ?z_min, PySem.W.mg_none_of KX G ?z_len, PySem.W.mg_none_of KX G ?z_sorted, PySem.W.mg_none_of KX G ?z_isinstance, PySem.W.mg_none_of KX G ?z_int, PySem.W.mg_none_of KX G ?z_bool, PySem.W.mg_none_of KX G ?z_range, PySem.W.mg_none_of KX G ?z_list, PySem.W.mg_none_of KX G ?z_tuple, PySem.W.mg_none_of KX G ?z_str, ?d_check_base, ?d_check_number, ?d_parting, ?d_number_of, ?d_first_of_least, ?d__law_cell_at, ?d__law_room, ?d__law_whole, ?d__law_length, ?d__law_first, ?d__law_places, ?d__law_steps, ?d__law_step_by, ?d__law_went, PySem.W.mg_of KX G ?g_Store, ⟨?cl_a, ?cl_b, ?cl_c, ?cl_d⟩, (BF.noattr_mk ?n_base), (BF.noattr_mk ?n_last), (BF.noattr_mk ?n_many), (BF.noattr_mk ?n_moves), (BF.noattr_mk ?n__buckets), ?d_Store___init__, ?d_Store_put, ?d_Store_take, ?d_Store_least, ?d_Store_rows, ?d_Store__lowest, ?d_Store__set_down, ?d_Store__fall⟩ ?d_law
    (case g_FallError => k_is)
    (case x_FallError => k_exc)
    (case k_FallError => k_is)
    (case b_FallError => k_is)
    (case t_FallError => k_is)
    (case g_NoBase => k_is)
    (case x_NoBase => k_exc)
    (case k_NoBase => k_is)
    (case b_NoBase => k_is)
    (case t_NoBase => k_is)
    (case g_NoNumber => k_is)
    (case x_NoNumber => k_exc)
    (case k_NoNumber => k_is)
    (case b_NoNumber => k_is)
    (case t_NoNumber => k_is)
    (case g_Late => k_is)
    (case x_Late => k_exc)
    (case k_Late => k_is)
    (case b_Late => k_is)
    (case t_Late => k_is)
    (case g_Bare => k_is)
    (case x_Bare => k_exc)
    (case k_Bare => k_is)
    (case b_Bare => k_is)
    (case t_Bare => k_is)
    (case c_LEAST_BASE => k_is)
    (case v_LEAST_BASE => exact ⟨_, rfl⟩)
    (case c_MOST_BASE => k_is)
    (case v_MOST_BASE => exact ⟨_, rfl⟩)
    (case z_min => k_is)
    (case z_len => k_is)
    (case z_sorted => k_is)
    (case z_isinstance => k_is)
    (case z_int => k_is)
    (case z_bool => k_is)
    (case z_range => k_is)
    (case z_list => k_is)
    (case z_tuple => k_is)
    (case z_str => k_is)
    (case d_check_base => (refine' BF.def_mk KX G ?a ?l ?c ?k ?b; (case a => k_is); (case l => k_is); (case c => k_is); (case k => k_is); (case b => exact fun _ _ _ _ _ _ us hl => match us, hl with | [_], _ => rfl)))
    (case d_check_number => (refine' BF.def_mk KX G ?a ?l ?c ?k ?b; (case a => k_is); (case l => k_is); (case c => k_is); (case k => k_is); (case b => exact fun _ _ _ _ _ _ us hl => match us, hl with | [_], _ => rfl)))
    (case d_parting => (refine' BF.def_mk KX G ?a ?l ?c ?k ?b; (case a => k_is); (case l => k_is); (case c => k_is); (case k => k_is); (case b => exact fun _ _ _ _ _ _ us hl => match us, hl with | [_, _, _], _ => rfl)))
    (case d_number_of => (refine' BF.def_mk KX G ?a ?l ?c ?k ?b; (case a => k_is); (case l => k_is); (case c => k_is); (case k => k_is); (case b => exact fun _ _ _ _ _ _ us hl => match us, hl with | [_], _ => rfl)))
    (case d_first_of_least => (refine' BF.def_mk KX G ?a ?l ?c ?k ?b; (case a => k_is); (case l => k_is); (case c => k_is); (case k => k_is); (case b => exact fun _ _ _ _ _ _ us hl => match us, hl with | [_], _ => rfl)))
    (case d__law_cell_at => (refine' BF.def_mk KX G ?a ?l ?c ?k ?b; (case a => k_is); (case l => k_is); (case c => k_is); (case k => k_is); (case b => exact fun _ _ _ _ _ _ us hl => match us, hl with | [_, _], _ => rfl)))
    (case d__law_room => (refine' BF.def_mk KX G ?a ?l ?c ?k ?b; (case a => k_is); (case l => k_is); (case c => k_is); (case k => k_is); (case b => exact fun _ _ _ _ _ _ us hl => match us, hl with | [_, _], _ => rfl)))
    (case d__law_whole => (refine' BF.def_mk KX G ?a ?l ?c ?k ?b; (case a => k_is); (case l => k_is); (case c => k_is); (case k => k_is); (case b => exact fun _ _ _ _ _ _ us hl => match us, hl with | [_], _ => rfl)))
    (case d__law_length => (refine' BF.def_mk KX G ?a ?l ?c ?k ?b; (case a => k_is); (case l => k_is); (case c => k_is); (case k => k_is); (case b => exact fun _ _ _ _ _ _ us hl => match us, hl with | [_, _], _ => rfl)))
    (case d__law_first => (refine' BF.def_mk KX G ?a ?l ?c ?k ?b; (case a => k_is); (case l => k_is); (case c => k_is); (case k => k_is); (case b => exact fun _ _ _ _ _ _ us hl => match us, hl with | [_], _ => rfl)))
    (case d__law_places => (refine' BF.def_mk KX G ?a ?l ?c ?k ?b; (case a => k_is); (case l => k_is); (case c => k_is); (case k => k_is); (case b => exact fun _ _ _ _ _ _ us hl => match us, hl with | [_], _ => rfl)))
    (case d__law_steps => (refine' BF.def_mk KX G ?a ?l ?c ?k ?b; (case a => k_is); (case l => k_is); (case c => k_is); (case k => k_is); (case b => exact fun _ _ _ _ _ _ us hl => match us, hl with | [_, _, _, _], _ => rfl)))
    (case d__law_step_by => (refine' BF.def_mk KX G ?a ?l ?c ?k ?b; (case a => k_is); (case l => k_is); (case c => k_is); (case k => k_is); (case b => exact fun _ _ _ _ _ _ us hl => match us, hl with | [_, _], _ => rfl)))
    (case d__law_went => (refine' BF.def_mk KX G ?a ?l ?c ?k ?b; (case a => k_is); (case l => k_is); (case c => k_is); (case k => k_is); (case b => exact fun _ _ _ _ _ _ us hl => match us, hl with | [_, _, _, _], _ => rfl)))
    (case d_law => (refine' BF.def_mk KX G ?a ?l ?c ?k ?b; (case a => k_is); (case l => k_is); (case c => k_is); (case k => k_is); (case b => exact fun _ _ _ _ _ _ us hl => match us, hl with | [_], _ => rfl)))
    (case g_Store => k_is)
    (case cl_a => k_is); (case cl_b => k_is); (case cl_c => k_is); (case cl_d => k_is)
    (case n_base => k_is)
    (case n_last => k_is)
    (case n_many => k_is)
    (case n_moves => k_is)
    (case n__buckets => k_is)
    (case d_Store___init__ => (refine' BF.init_mk ?a ?i ?l ?c ?k ?b ?m ?kc; (case a => k_is); (case i => k_is); (case l => k_is); (case c => k_is); (case k => k_is); (case b => exact fun _ _ _ _ _ _ us hl => match us, hl with | [_, _], _ => rfl); (case m => k_is); (case kc => k_is)))
    (case d_Store_put => (refine' BF.meth_mk ?a ?i ?l ?c ?k ?b; (case a => k_is); (case i => k_is); (case l => k_is); (case c => k_is); (case k => k_is); (case b => exact fun _ _ _ _ _ _ us hl => match us, hl with | [_, _, _], _ => rfl)))
    (case d_Store_take => (refine' BF.meth_mk ?a ?i ?l ?c ?k ?b; (case a => k_is); (case i => k_is); (case l => k_is); (case c => k_is); (case k => k_is); (case b => exact fun _ _ _ _ _ _ us hl => match us, hl with | [_], _ => rfl)))
    (case d_Store_least => (refine' BF.meth_mk ?a ?i ?l ?c ?k ?b; (case a => k_is); (case i => k_is); (case l => k_is); (case c => k_is); (case k => k_is); (case b => exact fun _ _ _ _ _ _ us hl => match us, hl with | [_], _ => rfl)))
    (case d_Store_rows => (refine' BF.meth_mk ?a ?i ?l ?c ?k ?b; (case a => k_is); (case i => k_is); (case l => k_is); (case c => k_is); (case k => k_is); (case b => exact fun _ _ _ _ _ _ us hl => match us, hl with | [_], _ => rfl)))
    (case d_Store__lowest => (refine' BF.meth_mk ?a ?i ?l ?c ?k ?b; (case a => k_is); (case i => k_is); (case l => k_is); (case c => k_is); (case k => k_is); (case b => exact fun _ _ _ _ _ _ us hl => match us, hl with | [_], _ => rfl)))
    (case d_Store__set_down => (refine' BF.meth_mk ?a ?i ?l ?c ?k ?b; (case a => k_is); (case i => k_is); (case l => k_is); (case c => k_is); (case k => k_is); (case b => exact fun _ _ _ _ _ _ us hl => match us, hl with | [_, _, _], _ => rfl)))
    (case d_Store__fall => (refine' BF.meth_mk ?a ?i ?l ?c ?k ?b; (case a => k_is); (case i => k_is); (case l => k_is); (case c => k_is); (case k => k_is); (case b => exact fun _ _ _ _ _ _ us hl => match us, hl with | [_, _], _ => rfl)))
#print axioms PySem.Challenge.cw_bucketfall_k11_whole_moves_counted_holds

