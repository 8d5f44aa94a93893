import PyProof.Rows.All
import Wide.All
import OpenK.AllK
import Wide.FinOn
import HandS.ForMost
import HandS.ForExc
import HandS.ExcIs
import HandS.More
import PyProof.ExcBaseAll.ValueError
import HandS.Evl
import HandS.Wide
import HandS.WideBits
import HandS.Style
import HandS.IsInst
import PyProof.P3Eq
import HandS.Gcd
import PyProof.MaxThree
import Flt.RightSqrt
import KE.KMathG
import PySem.Challenge.RW_portolan_k02_arithmetic_of_enclosures
set_option Elab.async false
set_option linter.all false
set_option maxRecDepth 100000
set_option maxHeartbeats 4000000
/-! Own rules over the layer: what a reading evaluates to, for texts that change nothing. -/
namespace Cm
open PySem PySem.Spec PyProof.Rows L2 Evl

theorem ex_app {H H' : Hp} (e : Ex H H') {p : Addr} {o : HO} (h : H p = some o) : H' p = some o := e p o h
/-- a new tuple comes back -/
def RetU (xs : List V) (H : Hp) (Q : VK) : Prop := ∀ p H2, H p = none → Ex H H2 → H2 p = some (.tup xs) → Q (.ref p) H2
def SpU (sp : Sp) (vs : List V) (H : Hp) (xs : List V) : Prop := ∀ H1, Ex H H1 → ∀ Q : VK, (∀ p H2, H1 p = none → Ex H1 H2 → H2 p = some (.tup xs) → Q (.ref p) H2) → ∀ E : XK, sp vs H1 Q E
section
variable {K : PySem.W.Frag} {σ : L2.St} {H H' : Hp} {ta tb tc te tx : TE} {t u : TT} {x y z v w : V} {r r' : R2} {D : Ends} {tz : TS}
/-- the slots written out anew -/
theorem st_is {σ' : L2.St} {ts : TS} (e : σ = σ') (h : ts D σ' H) : ts D σ H := by
  rw [e]
  exact h
theorem RetU.go {xs : List V} {Q : VK} (k : RetU xs H Q) (e : Ex H H') {p : Addr} {H2 : Hp} (hp : H' p = none) (e2 : Ex H' H2) (h : H2 p = some (.tup xs)) : Q (.ref p) H2 := k p H2 (fresh_back e hp) (e.trans e2) h
theorem eu_call {sp : Sp} {dvs vs xs : List V} {E : XK} {ta : TA} (h : EvA ta σ H vs) (hs : SpU sp (vs ++ dvs) H xs) : EvU (tCall sp dvs E ta) σ H xs := fun H1 e Q q =>
  h H1 e _ fun H2 e2 => hs H2 (e.trans e2) Q (fun p H3 hp e3 h3 => q p H3 (fresh_back e2 hp) (e2.trans e3) h3) E
theorem eu_is {xs ys : List V} (h : EvU te σ H xs) (e : xs = ys) : EvU te σ H ys := by
  rw [← e]
  exact h
/-- a call whose first argument is a new tuple -/
theorem ev_callU {sp : Sp} {dvs vs xs : List V} {E : XK} {tr : TA} (h1 : EvU te σ H xs) (h2 : EvA tr σ H vs) (hs : ∀ p H1, Ex H H1 → H1 p = some (.tup xs) → SpV sp (.ref p :: vs ++ dvs) H1 z) : Ev (tCall sp dvs E (tCons te tr)) σ H z := fun H1 e Q q =>
  h1 H1 e _ fun p H2 np e2 hp => h2 H2 (e.trans e2) _ fun H3 e3 => hs p H3 ((e.trans e2).trans e3) (e3 _ _ hp) H3 (Ex.refl H3) Q (fun H4 e4 => q H4 ((e2.trans e3).trans e4)) E
/-- .. whose second argument is a new tuple -/
theorem ev_callVU {sp : Sp} {dvs vs xs : List V} {E : XK} {tr : TA} (h0 : Ev ta σ H x) (h1 : EvU te σ H xs) (h2 : EvA tr σ H vs) (hs : ∀ p H1, Ex H H1 → H1 p = some (.tup xs) → SpV sp (x :: .ref p :: vs ++ dvs) H1 z) : Ev (tCall sp dvs E (tCons ta (tCons te tr))) σ H z := fun H1 e Q q =>
  h0 H1 e _ fun H2 e2 => h1 H2 (e.trans e2) _ fun p H3 np e3 hp => h2 H3 ((e.trans e2).trans e3) _ fun H4 e4 => hs p H4 (((e.trans e2).trans e3).trans e4) (e4 _ _ hp) H4 (Ex.refl H4) Q (fun H5 e5 => q H5 (((e2.trans e3).trans e4).trans e5)) E
theorem ev_chain {b c : Bool} (ha : Ev ta σ H x) (hb : Ev tb σ H y) (hc : Ev tc σ H w) (h1 : RV r x y H (.bl b)) (h2 : RV r' y w H (.bl c)) : Ev (tChain r r' ta tb tc) σ H (.bl (b && c)) := fun H1 e Q q =>
  ha H1 e _ fun H2 e2 => hb H2 (e.trans e2) _ fun H3 e3 => h1 H3 ((e.trans e2).trans e3) _ fun H4 e4 => ⟨b, rfl, by
    cases b with
    | true =>
      show tc σ H4 _
      exact hc H4 (((e.trans e2).trans e3).trans e4) _ fun H5 e5 => h2 H5 ((((e.trans e2).trans e3).trans e4).trans e5) Q fun H6 e6 => q H6 ((((e2.trans e3).trans e4).trans e5).trans e6)
    | false =>
      show Q (.bl false) H4
      exact q H4 ((e2.trans e3).trans e4)⟩
theorem rv_shl {i : Int} {k : Nat} (h : CShl i (k : Int)) : RV (fun x y H Q => ∃ (i : Int) (k : Nat), x = .int i ∧ y = .int (k : Int) ∧ CShl i (k : Int) ∧ Q (.int (i * 2 ^ k)) H) (.int i) (.int (k : Int)) H (.int (i * 2 ^ k)) :=
  fun H1 _ _ q => ⟨i, k, rfl, rfl, h, q H1 (Ex.refl H1)⟩
theorem rv_shr {i : Int} {k : Nat} : RV (fun x y H Q => ∃ (i : Int) (k : Nat), x = .int i ∧ y = .int (k : Int) ∧ Q (.int (i / 2 ^ k)) H) (.int i) (.int (k : Int)) H (.int (i / 2 ^ k)) :=
  fun H1 _ _ q => ⟨i, k, rfl, rfl, q H1 (Ex.refl H1)⟩
theorem rv_isB {a b : Bool} : RV rIsB (.bl a) (.bl b) H (.bl (decide (a = b))) := fun H1 _ _ q => ⟨a, b, rfl, rfl, q H1 (Ex.refl H1)⟩
theorem rv_notB {a b : Bool} : RV rNotB (.bl a) (.bl b) H (.bl (!decide (a = b))) := fun H1 _ _ q => ⟨a, b, rfl, rfl, q H1 (Ex.refl H1)⟩
theorem rv_isN : RV (fun x y H Q => y = .non ∧ Q (.bl (decide (x = .non))) H) x .non H (.bl (decide (x = .non))) := fun H1 _ _ q => ⟨rfl, q H1 (Ex.refl H1)⟩
theorem rv_notN : RV (fun x y H Q => y = .non ∧ Q (.bl (!decide (x = .non))) H) x .non H (.bl (!decide (x = .non))) := fun H1 _ _ q => ⟨rfl, q H1 (Ex.refl H1)⟩
theorem rc_abs {i : Int} : RC (fun xs H Q => ∃ i, xs = [.int i] ∧ Q (.int (if i < 0 then -i else i)) H) [.int i] H (.int (i.natAbs : Int)) := fun H1 _ Q q => ⟨i, rfl, by
  have e : (if i < 0 then -i else i) = (i.natAbs : Int) := by split <;> omega
  rw [e]
  exact q H1 (Ex.refl H1)⟩
theorem rc_max2 {i j : Int} : RC (fun xs H Q => ∃ i j, xs = [.int i, .int j] ∧ Q (.int (if j > i then j else i)) H) [.int i, .int j] H (.int (max i j)) := fun H1 _ Q q => ⟨i, j, rfl, by
  have e : (if j > i then j else i) = max i j := by split <;> omega
  rw [e]
  exact q H1 (Ex.refl H1)⟩
theorem rc_min2 {i j : Int} : RC (fun xs H Q => ∃ i j, xs = [.int i, .int j] ∧ Q (.int (if j < i then j else i)) H) [.int i, .int j] H (.int (min i j)) := fun H1 _ Q q => ⟨i, j, rfl, by
  have e : (if j < i then j else i) = min i j := by split <;> omega
  rw [e]
  exact q H1 (Ex.refl H1)⟩
theorem rc_intB {k : Bool} : RC (fun xs H Q => (∃ i, xs = [.int i] ∧ Q (.int i) H) ∨ ∃ k, xs = [.bl k] ∧ Q (.int (if k then 1 else 0)) H) [.bl k] H (.int (if k then 1 else 0)) := fun H1 _ Q q => Or.inr ⟨k, rfl, q H1 (Ex.refl H1)⟩
theorem rc_intI {i : Int} : RC (fun xs H Q => (∃ i, xs = [.int i] ∧ Q (.int i) H) ∨ ∃ k, xs = [.bl k] ∧ Q (.int (if k then 1 else 0)) H) [.int i] H (.int i) := fun H1 _ Q q => Or.inl ⟨i, rfl, q H1 (Ex.refl H1)⟩
theorem rc_isiT {p : Addr} {xs : List V} (h : H p = some (.tup xs)) : RC (rIsi K) [.ref p, .ty "tuple"] H (.bl true) := fun H1 e _ q =>
  ⟨.ref p, .ty "tuple", .type "tuple", .type "tuple", true, rfl, .ty _, .base (.tup (e _ _ h)), kit_ty (by decide +kernel), q H1 (Ex.refl H1)⟩
theorem rc_isiS {x : Str} : RC (rIsi K) [.str x, .ty "str"] H (.bl true) := fun H1 e _ q =>
  ⟨.str x, .ty "str", .type "str", .type "str", true, rfl, .ty _, .base (.str x), kit_ty (by decide +kernel), q H1 (Ex.refl H1)⟩
theorem rc_lenL {p : Addr} {xs : List V} (h : SqL K H p xs) : RC (fun xs H Q => ∃ x n, xs = [x] ∧ LenV K x H n ∧ Q (.int n) H) [.ref p] H (.int (xs.length : Int)) := fun H1 e _ q =>
  ⟨.ref p, (xs.length : Nat), rfl, .inl ⟨_, ex_l e h, rfl⟩, q H1 (Ex.refl H1)⟩
/-! ### data -/
mutual
theorem dp_mono (e : Ex H H') : ∀ (d : PyData) (v : V), Dp K H v d → Dp K H' v d
  | _, _, .non => .non
  | _, _, .bl b => .bl b
  | _, _, .int i => .int i
  | _, _, .str x => .str x
  | _, _, .lst h a => .lst (ex_l e h) (dps_mono e _ _ a)
  | _, _, .tup h a => .tup (ex_t e h) (dps_mono e _ _ a)
theorem dps_mono (e : Ex H H') : ∀ (ds : List PyData) (vs : List V), DpAll K H vs ds → DpAll K H' vs ds
  | _, _, .nil => .nil
  | _, _, .cons h t => .cons (dp_mono e _ _ h) (dps_mono e _ _ t)
end
theorem dpInts : ∀ (is : List Int), DpAll K H (is.map V.int) (is.map PyData.int)
  | [] => .nil
  | i :: r => .cons (.int i) (dpInts r)
theorem eqvS {d : PyData} (h : SeqAt.shaped d = true) : PyData.eqv d d = true := by
  unfold SeqAt.shaped at h
  rw [Bool.and_eq_true] at h
  exact PySem.SeqAt.eqv_refl d h.1
/-- the same data on both sides -/
theorem rv_neS {d : PyData} (hx : Dp K H x d) (hy : Dp K H y d) (hs : SeqAt.shaped d = true) : RV (rNeD K) x y H (.bl false) := fun H1 e Q q =>
  ⟨d, d, dp_mono e _ _ hx, dp_mono e _ _ hy, hs, hs, by
    rw [eqvS hs]
    exact q H1 (Ex.refl H1)⟩
theorem rv_eqS {d : PyData} (hx : Dp K H x d) (hy : Dp K H y d) (hs : SeqAt.shaped d = true) : RV (rEqD K) x y H (.bl true) := fun H1 e Q q =>
  ⟨d, d, dp_mono e _ _ hx, dp_mono e _ _ hy, hs, hs, by
    rw [eqvS hs]
    exact q H1 (Ex.refl H1)⟩
/-- a pair of ints -/
theorem dp2 {p : Addr} {i j : Int} (h : SqT K H p [.int i, .int j]) : Dp K H (.ref p) (.tuple [.int i, .int j]) := .tup h (.cons (.int i) (.cons (.int j) .nil))
theorem sh2 {i j : Int} : SeqAt.shaped (.tuple [.int i, .int j]) = true := rfl
end
/-! ### numbers -/
/-- a bound that omega does not look into -/
def Bd (k : Nat) (x : Int) : Prop := x.natAbs < 2 ^ k
theorem pow_pos (n : Nat) : (0 : Int) < 2 ^ n := PySem.W.kbt_pos n
theorem pow_abs (n : Nat) : ((2 : Int) ^ n).natAbs = 2 ^ n := by
  rw [Int.natAbs_pow]
  rfl
theorem ab_mono {x : Int} {a b : Nat} (h : x.natAbs < 2 ^ a) (hab : a ≤ b) : x.natAbs < 2 ^ b := Nat.lt_of_lt_of_le h (Nat.pow_le_pow_right (by decide) hab)
theorem ab_pow {n k : Nat} (h : n < k) : ((2 : Int) ^ n).natAbs < 2 ^ k := by
  rw [pow_abs]
  exact Nat.pow_lt_pow_right (by decide) h
theorem ab_shl {x : Int} {a n : Nat} (h : x.natAbs < 2 ^ a) : (x * 2 ^ n).natAbs < 2 ^ (a + n) := by
  rw [Int.natAbs_mul, pow_abs, Nat.pow_add]
  exact Nat.mul_lt_mul_of_pos_right h (Nat.two_pow_pos n)
theorem ab_mul {x y : Int} {a b : Nat} (hx : x.natAbs < 2 ^ a) (hy : y.natAbs < 2 ^ b) : (x * y).natAbs < 2 ^ (a + b) := wide_lt hx hy
theorem ab_add {x y : Int} {a : Nat} (hx : x.natAbs < 2 ^ a) (hy : y.natAbs < 2 ^ a) : (x + y).natAbs < 2 ^ (a + 1) := by
  have e : 2 ^ (a + 1) = 2 ^ a + 2 ^ a := by rw [Nat.pow_succ]; omega
  omega
theorem ab_neg {x : Int} {a : Nat} (hx : x.natAbs < 2 ^ a) : (-x).natAbs < 2 ^ a := by omega
theorem ab_sm {x : Int} {a c : Nat} (h : x.natAbs ≤ c) (hc : c < 2 ^ a) : x.natAbs < 2 ^ a := Nat.lt_of_le_of_lt h hc
theorem fl_le {s q : Int} (hq : 0 < q) : s / q * q ≤ s := Int.ediv_mul_le s (by omega)
theorem fl_lt {s q : Int} (hq : 0 < q) : s < (s / q + 1) * q := by
  rw [Int.add_mul, Int.one_mul]
  exact Int.lt_ediv_add_one_mul_self s hq |> fun h => by rw [Int.add_mul, Int.one_mul] at h; exact h
theorem cl_ge {s q : Int} (hq : 0 < q) : s ≤ -(-s / q) * q := by
  have h := fl_le (s := -s) hq
  rw [Int.neg_mul]
  omega
theorem cl_lt {s q : Int} (hq : 0 < q) : (-(-s / q) - 1) * q < s := by
  have h := fl_lt (s := -s) hq
  rw [Int.sub_mul, Int.one_mul, Int.neg_mul]
  rw [Int.add_mul, Int.one_mul] at h
  omega
theorem ab_div {x q : Int} {a : Nat} (hq : 0 < q) (h : x.natAbs < 2 ^ a) : (x / q).natAbs < 2 ^ a := by
  have h1 : (x / q).natAbs ≤ x.natAbs := by
    by_cases hx : 0 ≤ x
    · have := Int.ediv_le_self q hx
      have := Int.ediv_nonneg hx (Int.le_of_lt hq)
      omega
    · have h2 : x / q < 0 := Int.ediv_neg_of_neg_of_pos (by omega) hq
      have h3 := fl_lt (s := x) hq
      have h4 : (x / q + 1) * q ≤ (x / q + 1) := by
        have h5 : (x / q + 1) * (q - 1) ≤ 0 := Int.mul_nonpos_of_nonpos_of_nonneg (by omega) (by omega)
        rw [Int.mul_sub, Int.mul_one] at h5
        omega
      omega
  omega
theorem mul_le_r {a b q : Int} (h : a ≤ b) (hq : 0 < q) : a * q ≤ b * q := Int.mul_le_mul_of_nonneg_right h (Int.le_of_lt hq)
/-- the ceiling, by one more where the floor is not exact -/
theorem ceil_eq {s q : Int} (hq : 0 < q) : -(-s / q) = s / q + (if (!decide (s / q * q = s)) = true then 1 else 0) := by
  have a1 := fl_le (s := s) hq
  have a2 := fl_lt (s := s) hq
  have b1 := cl_ge (s := s) hq
  have b2 := cl_lt (s := s) hq
  have lt_of : ∀ {u v : Int}, u * q < v * q → u < v := fun h => Int.lt_of_mul_lt_mul_right h (Int.le_of_lt hq)
  have c1 : -(-s / q) - 1 < s / q + 1 := lt_of (Int.lt_trans b2 a2)
  by_cases e : s / q * q = s
  · rw [decide_eq_true e]
    have c2 : -(-s / q) - 1 < s / q := lt_of (by rw [e]; exact b2)
    have c3 : s / q - 1 < -(-s / q) := lt_of (Int.lt_of_lt_of_le (by rw [Int.sub_mul, Int.one_mul, e]; omega) b1)
    show _ = s / q + 0
    omega
  · rw [decide_eq_false e]
    have c3 : s / q < -(-s / q) := lt_of (by omega)
    show _ = s / q + 1
    omega
end Cm

/-! Own rules: min and max of four ints, isqrt, // by any divisor. -/
namespace Mi
open PySem PySem.Spec PyProof.Rows L2 Evl Cm
theorem args_min4 (a b c d : Value) : argsOk "min" ⟨[a, b, c, d], []⟩ := by unfold argsOk; kernel_rfl
theorem args_max4 (a b c d : Value) : argsOk "max" ⟨[a, b, c, d], []⟩ := by unfold argsOk; kernel_rfl
section
variable {prog : Program} {w : World} {A : Around} {E : Value → Shared → Prop} {s : Shared}
theorem call_min_four {a b c d : Value} {Q : Value → Shared → Prop}
    (h : wpAny (model prog w) A.in1 (pyIter (.ref s.heap.objs.size)) (fun it s₂ => ∃ I fp wr n P St bt, it = .ref I ∧ Walks prog w A.in1 I fp wr n P St ∧ St 0 s₂.heap ∧ (∀ b ∈ fp, b < s₂.heap.objs.size) ∧ 0 < n ∧ CmpOf prog w A.in1 .Lt P bt ∧
      ∀ v h' tk, P (argBest bt (n - 1)) v → (∀ b o, b ∉ wr → s₂.heap.get? b = some o → h'.get? b = some o) → Q v { s₂ with heap := h', toks := tk }) E
      { s with heap := s.heap.push { cls := .type "tuple", data := .seq #[a, b, c, d] } }) :
    wpAny (model prog w) A (call (.builtin "min") [a, b, c, d]) Q E s := by
  have hname : (toString "min" ++ toString ".loop" : String) = "min.loop" := by decide
  refine call_function_tree F.kind_min F.plain_min F.entry_min (args_min4 _ _ _ _) ?_
  show wpAny _ A.in1 (Builtin.Builtins.bindParams "min" ["key", "default"] 0 ⟨[], []⟩ >>= _) _ _ s
  refine wpAny_bind (wpAny_of_eq (show Builtin.Builtins.bindParams "min" ["key", "default"] 0 ⟨[], []⟩ = pure [none, none] from rfl) ?_)
  show wpAny _ A.in1 (newTuple [a, b, c, d] >>= _) _ _ s
  refine wpAny_bind (wpAny_newObj_type ?_)
  refine wpAny_bind (wpAny_mono h (fun it s₂ h₂ => ?_) fun _ _ e => e)
  obtain ⟨I, fp, wr, n, P, St, bt, rfl, W, hst, hfp, hn, hcmp, hQ⟩ := h₂
  refine wpAny_bind (wpAny_newObj_type ?_)
  have hSf : s₂.heap.objs.size ∉ fp := fun hm => Nat.lt_irrefl _ (hfp _ hm)
  rw [hname]
  refine wpAny_pure ⟨plainId_quiet F.plain_min_loop _, codeAny_min_loop_first W bt hcmp s₂.heap.objs.size hSf hn (W.frame _ _ _ hst fun b _ o e => Heap.get?_push_of_some _ e) (Heap.get?_push_size _ rfl) fun v h' tk hP hk => ?_⟩
  exact hQ v h' tk hP fun b o hbw e => hk b o hbw (Nat.ne_of_lt (Heap.lt_size e)) (Heap.get?_push_of_some _ e)
theorem call_max_four {a b c d : Value} {Q : Value → Shared → Prop}
    (h : wpAny (model prog w) A.in1 (pyIter (.ref s.heap.objs.size)) (fun it s₂ => ∃ I fp wr n P St bt, it = .ref I ∧ Walks prog w A.in1 I fp wr n P St ∧ St 0 s₂.heap ∧ (∀ b ∈ fp, b < s₂.heap.objs.size) ∧ 0 < n ∧ CmpOf prog w A.in1 .Gt P bt ∧
      ∀ v h' tk, P (argBest bt (n - 1)) v → (∀ b o, b ∉ wr → s₂.heap.get? b = some o → h'.get? b = some o) → Q v { s₂ with heap := h', toks := tk }) E
      { s with heap := s.heap.push { cls := .type "tuple", data := .seq #[a, b, c, d] } }) :
    wpAny (model prog w) A (call (.builtin "max") [a, b, c, d]) Q E s := by
  have hname : (toString "max" ++ toString ".loop" : String) = "max.loop" := by decide
  refine call_function_tree F.kind_max F.plain_max F.entry_max (args_max4 _ _ _ _) ?_
  show wpAny _ A.in1 (Builtin.Builtins.bindParams "max" ["key", "default"] 0 ⟨[], []⟩ >>= _) _ _ s
  refine wpAny_bind (wpAny_of_eq (show Builtin.Builtins.bindParams "max" ["key", "default"] 0 ⟨[], []⟩ = pure [none, none] from rfl) ?_)
  show wpAny _ A.in1 (newTuple [a, b, c, d] >>= _) _ _ s
  refine wpAny_bind (wpAny_newObj_type ?_)
  refine wpAny_bind (wpAny_mono h (fun it s₂ h₂ => ?_) fun _ _ e => e)
  obtain ⟨I, fp, wr, n, P, St, bt, rfl, W, hst, hfp, hn, hcmp, hQ⟩ := h₂
  refine wpAny_bind (wpAny_newObj_type ?_)
  have hSf : s₂.heap.objs.size ∉ fp := fun hm => Nat.lt_irrefl _ (hfp _ hm)
  rw [hname]
  refine wpAny_pure ⟨plainId_quiet F.plain_max_loop _, codeAny_max_loop_first W bt hcmp s₂.heap.objs.size hSf hn (W.frame _ _ _ hst fun b _ o e => Heap.get?_push_of_some _ e) (Heap.get?_push_size _ rfl) fun v h' tk hP hk => ?_⟩
  exact hQ v h' tk hP fun b o hbw e => hk b o hbw (Nat.ne_of_lt (Heap.lt_size e)) (Heap.get?_push_of_some _ e)
theorem min4 {a b c d : Int} {t u x y : Tok} {Q : Value → Shared → Prop} (hh : A.handled = none)
    (h : ∀ h' tk t', (∀ z o, s.heap.get? z = some o → h'.get? z = some o) → Q (.int (min (min a b) (min c d)) t') { s with heap := h', toks := tk }) :
    wpAny (model prog w) A (call (.builtin "min") [.int a t, .int b u, .int c x, .int d y]) Q E s := by
  have hT : (s.heap.push { cls := .type "tuple", data := .seq #[.int a t, .int b u, .int c x, .int d y] }).IsTuple s.heap.objs.size (intItems #[(a, t), (b, u), (c, x), (d, y)]) := ⟨_, Heap.get?_push_size _ rfl, rfl, 0, by simp [intItems]⟩
  refine call_min_four (wpAny_pyIter_tuple hT ?_)
  have hsz : (s.heap.push { cls := .type "tuple", data := .seq #[.int a t, .int b u, .int c x, .int d y] }).objs.size = s.heap.objs.size + 1 := Heap.size_push ..
  refine ⟨_, [_, s.heap.objs.size], [_], _, _, _, _, rfl, Walks.tuple (A := A.in1) hh _ s.heap.objs.size (by rw [hsz]; exact Nat.ne_of_lt (Nat.lt_succ_self _)) (intItems #[(a, t), (b, u), (c, x), (d, y)]),
    ⟨⟨_, Heap.get?_push_size _ rfl, rfl, rfl⟩, hT.push _⟩, fun z hz => ?_, by simp [intItems], CmpOf.ints_lt (numAt #[(a, t), (b, u), (c, x), (d, y)]) (fun _ _ => intItems_at), fun v h' tk hP hk => ?_⟩
  · show z < ((s.heap.push _).push _).objs.size
    rw [Heap.size_push, hsz]
    rcases List.mem_cons.mp hz with rfl | hz
    · rw [hsz]; exact Nat.lt_succ_self _
    · rcases List.mem_cons.mp hz with rfl | hz
      · exact Nat.lt_succ_of_lt (Nat.lt_succ_self _)
      · cases hz
  · have hold : ∀ z o, s.heap.get? z = some o → h'.get? z = some o := fun z o e => by
      refine hk z o (fun hm => ?_) (Heap.get?_push_of_some _ (Heap.get?_push_of_some _ e))
      rcases List.mem_cons.mp hm with e1 | hm
      · have := Heap.lt_size e; rw [e1, hsz] at this; exact Nat.lt_irrefl _ (Nat.lt_of_succ_lt this)
      · cases hm
    have hs4 : (intItems #[(a, t), (b, u), (c, x), (d, y)]).size - 1 = 3 := by simp [intItems]
    rw [hs4] at hP
    obtain ⟨t', rfl⟩ := intItems_at hP
    obtain ⟨h1, h2⟩ := argBest_lt (numAt #[(a, t), (b, u), (c, x), (d, y)]) 3
    have n0 : numAt #[(a, t), (b, u), (c, x), (d, y)] 0 = a := rfl
    have n1 : numAt #[(a, t), (b, u), (c, x), (d, y)] 1 = b := rfl
    have n2 : numAt #[(a, t), (b, u), (c, x), (d, y)] 2 = c := rfl
    have n3 : numAt #[(a, t), (b, u), (c, x), (d, y)] 3 = d := rfl
    have m0 := h2 0 (by omega)
    have m1 := h2 1 (by omega)
    have m2 := h2 2 (by omega)
    have m3 := h2 3 (by omega)
    rw [n0] at m0
    rw [n1] at m1
    rw [n2] at m2
    rw [n3] at m3
    generalize hB : argBest (fun i j => decide (numAt #[(a, t), (b, u), (c, x), (d, y)] i < numAt #[(a, t), (b, u), (c, x), (d, y)] j)) 3 = B at *
    have hv : numAt #[(a, t), (b, u), (c, x), (d, y)] B = min (min a b) (min c d) := by
      have h4 : B = 0 ∨ B = 1 ∨ B = 2 ∨ B = 3 := by omega
      rcases h4 with z | z | z | z
      · rw [z, n0] at m0 m1 m2 m3 ⊢; omega
      · rw [z, n1] at m0 m1 m2 m3 ⊢; omega
      · rw [z, n2] at m0 m1 m2 m3 ⊢; omega
      · rw [z, n3] at m0 m1 m2 m3 ⊢; omega
    rw [hv]
    exact h h' tk t' hold
theorem max4 {a b c d : Int} {t u x y : Tok} {Q : Value → Shared → Prop} (hh : A.handled = none)
    (h : ∀ h' tk t', (∀ z o, s.heap.get? z = some o → h'.get? z = some o) → Q (.int (max (max a b) (max c d)) t') { s with heap := h', toks := tk }) :
    wpAny (model prog w) A (call (.builtin "max") [.int a t, .int b u, .int c x, .int d y]) Q E s := by
  have hT : (s.heap.push { cls := .type "tuple", data := .seq #[.int a t, .int b u, .int c x, .int d y] }).IsTuple s.heap.objs.size (intItems #[(a, t), (b, u), (c, x), (d, y)]) := ⟨_, Heap.get?_push_size _ rfl, rfl, 0, by simp [intItems]⟩
  refine call_max_four (wpAny_pyIter_tuple hT ?_)
  have hsz : (s.heap.push { cls := .type "tuple", data := .seq #[.int a t, .int b u, .int c x, .int d y] }).objs.size = s.heap.objs.size + 1 := Heap.size_push ..
  refine ⟨_, [_, s.heap.objs.size], [_], _, _, _, _, rfl, Walks.tuple (A := A.in1) hh _ s.heap.objs.size (by rw [hsz]; exact Nat.ne_of_lt (Nat.lt_succ_self _)) (intItems #[(a, t), (b, u), (c, x), (d, y)]),
    ⟨⟨_, Heap.get?_push_size _ rfl, rfl, rfl⟩, hT.push _⟩, fun z hz => ?_, by simp [intItems], CmpOf.ints_gt (numAt #[(a, t), (b, u), (c, x), (d, y)]) (fun _ _ => intItems_at), fun v h' tk hP hk => ?_⟩
  · show z < ((s.heap.push _).push _).objs.size
    rw [Heap.size_push, hsz]
    rcases List.mem_cons.mp hz with rfl | hz
    · rw [hsz]; exact Nat.lt_succ_self _
    · rcases List.mem_cons.mp hz with rfl | hz
      · exact Nat.lt_succ_of_lt (Nat.lt_succ_self _)
      · cases hz
  · have hold : ∀ z o, s.heap.get? z = some o → h'.get? z = some o := fun z o e => by
      refine hk z o (fun hm => ?_) (Heap.get?_push_of_some _ (Heap.get?_push_of_some _ e))
      rcases List.mem_cons.mp hm with e1 | hm
      · have := Heap.lt_size e; rw [e1, hsz] at this; exact Nat.lt_irrefl _ (Nat.lt_of_succ_lt this)
      · cases hm
    have hs4 : (intItems #[(a, t), (b, u), (c, x), (d, y)]).size - 1 = 3 := by simp [intItems]
    rw [hs4] at hP
    obtain ⟨t', rfl⟩ := intItems_at hP
    obtain ⟨h1, h2⟩ := argBest_gt (numAt #[(a, t), (b, u), (c, x), (d, y)]) 3
    have n0 : numAt #[(a, t), (b, u), (c, x), (d, y)] 0 = a := rfl
    have n1 : numAt #[(a, t), (b, u), (c, x), (d, y)] 1 = b := rfl
    have n2 : numAt #[(a, t), (b, u), (c, x), (d, y)] 2 = c := rfl
    have n3 : numAt #[(a, t), (b, u), (c, x), (d, y)] 3 = d := rfl
    have m0 := h2 0 (by omega)
    have m1 := h2 1 (by omega)
    have m2 := h2 2 (by omega)
    have m3 := h2 3 (by omega)
    rw [n0] at m0
    rw [n1] at m1
    rw [n2] at m2
    rw [n3] at m3
    generalize hB : argBest (fun i j => decide (numAt #[(a, t), (b, u), (c, x), (d, y)] i > numAt #[(a, t), (b, u), (c, x), (d, y)] j)) 3 = B at *
    have hv : numAt #[(a, t), (b, u), (c, x), (d, y)] B = max (max a b) (max c d) := by
      have h4 : B = 0 ∨ B = 1 ∨ B = 2 ∨ B = 3 := by omega
      rcases h4 with z | z | z | z
      · rw [z, n0] at m0 m1 m2 m3 ⊢; omega
      · rw [z, n1] at m0 m1 m2 m3 ⊢; omega
      · rw [z, n2] at m0 m1 m2 m3 ⊢; omega
      · rw [z, n3] at m0 m1 m2 m3 ⊢; omega
    rw [hv]
    exact h h' tk t' hold
end
theorem vals4 {x y z v : V} {us : List Value} (r : Vals [x, y, z, v] us) : ∃ u1 u2 u3 u4, us = [u1, u2, u3, u4] ∧ RelV x u1 ∧ RelV y u2 ∧ RelV z u3 ∧ RelV v u4 := by
  cases r with
  | cons r1 r =>
    cases r with
    | cons r2 r =>
      cases r with
      | cons r3 r =>
        cases r with
        | cons r4 r =>
          cases r
          exact ⟨_, _, _, _, rfl, r1, r2, r3, r4⟩
section
variable {X : Cx}
def rMin4 : List V → Hp → VK → Prop := fun xs H Q => ∃ i j k l, xs = [.int i, .int j, .int k, .int l] ∧ Q (.int (min (min i j) (min k l))) H
def rMax4 : List V → Hp → VK → Prop := fun xs H Q => ∃ i j k l, xs = [.int i, .int j, .int k, .int l] ∧ Q (.int (max (max i j) (max k l))) H
theorem call_min4 (hc : X.calm = true) : CallR X (.builtin "min") rMin4 := by
  intro pins s σ H xs us Q I r h
  obtain ⟨i, j, k, l, rfl, q⟩ := h
  obtain ⟨u1, u2, u3, u4, rfl, ⟨t1, rfl⟩, ⟨t2, rfl⟩, ⟨t3, rfl⟩, ⟨t4, rfl⟩⟩ := vals4 r
  exact min4 (I.ok.hd hc) fun h' tk t' k => ⟨.int _, H, I.kept k, ⟨_, rfl⟩, q⟩
theorem call_max4 (hc : X.calm = true) : CallR X (.builtin "max") rMax4 := by
  intro pins s σ H xs us Q I r h
  obtain ⟨i, j, k, l, rfl, q⟩ := h
  obtain ⟨u1, u2, u3, u4, rfl, ⟨t1, rfl⟩, ⟨t2, rfl⟩, ⟨t3, rfl⟩, ⟨t4, rfl⟩⟩ := vals4 r
  exact max4 (I.ok.hd hc) fun h' tk t' k => ⟨.int _, H, I.kept k, ⟨_, rfl⟩, q⟩
/-- isqrt of a number below 2 ^ 4000 -/
def rSqrt : List V → Hp → VK → Prop := fun xs H Q => ∃ i : Int, xs = [.int i] ∧ 0 ≤ i ∧ Bd 4000 i ∧ ∀ r : Nat, (r : Int) * r ≤ i → i < ((r : Int) + 1) * ((r : Int) + 1) → Q (.int (r : Int)) H
theorem call_sqrt : CallR X (.builtin "math.isqrt") rSqrt := by
  intro pins s σ H xs us Q I r h
  obtain ⟨i, rfl, h0, hb, q⟩ := h
  obtain ⟨u1, rfl, ⟨t1, rfl⟩⟩ := vals1 r
  obtain ⟨n, rfl⟩ := Int.eq_ofNat_of_zero_le h0
  have hl : n.log2 ≤ 3999 := PySem.W.mg_log (show n < 2 ^ (3999 + 1) from hb)
  have hs := PySem.Float64.isqrt_spec n
  have qq := q (Float64.isqrt n) (by have := hs.1; exact_mod_cast this) (by have := hs.2; exact_mod_cast this)
  exact call_function_meets PySem.W.MGF.kind_isqrt PySem.W.MGF.plain_isqrt PySem.W.MGF.entry_isqrt (PySem.W.MGF.args_isqrt _) (PySem.W.mg_run_isqrt (n : Int) t1 (by omega) (by rw [Int.toNat_natCast]; omega) (by rw [Int.toNat_natCast]; omega)).meets ⟨.int _, H, I.tok _, ⟨_, rfl⟩, qq⟩
/-- // by a divisor that is not 0 and below 2 ^ 9000 -/
def CDivA (_ j : Int) : Prop := j ≠ 0 ∧ j.natAbs.log2 < 9000
theorem op_fdivA : OpR X (binaryOp .FloorDiv) (rI CDivA fun i j => .int (i.fdiv j)) := opI fun i j _ _ _ _ _ hc q => floordiv_int hc.1 q (.inl (PyProof.noPylong_of_log2 hc.2))
end
section
variable {H : Hp} {K : PySem.W.Frag}
theorem rc_min4 {i j k l : Int} : RC rMin4 [.int i, .int j, .int k, .int l] H (.int (min (min i j) (min k l))) := fun H1 _ _ q => ⟨i, j, k, l, rfl, q H1 (Ex.refl _)⟩
theorem rc_max4 {i j k l : Int} : RC rMax4 [.int i, .int j, .int k, .int l] H (.int (max (max i j) (max k l))) := fun H1 _ _ q => ⟨i, j, k, l, rfl, q H1 (Ex.refl _)⟩
end
end Mi


namespace K02
open PySem PySem.Spec PyProof.Rows L2 Evl Cm Mi
def topS (i : Nat) : Stmt := PySem.Challenge.pw_portolan_k02_arithmetic_of_enclosures.main.body.getD i (.Pass ⟨0, 0, 0, 0⟩)
abbrev s_added : Stmt := topS 5
theorem sc_added : FnScope ["a", "b"] ["a", "b"] (defScope s_added) := ⟨rfl, rfl, rfl, by decide +kernel, rfl, by decide +kernel, by decide +kernel⟩
abbrev s_subtracted : Stmt := topS 6
theorem sc_subtracted : FnScope ["a", "b"] ["a", "b"] (defScope s_subtracted) := ⟨rfl, rfl, rfl, by decide +kernel, rfl, by decide +kernel, by decide +kernel⟩
abbrev s_negated : Stmt := topS 7
theorem sc_negated : FnScope ["a"] ["a"] (defScope s_negated) := ⟨rfl, rfl, rfl, by decide +kernel, rfl, by decide +kernel, by decide +kernel⟩
abbrev s_multiplied : Stmt := topS 8
theorem sc_multiplied : FnScope ["a", "b", "bits", "products"] ["a", "b", "bits"] (defScope s_multiplied) := ⟨rfl, rfl, rfl, by decide +kernel, rfl, by decide +kernel, by decide +kernel⟩
abbrev s_squared : Stmt := topS 9
theorem sc_squared : FnScope ["a", "bits", "squares", "least"] ["a", "bits"] (defScope s_squared) := ⟨rfl, rfl, rfl, by decide +kernel, rfl, by decide +kernel, by decide +kernel⟩
abbrev s_divided : Stmt := topS 10
theorem sc_divided : FnScope ["a", "b", "bits", "low", "high", "least", "greatest"] ["a", "b", "bits"] (defScope s_divided) := ⟨rfl, rfl, rfl, by decide +kernel, rfl, by decide +kernel, by decide +kernel⟩
abbrev s_rooted : Stmt := topS 11
theorem sc_rooted : FnScope ["a", "bits"] ["a", "bits"] (defScope s_rooted) := ⟨rfl, rfl, rfl, by decide +kernel, rfl, by decide +kernel, by decide +kernel⟩
abbrev s_fewer_bits : Stmt := topS 12
theorem sc_fewer_bits : FnScope ["low", "high", "bits"] ["low", "high", "bits"] (defScope s_fewer_bits) := ⟨rfl, rfl, rfl, by decide +kernel, rfl, by decide +kernel, by decide +kernel⟩
abbrev s_root_above : Stmt := topS 13
theorem sc_root_above : FnScope ["n", "root"] ["n"] (defScope s_root_above) := ⟨rfl, rfl, rfl, by decide +kernel, rfl, by decide +kernel, by decide +kernel⟩
abbrev s_law_cell : Stmt := topS 15
theorem sc_law_cell : FnScope ["script", "k"] ["script", "k"] (defScope s_law_cell) := ⟨rfl, rfl, rfl, by decide +kernel, rfl, by decide +kernel, by decide +kernel⟩
abbrev s_law_floor : Stmt := topS 16
theorem sc_law_floor : FnScope ["p", "q"] ["p", "q"] (defScope s_law_floor) := ⟨rfl, rfl, rfl, by decide +kernel, rfl, by decide +kernel, by decide +kernel⟩
abbrev s_law_ceil : Stmt := topS 17
theorem sc_law_ceil : FnScope ["p", "q"] ["p", "q"] (defScope s_law_ceil) := ⟨rfl, rfl, rfl, by decide +kernel, rfl, by decide +kernel, by decide +kernel⟩
abbrev s_law_told : Stmt := topS 18
theorem sc_law_told : FnScope ["way", "a", "b", "bits", "e"] ["way", "a", "b", "bits"] (defScope s_law_told) := ⟨rfl, rfl, rfl, by decide +kernel, rfl, by decide +kernel, by decide +kernel⟩
abbrev s_law : Stmt := topS 19
theorem sc_law : FnScope ["script", "one", "two", "bits", "scale", "a", "b", "first", "second", "unit", "ends", "product", "squares", "least", "told", "lows", "x", "highs", "good"] ["script"] (defScope s_law) := ⟨rfl, rfl, rfl, by decide +kernel, rfl, by decide +kernel, by decide +kernel⟩
section
variable {P : Program} {w : World} {K : PySem.W.Frag} {mg : Str → Option Value} {base : Heap}
/-! ### what the rules lack -/
theorem el_cat {ta tb : TE} {σ : L2.St} {H : Hp} {xs ys : List V} (ha : EvL ta σ H xs) (hb : EvL tb σ H ys) (hz : xs.length + ys.length ≤ 100000) : EvL (tOp rCat ta tb) σ H (xs ++ ys) := fun H1 e Q q =>
  ha H1 e _ fun p H2 np e2 hp => hb H2 (e.trans e2) _ fun r H3 nr e3 hr => ⟨p, r, xs, ys, rfl, rfl, e3 _ _ hp, hr, sz_of hz, fun c hc => q c _ (fresh_back (e2.trans e3) hc) ((e2.trans e3).trans (Ex.new hc)) upd_same⟩
theorem el_mapT {tl te : TE} {σ : L2.St} {H : Hp} {a : Addr} {xs : List V} {j : Nat} {vs : List Nat} (fv : Nat → V) (h : Ev tl σ H (.ref a)) (hx : SqT K H a xs) (hz : xs.length ≤ 40000) (hw : ∀ x, wipe ((wipe σ vs).set j (some x)) vs = wipe σ vs)
    (he : ∀ (i : Nat) (x : V) H1, Ex H H1 → xs[i]? = some x → Ev te ((wipe σ vs).set j (some x)) H1 (fv i)) :
    EvL (tLc (iTup K tl) (gName j) tYes te vs) σ H (given xs.length (fun _ => true) fv) := fun H0 e Q q => h H0 e _ fun H1 e1 => ⟨a, rfl, ⟨xs, ex_t (e.trans e1) hx⟩, fun Dl hD =>
  lc_tup (xs := xs) (Cw H1 (fun _ => true) fv Dl) ⟨hD, Ex.new hD, upd_same⟩ (fun i H' _ p => ex_t ((e.trans e1).trans p.2.1) hx) (fun i x H' hi p => ⟨hw x, cw_turn p (by have := (List.getElem?_eq_some_iff.mp hi).1; omega) (fun H3 _ Q3 q3 => q3 H3 (Ex.refl H3)) (fun hf => he i x H1 (e.trans e1) hi)⟩)
    (fun H' p => q Dl H' (fresh_back e1 p.1) (e1.trans p.2.1) p.2.2)⟩
theorem rc_minL {H : Hp} {p : Addr} {a b c d : Int} (h : SqL K H p [.int a, .int b, .int c, .int d]) : RC (rMin K) [.ref p] H (.int (min (min a b) (min c d))) := fun H1 e Q q => ⟨p, [a, b, c, d], rfl, ex_l e h, (show 0 < 4 by decide), fun m hm hle => by
  have h1 := hle a (by simp)
  have h2 := hle b (by simp)
  have h3 := hle c (by simp)
  have h4 := hle d (by simp)
  have e1 : m = min (min a b) (min c d) := by
    simp only [List.mem_cons, List.not_mem_nil, or_false] at hm
    omega
  rw [e1]
  exact q H1 (Ex.refl _)⟩
theorem rc_maxL {H : Hp} {p : Addr} {a b c d : Int} (h : SqL K H p [.int a, .int b, .int c, .int d]) : RC (rMax K) [.ref p] H (.int (max (max a b) (max c d))) := fun H1 e Q q => ⟨p, [a, b, c, d], rfl, ex_l e h, (show 0 < 4 by decide), fun m hm hle => by
  have h1 := hle a (by simp)
  have h2 := hle b (by simp)
  have h3 := hle c (by simp)
  have h4 := hle d (by simp)
  have e1 : m = max (max a b) (max c d) := by
    simp only [List.mem_cons, List.not_mem_nil, or_false] at hm
    omega
  rw [e1]
  exact q H1 (Ex.refl _)⟩
theorem rc_minL2 {H : Hp} {p : Addr} {a b : Int} (h : SqL K H p [.int a, .int b]) : RC (rMin K) [.ref p] H (.int (min a b)) := fun H1 e Q q => ⟨p, [a, b], rfl, ex_l e h, (show 0 < 2 by decide), fun m hm hle => by
  have h1 := hle a (by simp)
  have h2 := hle b (by simp)
  have e1 : m = min a b := by
    simp only [List.mem_cons, List.not_mem_nil, or_false] at hm
    omega
  rw [e1]
  exact q H1 (Ex.refl _)⟩
theorem rc_maxL2 {H : Hp} {p : Addr} {a b : Int} (h : SqL K H p [.int a, .int b]) : RC (rMax K) [.ref p] H (.int (max a b)) := fun H1 e Q q => ⟨p, [a, b], rfl, ex_l e h, (show 0 < 2 by decide), fun m hm hle => by
  have h1 := hle a (by simp)
  have h2 := hle b (by simp)
  have e1 : m = max a b := by
    simp only [List.mem_cons, List.not_mem_nil, or_false] at hm
    omega
  rw [e1]
  exact q H1 (Ex.refl _)⟩
/-- a statement whose reading says one thing more -/
theorem pss_if {X : Cx} {φ : Prop} {ss : List Stmt} {t : TS} (h : φ → PSs X ss t) : PSs X ss (fun D σ H => φ ∧ t D σ H) := ⟨fun pins s σ H D I q => (h q.1).run pins s σ H D I q.2⟩
/-! ### the program -/
def spFewer : Sp := fun vs H Q _ => ∃ (x y : Int) (k : Nat), vs = [.int x, .int y, .int (k : Int)] ∧ RetU [.int (x / 2 ^ k), .int (-(-y / 2 ^ k))] H Q
theorem ok_fewer {f : Addr} {fd : FuncData} (F : Fun K "fewer_bits" "fewer_bits" s_fewer_bits f fd) : FnOk P w K mg base CX0 1 f fd ["low", "high", "bits"] spFewer := by
  refine F.ok sc_fewer_bits (fun vs H Q E h => ?_) (fun cdv A outer s H vs Q E hr h => ?_)
  · obtain ⟨x, y, k, rfl, _⟩ := h
    rfl
  · obtain ⟨x, y, k, rfl, q⟩ := h
    refine ⟨_, (pss_one (ps_ret (pe_tup (pa_cons (pe_op op_shrN (pv 0) (pv 2)) (pa_cons (pe_un un_neg (pe_op op_shrN (pe_un un_neg (pv 1)) (pv 2))) pa_nil))))), ?_⟩
    refine s_retU (eu_tup (ea_cons (ev_op (ev_var rfl) (ev_var rfl) rv_shr) (ea_cons (ev_un (ev_op (ev_un (ev_var rfl) ru_neg) (ev_var rfl) rv_shr) ru_neg) ea_nil)) (show 2 ≤ 100000 by decide)) q
def spAdded (K : PySem.W.Frag) : Sp := fun vs H Q _ => ∃ (p r : Addr) (a b c d : Int), vs = [.ref p, .ref r] ∧ SqT K H p [.int a, .int b] ∧ SqT K H r [.int c, .int d] ∧ RetU [.int (a + c), .int (b + d)] H Q
theorem ok_added {f : Addr} {fd : FuncData} (F : Fun K "added" "added" s_added f fd) : FnOk P w K mg base CX0 1 f fd ["a", "b"] (spAdded K) := by
  refine F.ok sc_added (fun vs H Q E h => ?_) (fun cdv A outer s H vs Q E hr h => ?_)
  · obtain ⟨p, r, a, b, c, d, rfl, _⟩ := h
    rfl
  · obtain ⟨p, r, a, b, c, d, rfl, t_a, t_b, q⟩ := h
    refine ⟨_, (pss_one (ps_ret (pe_tup (pa_cons (pe_op op_add (pe_ix ix_tup (pv 0) pe_int (fun _ _ => rfl)) (pe_ix ix_tup (pv 1) pe_int (fun _ _ => rfl))) (pa_cons (pe_op op_add (pe_ix ix_tup (pv 0) pe_int (fun _ _ => rfl)) (pe_ix ix_tup (pv 1) pe_int (fun _ _ => rfl))) pa_nil))))), ?_⟩
    exact s_retU (eu_tup (ea_cons (ev_op (ev_op (ev_var rfl) ev_c (rv_ixT t_a rfl)) (ev_op (ev_var rfl) ev_c (rv_ixT t_b rfl)) rv_I0) (ea_cons (ev_op (ev_op (ev_var rfl) ev_c (rv_ixT t_a rfl)) (ev_op (ev_var rfl) ev_c (rv_ixT t_b rfl)) rv_I0) ea_nil)) (show 2 ≤ 100000 by decide)) q
def spSubtracted (K : PySem.W.Frag) : Sp := fun vs H Q _ => ∃ (p r : Addr) (a b c d : Int), vs = [.ref p, .ref r] ∧ SqT K H p [.int a, .int b] ∧ SqT K H r [.int c, .int d] ∧ RetU [.int (a - d), .int (b - c)] H Q
theorem ok_subtracted {f : Addr} {fd : FuncData} (F : Fun K "subtracted" "subtracted" s_subtracted f fd) : FnOk P w K mg base CX0 1 f fd ["a", "b"] (spSubtracted K) := by
  refine F.ok sc_subtracted (fun vs H Q E h => ?_) (fun cdv A outer s H vs Q E hr h => ?_)
  · obtain ⟨p, r, a, b, c, d, rfl, _⟩ := h
    rfl
  · obtain ⟨p, r, a, b, c, d, rfl, t_a, t_b, q⟩ := h
    refine ⟨_, (pss_one (ps_ret (pe_tup (pa_cons (pe_op op_sub (pe_ix ix_tup (pv 0) pe_int (fun _ _ => rfl)) (pe_ix ix_tup (pv 1) pe_int (fun _ _ => rfl))) (pa_cons (pe_op op_sub (pe_ix ix_tup (pv 0) pe_int (fun _ _ => rfl)) (pe_ix ix_tup (pv 1) pe_int (fun _ _ => rfl))) pa_nil))))), ?_⟩
    exact s_retU (eu_tup (ea_cons (ev_op (ev_op (ev_var rfl) ev_c (rv_ixT t_a rfl)) (ev_op (ev_var rfl) ev_c (rv_ixT t_b rfl)) rv_I0) (ea_cons (ev_op (ev_op (ev_var rfl) ev_c (rv_ixT t_a rfl)) (ev_op (ev_var rfl) ev_c (rv_ixT t_b rfl)) rv_I0) ea_nil)) (show 2 ≤ 100000 by decide)) q
def spNegated (K : PySem.W.Frag) : Sp := fun vs H Q _ => ∃ (p : Addr) (a b : Int), vs = [.ref p] ∧ SqT K H p [.int a, .int b] ∧ RetU [.int (-b), .int (-a)] H Q
theorem ok_negated {f : Addr} {fd : FuncData} (F : Fun K "negated" "negated" s_negated f fd) : FnOk P w K mg base CX0 1 f fd ["a"] (spNegated K) := by
  refine F.ok sc_negated (fun vs H Q E h => ?_) (fun cdv A outer s H vs Q E hr h => ?_)
  · obtain ⟨p, a, b, rfl, _⟩ := h
    rfl
  · obtain ⟨p, a, b, rfl, t_a, q⟩ := h
    refine ⟨_, (pss_one (ps_ret (pe_tup (pa_cons (pe_un un_neg (pe_ix ix_tup (pv 0) pe_int (fun _ _ => rfl))) (pa_cons (pe_un un_neg (pe_ix ix_tup (pv 0) pe_int (fun _ _ => rfl))) pa_nil))))), ?_⟩
    exact s_retU (eu_tup (ea_cons (ev_un (ev_op (ev_var rfl) ev_c (rv_ixT t_a rfl)) ru_neg) (ea_cons (ev_un (ev_op (ev_var rfl) ev_c (rv_ixT t_a rfl)) ru_neg) ea_nil)) (show 2 ≤ 100000 by decide)) q
def spMultiplied (K : PySem.W.Frag) : Sp := fun vs H Q _ => ∃ (p r : Addr) (a b c d : Int) (k : Nat), vs = [.ref p, .ref r, .int (k : Int)] ∧ SqT K H p [.int a, .int b] ∧ SqT K H r [.int c, .int d] ∧ Bd 400 a ∧ Bd 400 b ∧ Bd 400 c ∧ Bd 400 d ∧
  RetU [.int (min (min (a * c) (a * d)) (min (b * c) (b * d)) / 2 ^ k), .int (-(-(max (max (a * c) (a * d)) (max (b * c) (b * d))) / 2 ^ k))] H Q
theorem mu {i j : Int} (h : Bd 400 i) (h2 : Bd 400 j) : CMulX i j := mulx_ok h h2 (by decide)
theorem ok_multiplied {f f0 : Addr} {fd fd0 : FuncData} (F : Fun K "multiplied" "multiplied" s_multiplied f fd) (F_fewer_bits : Fun K "fewer_bits" "fewer_bits" s_fewer_bits f0 fd0) (b_fewer_bits : Binds K fd0 ["low", "high", "bits"] []) (g_fewer_bits : mg "fewer_bits" = some (.ref f0)) (m_min : mg "min" = none) (m_max : mg "max" = none) :
    FnOk P w K mg base CX0 2 f fd ["a", "b", "bits"] (spMultiplied K) := by
  have G_fewer_bits : FnOk P w K mg base CX0 1 f0 fd0 _ spFewer := ok_fewer F_fewer_bits
  refine F.ok sc_multiplied (fun vs H Q E h => ?_) (fun cdv A outer s H vs Q E hr h => ?_)
  · obtain ⟨p, r, a, b, c, d, k, rfl, _⟩ := h
    rfl
  · obtain ⟨p, r, a, b, c, d, k, rfl, t_a, t_b, ha, hb, hc, hd, q⟩ := h
    refine ⟨_, (pss_cons (ps_set (i := 3) sc_multiplied.nd rfl (.inl rfl) (pe_lst (pa_cons (pe_op op_mulX (pe_ix ix_tup (pv 0) pe_int (fun _ _ => rfl)) (pe_ix ix_tup (pv 1) pe_int (fun _ _ => rfl))) (pa_cons (pe_op op_mulX (pe_ix ix_tup (pv 0) pe_int (fun _ _ => rfl)) (pe_ix ix_tup (pv 1) pe_int (fun _ _ => rfl))) (pa_cons (pe_op op_mulX (pe_ix ix_tup (pv 0) pe_int (fun _ _ => rfl)) (pe_ix ix_tup (pv 1) pe_int (fun _ _ => rfl))) (pa_cons (pe_op op_mulX (pe_ix ix_tup (pv 0) pe_int (fun _ _ => rfl)) (pe_ix ix_tup (pv 1) pe_int (fun _ _ => rfl))) pa_nil))))))
        (pss_one (ps_ret (pe_call G_fewer_bits (hr.mono (by decide)) (by rfl) g_fewer_bits F_fewer_bits.kp b_fewer_bits .nil pass0 (pa_cons (pe_callB (cr_min rfl) (by rfl) m_min (by decide +kernel) (pa_cons (pv 3) pa_nil)) (pa_cons (pe_callB (cr_max rfl) (by rfl) m_max (by decide +kernel) (pa_cons (pv 3) pa_nil)) (pa_cons (pv 2) pa_nil))))))), ?_⟩
    refine q_asgL (el_lst (ea_cons (ev_op (ev_op (ev_var rfl) ev_c (rv_ixT t_a rfl)) (ev_op (ev_var rfl) ev_c (rv_ixT t_b rfl)) (rv_I (mu ha hc))) (ea_cons (ev_op (ev_op (ev_var rfl) ev_c (rv_ixT t_a rfl)) (ev_op (ev_var rfl) ev_c (rv_ixT t_b rfl)) (rv_I (mu ha hd))) (ea_cons (ev_op (ev_op (ev_var rfl) ev_c (rv_ixT t_a rfl)) (ev_op (ev_var rfl) ev_c (rv_ixT t_b rfl)) (rv_I (mu hb hc))) (ea_cons (ev_op (ev_op (ev_var rfl) ev_c (rv_ixT t_a rfl)) (ev_op (ev_var rfl) ev_c (rv_ixT t_b rfl)) (rv_I (mu hb hd))) ea_nil)))) (show 4 ≤ 100000 by decide)) fun l H1 nl e1 hl => ?_
    refine st_is (σ' := [_, _, _, _]) rfl ?_
    exact s_retU (eu_call (ea_cons (ev_cb (ea_cons (ev_var rfl) ea_nil) (rc_minL (sq_of hl))) (ea_cons (ev_cb (ea_cons (ev_var rfl) ea_nil) (rc_maxL (sq_of hl))) (ea_cons (ev_var rfl) ea_nil))) (fun H2 e2 Q2 k2 E2 => ⟨_, _, k, rfl, k2⟩)) fun p H4 n e4 h => RetU.go q e1 n e4 h
def spSquared (K : PySem.W.Frag) : Sp := fun vs H Q _ => ∃ (p : Addr) (a b : Int) (k : Nat), vs = [.ref p, .int (k : Int)] ∧ SqT K H p [.int a, .int b] ∧ Bd 400 a ∧ Bd 400 b ∧
  RetU [.int ((if a ≤ 0 ∧ 0 ≤ b then 0 else min (a * a) (b * b)) / 2 ^ k), .int (-(-(max (a * a) (b * b)) / 2 ^ k))] H Q
theorem ok_squared {f f0 : Addr} {fd fd0 : FuncData} (F : Fun K "squared" "squared" s_squared f fd) (F_fewer_bits : Fun K "fewer_bits" "fewer_bits" s_fewer_bits f0 fd0) (b_fewer_bits : Binds K fd0 ["low", "high", "bits"] []) (g_fewer_bits : mg "fewer_bits" = some (.ref f0)) (m_min : mg "min" = none) (m_max : mg "max" = none) :
    FnOk P w K mg base CX0 2 f fd ["a", "bits"] (spSquared K) := by
  have G_fewer_bits : FnOk P w K mg base CX0 1 f0 fd0 _ spFewer := ok_fewer F_fewer_bits
  refine F.ok sc_squared (fun vs H Q E h => ?_) (fun cdv A outer s H vs Q E hr h => ?_)
  · obtain ⟨p, a, b, k, rfl, _⟩ := h
    rfl
  · obtain ⟨p, a, b, k, rfl, t_a, ha, hb, q⟩ := h
    refine ⟨_, (pss_cons (ps_set (i := 2) sc_squared.nd rfl (.inl rfl) (pe_lst (pa_cons (pe_op op_mulX (pe_ix ix_tup (pv 0) pe_int (fun _ _ => rfl)) (pe_ix ix_tup (pv 0) pe_int (fun _ _ => rfl))) (pa_cons (pe_op op_mulX (pe_ix ix_tup (pv 0) pe_int (fun _ _ => rfl)) (pe_ix ix_tup (pv 0) pe_int (fun _ _ => rfl))) pa_nil))))
        (pss_cons (ps_set (i := 3) sc_squared.nd rfl (.inl rfl) (pe_ifExp (pt_chain op_le op_le (pe_ix ix_tup (pv 0) pe_int (fun _ _ => rfl)) pe_int (pe_ix ix_tup (pv 0) pe_int (fun _ _ => rfl))) pe_int (pe_callB (cr_min rfl) (by rfl) m_min (by decide +kernel) (pa_cons (pv 2) pa_nil))))
        (pss_one (ps_ret (pe_call G_fewer_bits (hr.mono (by decide)) (by rfl) g_fewer_bits F_fewer_bits.kp b_fewer_bits .nil pass0 (pa_cons (pv 3) (pa_cons (pe_callB (cr_max rfl) (by rfl) m_max (by decide +kernel) (pa_cons (pv 2) pa_nil)) (pa_cons (pv 1) pa_nil)))))))), ?_⟩
    refine q_asgL (el_lst (ea_cons (ev_op (ev_op (ev_var rfl) ev_c (rv_ixT t_a rfl)) (ev_op (ev_var rfl) ev_c (rv_ixT t_a rfl)) (rv_I (mu ha ha))) (ea_cons (ev_op (ev_op (ev_var rfl) ev_c (rv_ixT t_a rfl)) (ev_op (ev_var rfl) ev_c (rv_ixT t_a rfl)) (rv_I (mu hb hb))) ea_nil)) (show 2 ≤ 100000 by decide)) fun l H1 nl e1 hl => ?_
    refine st_is (σ' := [_, _, _, _]) rfl ?_
    have t1 := ex_t e1 t_a
    have hc : Ev (tIf (tTest (tChain (rI0 fun i j => .bl (decide (i ≤ j))) (rI0 fun i j => .bl (decide (i ≤ j))) (tOp (rIxT K) (tVar 0) (tC (.int 0))) (tC (.int 0)) (tOp (rIxT K) (tVar 0) (tC (.int 1))))) (tC (.int 0)) (tCB (rMin K) (tCons (tVar 2) tNil))) [some (.ref p), some (.int (k : Int)), some (.ref l), none] H1 (.int (if a ≤ 0 ∧ 0 ≤ b then 0 else min (a * a) (b * b))) := by
      by_cases h : a ≤ 0 ∧ 0 ≤ b
      · rw [if_pos h]
        exact ev_if (b := true) (et_is (et_test (ev_chain (ev_op (ev_var rfl) ev_c (rv_ixT t1 rfl)) ev_c (ev_op (ev_var rfl) ev_c (rv_ixT t1 rfl)) rv_I0 rv_I0)) (by rw [decide_eq_true h.1, decide_eq_true h.2]; rfl)) (fun _ => ev_c) (fun hb => nomatch hb)
      · rw [if_neg h]
        refine ev_if (b := false) (et_is (et_test (ev_chain (ev_op (ev_var rfl) ev_c (rv_ixT t1 rfl)) ev_c (ev_op (ev_var rfl) ev_c (rv_ixT t1 rfl)) rv_I0 rv_I0)) ?_) (fun hb => nomatch hb) (fun _ => ev_cb (ea_cons (ev_var rfl) ea_nil) (rc_minL2 (sq_of hl)))
        rw [← Bool.decide_and]
        exact decide_eq_false h
    refine q_asg hc fun H2 e2 => ?_
    refine st_is (σ' := [_, _, _, _]) rfl ?_
    exact s_retU (eu_call (ea_cons (ev_var rfl) (ea_cons (ev_cb (ea_cons (ev_var rfl) ea_nil) (rc_maxL2 (sq_of (e2 _ _ hl)))) (ea_cons (ev_var rfl) ea_nil))) (fun H2 e2 Q2 k2 E2 => ⟨_, _, k, rfl, k2⟩)) fun p H4 n e4 h => RetU.go q (e1.trans e2) n e4 h
/-- what the top says of the errors -/
structure Errs (K : PySem.W.Frag) (mg : Str → Option Value) (CU CP : Addr) : Prop where
  gU : mg "Undefined" = some (.ref CU)
  gP : mg "PortolanError" = some (.ref CP)
  xU : PySem.W.excIn K CU [.type "ValueError", .type "Exception", .type "BaseException", .type "object"] "ValueError.__new__" = true
  kU : PySem.W.keepIn K (.ref CU) = true
  bU : PySem.W.subIn K (.ref CU) (.type "BaseException") = some true
  tU : PySem.W.typeIn K (.ref CU) = some (.type "type")
  bP : PySem.W.subIn K (.ref CP) (.type "BaseException") = some true
  tP : PySem.W.typeIn K (.ref CP) = some (.type "type")
  iP : PySem.W.isClsIn K CP = true
  sUP : PySem.W.subIn K (.ref CU) (.ref CP) = some true
  ec : ExcC K CU
theorem Errs.caught {CU CP : Addr} (T : Errs K mg CU CP) : PySem.W.exmOne K (.ref CU) (.ref CP) = some true := by
  have e1 : (PySem.W.subIn K (.ref CP) (.type "BaseException") == some true) = true := by rw [T.bP] <;> rfl
  have e2 : ((PySem.W.clsIn K CP).isSome && PySem.W.typeIn K (.ref CP) == some (.type "type")) = true := by
    have h2' : (PySem.W.clsIn K CP).isSome = true := T.iP
    rw [h2', T.tP] <;> rfl
  show (if (PySem.W.subIn K (.ref CP) (.type "BaseException") == some true) = true then (if ((PySem.W.clsIn K CP).isSome && PySem.W.typeIn K (.ref CP) == some (.type "type")) = true then PySem.W.subIn K (.ref CU) (.ref CP) else none) else none) = some true
  rw [if_pos e1, if_pos e2]
  exact T.sUP
def loQ (a b c d : Int) (k : Nat) : Int := min (min ((a * 2 ^ k).fdiv c) ((a * 2 ^ k).fdiv d)) (min ((b * 2 ^ k).fdiv c) ((b * 2 ^ k).fdiv d))
def hiQ (a b c d : Int) (k : Nat) : Int := max (max (-((-(a * 2 ^ k)).fdiv c)) (-((-(a * 2 ^ k)).fdiv d))) (max (-((-(b * 2 ^ k)).fdiv c)) (-((-(b * 2 ^ k)).fdiv d)))
def spDivided (K : PySem.W.Frag) (CU : Addr) : Sp := fun vs H Q E => ∃ (p r : Addr) (a b c d : Int) (k : Nat), vs = [.ref p, .ref r, .int (k : Int)] ∧ SqT K H p [.int a, .int b] ∧ SqT K H r [.int c, .int d] ∧ c ≤ d ∧ Bd 400 a ∧ Bd 400 b ∧ Bd 400 c ∧ Bd 400 d ∧ k ≤ 200 ∧
  (c ≤ 0 ∧ 0 ≤ d → ∀ H', Ex H H' → E (.ref CU) none H') ∧ (¬ (c ≤ 0 ∧ 0 ≤ d) → RetU [.int (loQ a b c d k), .int (hiQ a b c d k)] H Q)
theorem diA {i j : Int} (h : j ≠ 0) (hb : Bd 400 j) : CDivA i j := ⟨h, Nat.lt_of_lt_of_le (PySem.Flt.log2_lt_of (by decide) hb) (by decide)⟩
theorem ok_divided {f CU CP : Addr} {fd : FuncData} (F : Fun K "divided" "divided" s_divided f fd) (T : Errs K mg CU CP) (m_min : mg "min" = none) (m_max : mg "max" = none) : FnOk P w K mg base (L2.CX P w) 1 f fd ["a", "b", "bits"] (spDivided K CU) := by
  obtain ⟨g_Undefined, _, x_Undefined, k_Undefined, b_Undefined, t_Undefined, _, _, _, _, _⟩ := id T
  refine F.okX sc_divided (fun vs H Q E h => ?_) (fun cdv A outer s H vs Q E hr h => ?_)
  · obtain ⟨p, r, a, b, c, d, k, rfl, _⟩ := h
    rfl
  · obtain ⟨p, r, a, b, c, d, k, rfl, t_a, t_b, hcd, ha, hb, hc, hd, hk, hE, q⟩ := h
    refine ⟨_, (pss_cons (ps_if (pt_chain op_le op_le (pe_ix ix_tup (pv 1) pe_int (fun _ _ => rfl)) pe_int (pe_ix ix_tup (pv 1) pe_int (fun _ _ => rfl))) (pss_one (ps_raise rfl (takes_of rfl rfl rfl rfl) (pmk_own PySem.F.excBase_ValueError x_Undefined g_Undefined k_Undefined (raises_own b_Undefined t_Undefined) (by rfl)))) pss_nil)
        (pss_cons (ps_set (i := 3) sc_divided.nd rfl (.inl rfl) (pe_op op_shlN (pe_ix ix_tup (pv 0) pe_int (fun _ _ => rfl)) (pv 2)))
        (pss_cons (ps_set (i := 4) sc_divided.nd rfl (.inl rfl) (pe_op op_shlN (pe_ix ix_tup (pv 0) pe_int (fun _ _ => rfl)) (pv 2)))
        (pss_cons (ps_set (i := 5) sc_divided.nd rfl (.inl rfl) (pe_callB (call_min4 rfl) (by rfl) m_min (by decide +kernel) (pa_cons (pe_op op_fdivA (pv 3) (pe_ix ix_tup (pv 1) pe_int (fun _ _ => rfl))) (pa_cons (pe_op op_fdivA (pv 3) (pe_ix ix_tup (pv 1) pe_int (fun _ _ => rfl))) (pa_cons (pe_op op_fdivA (pv 4) (pe_ix ix_tup (pv 1) pe_int (fun _ _ => rfl))) (pa_cons (pe_op op_fdivA (pv 4) (pe_ix ix_tup (pv 1) pe_int (fun _ _ => rfl))) pa_nil))))))
        (pss_cons (ps_set (i := 6) sc_divided.nd rfl (.inl rfl) (pe_callB (call_max4 rfl) (by rfl) m_max (by decide +kernel) (pa_cons (pe_un un_neg (pe_op op_fdivA (pe_un un_neg (pv 3)) (pe_ix ix_tup (pv 1) pe_int (fun _ _ => rfl)))) (pa_cons (pe_un un_neg (pe_op op_fdivA (pe_un un_neg (pv 3)) (pe_ix ix_tup (pv 1) pe_int (fun _ _ => rfl)))) (pa_cons (pe_un un_neg (pe_op op_fdivA (pe_un un_neg (pv 4)) (pe_ix ix_tup (pv 1) pe_int (fun _ _ => rfl)))) (pa_cons (pe_un un_neg (pe_op op_fdivA (pe_un un_neg (pv 4)) (pe_ix ix_tup (pv 1) pe_int (fun _ _ => rfl)))) pa_nil))))))
        (pss_one (ps_ret (pe_tup (pa_cons (pv 5) (pa_cons (pv 6) pa_nil)))))))))), ?_⟩
    by_cases h0 : c ≤ 0 ∧ 0 ≤ d
    · exact q_when (b := true) (et_is (et_test (ev_chain (ev_op (ev_var rfl) ev_c (rv_ixT t_b rfl)) ev_c (ev_op (ev_var rfl) ev_c (rv_ixT t_b rfl)) rv_I0 rv_I0)) (by rw [decide_eq_true h0.1, decide_eq_true h0.2]; rfl)) (fun _ H1 e1 => hE h0 H1 e1) (fun hb => nomatch hb)
    · refine q_when (b := false) (et_is (et_test (ev_chain (ev_op (ev_var rfl) ev_c (rv_ixT t_b rfl)) ev_c (ev_op (ev_var rfl) ev_c (rv_ixT t_b rfl)) rv_I0 rv_I0)) (by
        rw [← Bool.decide_and]
        exact decide_eq_false h0)) (fun hb => nomatch hb) (fun _ H1 e1 => ?_)
      replace q := q h0
      replace t_a := ex_t e1 t_a
      replace t_b := ex_t e1 t_b
      have c0 : c ≠ 0 := fun z => h0 (by omega)
      have d0 : d ≠ 0 := fun z => h0 (by omega)
      refine q_asg (ev_op (ev_op (ev_var rfl) ev_c (rv_ixT t_a rfl)) (ev_var rfl) (rv_shl (shl_ok (n := 400) ha (by omega)))) fun H2 e2 => ?_
      refine st_is (σ' := [_, _, _, _, _, _, _]) rfl ?_
      refine q_asg (ev_op (ev_op (ev_var rfl) ev_c (rv_ixT (ex_t e2 t_a) rfl)) (ev_var rfl) (rv_shl (shl_ok (n := 400) hb (by omega)))) fun H3 e3 => ?_
      refine st_is (σ' := [_, _, _, _, _, _, _]) rfl ?_
      have t3 := ex_t (e2.trans e3) t_b
      refine q_asg (v := .int (loQ a b c d k)) (ev_cb (ea_cons (ev_op (ev_var rfl) (ev_op (ev_var rfl) ev_c (rv_ixT t3 rfl)) (rv_I (diA c0 hc))) (ea_cons (ev_op (ev_var rfl) (ev_op (ev_var rfl) ev_c (rv_ixT t3 rfl)) (rv_I (diA d0 hd))) (ea_cons (ev_op (ev_var rfl) (ev_op (ev_var rfl) ev_c (rv_ixT t3 rfl)) (rv_I (diA c0 hc))) (ea_cons (ev_op (ev_var rfl) (ev_op (ev_var rfl) ev_c (rv_ixT t3 rfl)) (rv_I (diA d0 hd))) ea_nil)))) rc_min4) fun H4 e4 => ?_
      refine st_is (σ' := [_, _, _, _, _, _, _]) rfl ?_
      have t4 := ex_t e4 t3
      refine q_asg (v := .int (hiQ a b c d k)) (ev_cb (ea_cons (ev_un (ev_op (ev_un (ev_var rfl) ru_neg) (ev_op (ev_var rfl) ev_c (rv_ixT t4 rfl)) (rv_I (diA c0 hc))) ru_neg) (ea_cons (ev_un (ev_op (ev_un (ev_var rfl) ru_neg) (ev_op (ev_var rfl) ev_c (rv_ixT t4 rfl)) (rv_I (diA d0 hd))) ru_neg) (ea_cons (ev_un (ev_op (ev_un (ev_var rfl) ru_neg) (ev_op (ev_var rfl) ev_c (rv_ixT t4 rfl)) (rv_I (diA c0 hc))) ru_neg) (ea_cons (ev_un (ev_op (ev_un (ev_var rfl) ru_neg) (ev_op (ev_var rfl) ev_c (rv_ixT t4 rfl)) (rv_I (diA d0 hd))) ru_neg) ea_nil)))) rc_max4) fun H5 e5 => ?_
      refine st_is (σ' := [_, _, _, _, _, _, _]) rfl ?_
      exact s_retU (eu_tup (ea_cons (ev_var rfl) (ea_cons (ev_var rfl) ea_nil)) (show 2 ≤ 100000 by decide)) fun p H6 n e6 h => RetU.go q ((((e1.trans e2).trans e3).trans e4).trans e5) n e6 h
def spAbove : Sp := fun vs H Q _ => ∃ n : Int, vs = [.int n] ∧ 0 ≤ n ∧ Bd 1000 n ∧ ∀ R : Nat, n ≤ (R : Int) * R → (R = 0 ∨ ((R : Int) - 1) * ((R : Int) - 1) < n) → RetV (.int (R : Int)) H Q
theorem sq_le {a b : Nat} (h : (a : Int) * a ≤ (b : Int)) : a ≤ b := by
  have h1 : a * a ≤ b := by exact_mod_cast h
  exact Nat.le_trans (Nat.le_mul_self a) h1
theorem ok_above {f : Addr} {fd : FuncData} (F : Fun K "root_above" "root_above" s_root_above f fd) (g_isqrt : mg "isqrt" = some (.builtin "math.isqrt")) : FnOk P w K mg base CX0 1 f fd ["n"] spAbove := by
  refine F.ok sc_root_above (fun vs H Q E h => ?_) (fun cdv A outer s H vs Q E hr h => ?_)
  · obtain ⟨n, rfl, _⟩ := h
    rfl
  · obtain ⟨n, rfl, h0, hb, q⟩ := h
    refine ⟨_, (pss_cons (ps_set (i := 1) sc_root_above.nd rfl (.inl rfl) (pe_callBfun call_sqrt (by rfl) g_isqrt (pa_cons (pv 0) pa_nil)))
        (pss_cons (ps_if (pt_cmpR op_lt (pe_op op_mulX (pv 1) (pv 1)) (pv 0) (nomark _)) (pss_one (ps_ret (pe_op op_add (pv 1) pe_int))) pss_nil)
        (pss_one (ps_ret (pv 1))))), ?_⟩
    refine ⟨_, rfl, n, rfl, h0, ab_mono hb (by decide), fun r h1 h2 => ?_⟩
    refine st_is (σ' := [some (.int n), some (.int (r : Int))]) rfl ?_
    obtain ⟨m, rfl⟩ := Int.eq_ofNat_of_zero_le h0
    have hr1 : Bd 1000 (r : Int) := by
      have := sq_le h1
      unfold Bd at *
      exact Nat.lt_of_le_of_lt (by omega) hb
    have cm : CMulX (r : Int) (r : Int) := mulx_ok hr1 hr1 (by decide)
    by_cases hlt : (r : Int) * r < (m : Int)
    · refine q_when (b := true) (et_is (et_test (ev_op (ev_op (ev_var rfl) (ev_var rfl) (rv_I cm)) (ev_var rfl) rv_I0)) (decide_eq_true hlt)) (fun _ H1 e1 => ?_) (fun hb => nomatch hb)
      refine s_ret (ev_is (ev_op (ev_var rfl) ev_c rv_I0) (w := .int ((r + 1 : Nat) : Int)) (congrArg V.int (by omega))) fun H2 e2 => q (r + 1) ?_ (.inr ?_) H2 (e1.trans e2)
      · have : ((r + 1 : Nat) : Int) = (r : Int) + 1 := by omega
        rw [this]
        omega
      · have : ((r + 1 : Nat) : Int) - 1 = (r : Int) := by omega
        rw [this]
        exact hlt
    · refine q_when (b := false) (et_is (et_test (ev_op (ev_op (ev_var rfl) (ev_var rfl) (rv_I cm)) (ev_var rfl) rv_I0)) (decide_eq_false hlt)) (fun hb => nomatch hb) (fun _ H1 e1 => ?_)
      refine s_ret (ev_var rfl) fun H2 e2 => q r (by omega) ?_ H2 (e1.trans e2)
      by_cases hr0 : r = 0
      · exact .inl hr0
      · right
        have h3 : ((r : Int) - 1) * ((r : Int) - 1) < (r : Int) * r := by
          have e : ((r : Int) - 1) * ((r : Int) - 1) = (r : Int) * r - 2 * r + 1 := by
            rw [Int.sub_mul, Int.mul_sub, Int.mul_one, Int.one_mul]
            omega
          omega
        omega
def spRooted (K : PySem.W.Frag) (CU : Addr) : Sp := fun vs H Q E => ∃ (p : Addr) (a b : Int) (k : Nat), vs = [.ref p, .int (k : Int)] ∧ SqT K H p [.int a, .int b] ∧ a ≤ b ∧ Bd 400 a ∧ Bd 400 b ∧ k ≤ 200 ∧
  (a < 0 → ∀ H', Ex H H' → E (.ref CU) none H') ∧ (¬ a < 0 → ∀ r R : Nat, (r : Int) * r ≤ a * 2 ^ k → a * 2 ^ k < ((r : Int) + 1) * ((r : Int) + 1) → b * 2 ^ k ≤ (R : Int) * R → (R = 0 ∨ ((R : Int) - 1) * ((R : Int) - 1) < b * 2 ^ k) → RetU [.int (r : Int), .int (R : Int)] H Q)
theorem ok_rooted {f f0 CU CP : Addr} {fd fd0 : FuncData} (F : Fun K "rooted" "rooted" s_rooted f fd) (T : Errs K mg CU CP) (F_root_above : Fun K "root_above" "root_above" s_root_above f0 fd0) (b_root_above : Binds K fd0 ["n"] []) (g_root_above : mg "root_above" = some (.ref f0)) (g_isqrt : mg "isqrt" = some (.builtin "math.isqrt")) :
    FnOk P w K mg base (L2.CX P w) 2 f fd ["a", "bits"] (spRooted K CU) := by
  obtain ⟨g_Undefined, _, x_Undefined, k_Undefined, b_Undefined, t_Undefined, _, _, _, _, _⟩ := id T
  have G_root_above : FnOk P w K mg base CX0 1 f0 fd0 _ spAbove := ok_above F_root_above g_isqrt
  refine F.okX sc_rooted (fun vs H Q E h => ?_) (fun cdv A outer s H vs Q E hr h => ?_)
  · obtain ⟨p, a, b, k, rfl, _⟩ := h
    rfl
  · obtain ⟨p, a, b, k, rfl, t_a, hab, ha, hb, hk, hE, q⟩ := h
    refine ⟨_, (pss_cons (ps_if (pt_cmpR op_lt (pe_ix ix_tup (pv 0) pe_int (fun _ _ => rfl)) pe_int (nomark _)) (pss_one (ps_raise rfl (takes_of rfl rfl rfl rfl) (pmk_own PySem.F.excBase_ValueError x_Undefined g_Undefined k_Undefined (raises_own b_Undefined t_Undefined) (by rfl)))) pss_nil)
        (pss_one (ps_ret (pe_tup (pa_cons (pe_callBfun call_sqrt (by rfl) g_isqrt (pa_cons (pe_op op_shlN (pe_ix ix_tup (pv 0) pe_int (fun _ _ => rfl)) (pv 1)) pa_nil)) (pa_cons (pe_call G_root_above (hr.mono (by decide)) (by rfl) g_root_above F_root_above.kp b_root_above .nil pass0 (pa_cons (pe_op op_shlN (pe_ix ix_tup (pv 0) pe_int (fun _ _ => rfl)) (pv 1)) pa_nil)) pa_nil)))))), ?_⟩
    by_cases h0 : a < 0
    · exact q_when (b := true) (et_is (et_test (ev_op (ev_op (ev_var rfl) ev_c (rv_ixT t_a rfl)) ev_c rv_I0)) (decide_eq_true h0)) (fun _ H1 e1 => hE h0 H1 e1) (fun hb => nomatch hb)
    · refine q_when (b := false) (et_is (et_test (ev_op (ev_op (ev_var rfl) ev_c (rv_ixT t_a rfl)) ev_c rv_I0)) (decide_eq_false h0)) (fun hb => nomatch hb) (fun _ H1 e1 => ?_)
      replace q := q h0
      replace t_a := ex_t e1 t_a
      have kp := pow_pos k
      have ba : Bd 1000 (a * 2 ^ k) := ab_mono (ab_shl ha) (by omega)
      have bb : Bd 1000 (b * 2 ^ k) := ab_mono (ab_shl hb) (by omega)
      have ga : 0 ≤ a * 2 ^ k := Int.mul_nonneg (by omega) (by omega)
      have gb : 0 ≤ b * 2 ^ k := Int.mul_nonneg (by omega) (by omega)
      refine ⟨_, rfl, p, _, 0, .int a, rfl, rfl, t_a, rfl, _, rfl, a, k, rfl, rfl, shl_ok (n := 400) ha (by omega), _, rfl, ga, ab_mono ba (by decide), fun r h1 h2 => ?_⟩
      refine ⟨_, rfl, p, _, 1, .int b, rfl, rfl, t_a, rfl, _, rfl, b, k, rfl, rfl, shl_ok (n := 400) hb (by omega), _, rfl, gb, bb, fun R h3 h4 H4 e4 => ?_⟩
      exact ⟨by show 2 ≤ sizeLine; decide, fun x hx => q r R h1 h2 h3 h4 x _ (fresh_back (e1.trans e4) hx) ((e1.trans e4).trans (Ex.new hx)) upd_same⟩
/-! ### the law's own defs -/
theorem ok_cell {f : Addr} {fd : FuncData} (F : Fun K "_law_cell" "_law_cell" s_law_cell f fd) (m_len : mg "len" = none) : FnOk P w K mg base CX0 1 f fd ["script", "k"] (spCell K) := by
  refine F.ok sc_law_cell (fun vs H Q E h => ?_) (fun cdv A outer s H vs Q E hr h => ?_)
  · obtain ⟨l, ns, j, rfl, _⟩ := h
    rfl
  · obtain ⟨l, ns, j, rfl, hs, q⟩ := h
    refine ⟨_, (pss_cons (ps_if (pt_cmpR op_lt (pv 1) (pe_callB call_len (by rfl) m_len (by decide +kernel) (pa_cons (pv 0) pa_nil)) (nomark _)) (pss_one (ps_ret (pe_ix ix_list (pv 0) (pv 1) (fun _ _ => rfl)))) pss_nil)
        (pss_one (ps_ret pe_int))), ?_⟩
    refine ⟨_, rfl, _, rfl, .ref l, ((ns.map V.int).length : Nat), rfl, .inl ⟨_, hs, rfl⟩, _, _, rfl, rfl, _, rfl, ite2 (fun e => ?_) (fun e => ?_)⟩
    · have hj : j < ns.length := by
        have := of_decide_eq_true e
        rw [List.length_map] at this
        omega
      exact ⟨_, rfl, _, rfl, l, _, _, _, rfl, rfl, hs, atI_cell hj, q⟩
    · have hj : ¬ j < ns.length := fun z => e (decide_eq_true (by rw [List.length_map]; omega))
      rw [cell_out hj] at q
      exact q
def spFloor : Sp := fun vs H Q _ => ∃ p q : Int, vs = [.int p, .int q] ∧ q ≠ 0 ∧ Bd 400 q ∧ RetV (.int (p.fdiv q)) H Q
theorem ok_floor {f : Addr} {fd : FuncData} (F : Fun K "_law_floor" "_law_floor" s_law_floor f fd) : FnOk P w K mg base CX0 1 f fd ["p", "q"] spFloor := by
  refine F.ok sc_law_floor (fun vs H Q E h => ?_) (fun cdv A outer s H vs Q E hr h => ?_)
  · obtain ⟨p, q, rfl, _⟩ := h
    rfl
  · obtain ⟨p, d, rfl, h0, hb, q⟩ := h
    refine ⟨_, (pss_cons (ps_if (pt_cmpR op_lt (pv 1) pe_int (nomark _)) (pss_one (ps_ret (pe_op op_fdivA (pe_un un_neg (pv 0)) (pe_un un_neg (pv 1))))) pss_nil)
        (pss_one (ps_ret (pe_op op_fdivA (pv 0) (pv 1))))), ?_⟩
    by_cases hd : d < 0
    · refine q_when (b := true) (et_is (et_test (ev_op (ev_var rfl) ev_c rv_I0)) (decide_eq_true hd)) (fun _ H1 e1 => ?_) (fun hb => nomatch hb)
      exact s_ret (ev_is (ev_op (ev_un (ev_var rfl) ru_neg) (ev_un (ev_var rfl) ru_neg) (rv_I (diA (by omega) (ab_neg hb)))) (congrArg V.int (Int.neg_fdiv_neg p d))) fun H2 e2 => q H2 (e1.trans e2)
    · refine q_when (b := false) (et_is (et_test (ev_op (ev_var rfl) ev_c rv_I0)) (decide_eq_false hd)) (fun hb => nomatch hb) (fun _ H1 e1 => ?_)
      exact s_ret (ev_op (ev_var rfl) (ev_var rfl) (rv_I (diA h0 hb))) fun H2 e2 => q H2 (e1.trans e2)
def spCeil : Sp := fun vs H Q _ => ∃ p q : Int, vs = [.int p, .int q] ∧ q ≠ 0 ∧ Bd 400 q ∧ RetV (.int (-((-p).fdiv q))) H Q
theorem ok_ceil {f f0 : Addr} {fd fd0 : FuncData} (F : Fun K "_law_ceil" "_law_ceil" s_law_ceil f fd) (F_law_floor : Fun K "_law_floor" "_law_floor" s_law_floor f0 fd0) (b_law_floor : Binds K fd0 ["p", "q"] []) (g_law_floor : mg "_law_floor" = some (.ref f0)) : FnOk P w K mg base CX0 2 f fd ["p", "q"] spCeil := by
  have G_law_floor : FnOk P w K mg base CX0 1 f0 fd0 _ spFloor := ok_floor F_law_floor
  refine F.ok sc_law_ceil (fun vs H Q E h => ?_) (fun cdv A outer s H vs Q E hr h => ?_)
  · obtain ⟨p, q, rfl, _⟩ := h
    rfl
  · obtain ⟨p, d, rfl, h0, hb, q⟩ := h
    refine ⟨_, (pss_one (ps_ret (pe_un un_neg (pe_call G_law_floor (hr.mono (by decide)) (by rfl) g_law_floor F_law_floor.kp b_law_floor .nil pass0 (pa_cons (pe_un un_neg (pv 0)) (pa_cons (pv 1) pa_nil)))))), ?_⟩
    exact s_ret (ev_un (ev_call (z := .int ((-p).fdiv d)) (ea_cons (ev_un (ev_var rfl) ru_neg) (ea_cons (ev_var rfl) ea_nil)) (fun H1 e1 Q1 q1 E1 => ⟨-p, d, rfl, h0, hb, q1⟩)) ru_neg) q
def spTold (K : PySem.W.Frag) : Sp := fun vs H Q _ => ∃ (p r : Addr) (a b c d : Int) (k way : Nat), vs = [.int (way : Int), .ref p, .ref r, .int (k : Int)] ∧ SqT K H p [.int a, .int b] ∧ SqT K H r [.int c, .int d] ∧ a ≤ b ∧ c ≤ d ∧ Bd 400 a ∧ Bd 400 b ∧ Bd 400 c ∧ Bd 400 d ∧ k ≤ 200 ∧
  (way = 0 → (c ≤ 0 ∧ 0 ≤ d → RetV (.bl true) H Q) ∧ (¬ (c ≤ 0 ∧ 0 ≤ d) → RetU [.int (loQ a b c d k), .int (hiQ a b c d k)] H Q)) ∧
  (way ≠ 0 → (a < 0 → RetV (.bl true) H Q) ∧ (¬ a < 0 → ∀ r R : Nat, (r : Int) * r ≤ a * 2 ^ k → a * 2 ^ k < ((r : Int) + 1) * ((r : Int) + 1) → b * 2 ^ k ≤ (R : Int) * R → (R = 0 ∨ ((R : Int) - 1) * ((R : Int) - 1) < b * 2 ^ k) → RetU [.int (r : Int), .int (R : Int)] H Q))
theorem kit_self {CU : Addr} : PySem.W.kitOne K (.ref CU) (.ref CU) = some true := by
  unfold PySem.W.kitOne
  rw [if_pos (beq_self_eq_true _)]
theorem ok_told {f f0 f1 f2 CU CP : Addr} {fd fd0 fd1 fd2 : FuncData} (F : Fun K "_law_told" "_law_told" s_law_told f fd) (T : Errs K mg CU CP) (F_divided : Fun K "divided" "divided" s_divided f0 fd0) (b_divided : Binds K fd0 ["a", "b", "bits"] []) (g_divided : mg "divided" = some (.ref f0))
    (F_rooted : Fun K "rooted" "rooted" s_rooted f1 fd1) (b_rooted : Binds K fd1 ["a", "bits"] []) (g_rooted : mg "rooted" = some (.ref f1)) (F_root_above : Fun K "root_above" "root_above" s_root_above f2 fd2) (b_root_above : Binds K fd2 ["n"] []) (g_root_above : mg "root_above" = some (.ref f2))
    (g_isqrt : mg "isqrt" = some (.builtin "math.isqrt")) (m_min : mg "min" = none) (m_max : mg "max" = none) (m_isinstance : mg "isinstance" = none) : FnOk P w K mg base CX0 3 f fd ["way", "a", "b", "bits"] (spTold K) := by
  have G_divided : FnOk P w K mg base (L2.CX P w) 1 f0 fd0 _ (spDivided K CU) := ok_divided F_divided T m_min m_max
  have G_rooted : FnOk P w K mg base (L2.CX P w) 2 f1 fd1 _ (spRooted K CU) := ok_rooted F_rooted T F_root_above b_root_above g_root_above g_isqrt
  refine F.ok sc_law_told (fun vs H Q E h => ?_) (fun cdv A outer s H vs Q E hr h => ?_)
  · obtain ⟨p, r, a, b, c, d, k, way, rfl, _⟩ := h
    rfl
  · obtain ⟨p, r, a, b, c, d, k, way, rfl, t_a, t_b, hab, hcd, ha, hb, hc, hd, hk, q0, q1⟩ := h
    refine ⟨_, pss_one (ps_try_as (i := 4) (tb := fun W => tSeq (tIfS (tTest (tOp rEq (tVar 0) (tC (.int 0)))) (tRet (tCallS (spDivided K CU) (WE W) (tCons (tVar 1) (tCons (tVar 2) (tCons (tVar 3) tNil))))) tNext) (tRet (tCallS (spRooted K CU) (WE W) (tCons (tVar 1) (tCons (tVar 3) tNil)))))
        (ts := fun a cls d => fun D σ H => (cls = .ref CU ∧ d = none) ∧ tRet (tCB (rIsE K CU a) (tCons (tVar 4) (tCons (tC (.ref CU)) tNil))) D σ H) (Wout := fun _ _ _ _ => False) rfl rfl sc_law_told.nd rfl rfl ⟨rfl, by decide, Or.inl T.gP⟩ takes0
        (fun W pn xe tk _ => pss_cons (ps_if (pt_cmpR op_eq (pv 0) pe_int (nomark _)) (pss_one (ps_ret (pe_callS G_divided (hr.mono (by decide)) (by rfl) g_divided F_divided.kp b_divided (fun σ => passAt tk σ) (pa_cons (pv 1) (pa_cons (pv 2) (pa_cons (pv 3) pa_nil)))))) pss_nil)
          (pss_one (ps_ret (pe_callS G_rooted (hr.mono (by decide)) (by rfl) g_rooted F_rooted.kp b_rooted (fun σ => passAt tk σ) (pa_cons (pv 1) (pa_cons (pv 3) pa_nil))))))
        (fun a oe cls d pn hz hf => pss_if fun hcls => by
          obtain ⟨rfl, rfl⟩ := hcls
          exact pss_one (ps_ret (pe_callB (call_isE T.ec hz hf) (by rfl) m_isinstance (by decide +kernel) (pa_cons (pv 4) (pa_cons (pe_glob (by rfl) T.gU (show RelV (.ref CU) _ from rfl)) pa_nil)))))), ?_⟩
    have suite : ∀ {H1 : Hp} {D : Ends}, (∀ H2, Ex H1 H2 → D.rt (.bl true) H2) → wAs K (.ref CP) 4 (fun a cls d => fun D σ H => (cls = .ref CU ∧ d = none) ∧ tRet (tCB (rIsE K CU a) (tCons (tVar 4) (tCons (tC (.ref CU)) tNil))) D σ H) (fun _ _ _ _ => False) D (.ref CU) none [some (.int (way : Int)), some (.ref p), some (.ref r), some (.int (k : Int)), none] H1 := fun {H1 D} hq =>
      ⟨true, T.caught, fun _ a0 _ => ⟨⟨rfl, rfl⟩, _, rfl, .ref CU, .ref CU, true, rfl, fun u hu => hu, kit_self, hq _ (Ex.refl _)⟩, fun q => nomatch q⟩
    by_cases hw : way = 0
    · obtain ⟨q2, q3⟩ := q0 hw
      refine q_when (b := true) (et_is (et_test (ev_op (ev_var rfl) ev_c (rv_eq rfl))) (decide_eq_true (congrArg V.int (by omega)))) (fun _ H1 e1 => ?_) (fun hb => nomatch hb)
      refine ⟨_, rfl, _, rfl, _, rfl, p, r, a, b, c, d, k, rfl, ex_t e1 t_a, ex_t e1 t_b, hcd, ha, hb, hc, hd, hk, fun h0 H2 e2 => suite fun H3 e3 => q2 h0 H3 ((e1.trans e2).trans e3), fun h0 p1 H2 n2 e2 h2 => q3 h0 p1 H2 (fresh_back e1 n2) (e1.trans e2) h2⟩
    · obtain ⟨q2, q3⟩ := q1 hw
      refine q_when (b := false) (et_is (et_test (ev_op (ev_var rfl) ev_c (rv_eq rfl))) (decide_eq_false fun z => by have := V.int.inj z; omega)) (fun hb => nomatch hb) (fun _ H1 e1 => ?_)
      refine ⟨_, rfl, _, rfl, p, a, b, k, rfl, ex_t e1 t_a, hab, ha, hb, hk, fun h0 H2 e2 => suite fun H3 e3 => q2 h0 H3 ((e1.trans e2).trans e3), fun h0 r1 R1 h1 h2 h3 h4 p1 H2 n2 e2 h5 => q3 h0 r1 R1 h1 h2 h3 h4 p1 H2 (fresh_back e1 n2) (e1.trans e2) h5⟩


def spLaw (K : PySem.W.Frag) : Sp := fun vs H Q _ => ∃ (a : Addr) (ns : List Int), vs = [.ref a] ∧ SqL K H a (ns.map V.int) ∧ ns.length ≤ 63 ∧ ∀ H', Q (.bl true) H'
theorem item4 {x y z v : Int} {i : Int} (h : 0 ≤ i ∧ i < 4) : ∃ c : Int, atI [V.int x, V.int y, V.int z, V.int v] i = some (.int c) ∧ (c = x ∨ c = y ∨ c = z ∨ c = v) := by
  have h3 : i = 0 ∨ i = 1 ∨ i = 2 ∨ i = 3 := by omega
  rcases h3 with rfl | rfl | rfl | rfl
  · exact ⟨x, rfl, .inl rfl⟩
  · exact ⟨y, rfl, .inr (.inl rfl)⟩
  · exact ⟨z, rfl, .inr (.inr (.inl rfl))⟩
  · exact ⟨v, rfl, .inr (.inr (.inr rfl))⟩
theorem near {x y : Int} (h : Bd 200 x) (hn : (y - x).natAbs ≤ 100) : Bd 201 y :=
  Nat.lt_of_lt_of_le (show y.natAbs < 2 ^ 200 + 100 by unfold Bd at h; generalize 2 ^ 200 = B at *; omega) (by decide)
theorem fl2 {x : Int} {k : Nat} : x.fdiv (2 ^ k) = x / 2 ^ k := Int.fdiv_eq_ediv_of_nonneg _ (Int.le_of_lt (pow_pos k))
theorem fl_floor {H : Hp} {x q : Int} (h : q ≠ 0) (hb : Bd 400 q) : SpV spFloor [.int x, .int q] H (.int (x.fdiv q)) := fun H1 e1 Q1 q1 E1 => ⟨x, q, rfl, h, hb, q1⟩
theorem fl_ceil {H : Hp} {x q : Int} (h : q ≠ 0) (hb : Bd 400 q) : SpV spCeil [.int x, .int q] H (.int (-((-x).fdiv q))) := fun H1 e1 Q1 q1 E1 => ⟨x, q, rfl, h, hb, q1⟩
theorem given2 (fv : Nat → V) : given 2 (fun _ => true) fv = [fv 0, fv 1] := rfl
theorem q_asgP {σ : L2.St} {H : Hp} {te : TE} {D : Ends} {tz : TS} {i : Nat} (P : V → Hp → Prop) (h : ∀ Q : VK, (∀ v H1, Ex H H1 → P v H1 → Q v H1) → te σ H Q) (k : ∀ v H1, Ex H H1 → P v H1 → tz D (σ.set i (some v)) H1) : tSeq (tAsg te (gName i)) tz D σ H := h _ k
theorem ok_law {f f0 f1 f2 f3 f4 f5 f6 f7 f8 f9 f10 f11 f12 CU CP : Addr} {fd fd0 fd1 fd2 fd3 fd4 fd5 fd6 fd7 fd8 fd9 fd10 fd11 fd12 : FuncData} (F : Fun K "law" "law" s_law f fd) (T : Errs K mg CU CP)
    (F_added : Fun K "added" "added" s_added f0 fd0) (F_subtracted : Fun K "subtracted" "subtracted" s_subtracted f1 fd1) (F_negated : Fun K "negated" "negated" s_negated f2 fd2) (F_multiplied : Fun K "multiplied" "multiplied" s_multiplied f3 fd3) (F_squared : Fun K "squared" "squared" s_squared f4 fd4)
    (F_divided : Fun K "divided" "divided" s_divided f5 fd5) (F_rooted : Fun K "rooted" "rooted" s_rooted f6 fd6) (F_fewer_bits : Fun K "fewer_bits" "fewer_bits" s_fewer_bits f7 fd7) (F_root_above : Fun K "root_above" "root_above" s_root_above f8 fd8) (F_law_cell : Fun K "_law_cell" "_law_cell" s_law_cell f9 fd9)
    (F_law_floor : Fun K "_law_floor" "_law_floor" s_law_floor f10 fd10) (F_law_ceil : Fun K "_law_ceil" "_law_ceil" s_law_ceil f11 fd11) (F_law_told : Fun K "_law_told" "_law_told" s_law_told f12 fd12)
    (b_added : Binds K fd0 ["a", "b"] []) (b_subtracted : Binds K fd1 ["a", "b"] []) (b_negated : Binds K fd2 ["a"] []) (b_multiplied : Binds K fd3 ["a", "b", "bits"] []) (b_squared : Binds K fd4 ["a", "bits"] []) (b_divided : Binds K fd5 ["a", "b", "bits"] []) (b_rooted : Binds K fd6 ["a", "bits"] [])
    (b_fewer_bits : Binds K fd7 ["low", "high", "bits"] []) (b_root_above : Binds K fd8 ["n"] []) (b_law_cell : Binds K fd9 ["script", "k"] []) (b_law_floor : Binds K fd10 ["p", "q"] []) (b_law_ceil : Binds K fd11 ["p", "q"] []) (b_law_told : Binds K fd12 ["way", "a", "b", "bits"] [])
    (g_added : mg "added" = some (.ref f0)) (g_subtracted : mg "subtracted" = some (.ref f1)) (g_negated : mg "negated" = some (.ref f2)) (g_multiplied : mg "multiplied" = some (.ref f3)) (g_squared : mg "squared" = some (.ref f4)) (g_divided : mg "divided" = some (.ref f5)) (g_rooted : mg "rooted" = some (.ref f6))
    (g_fewer_bits : mg "fewer_bits" = some (.ref f7)) (g_root_above : mg "root_above" = some (.ref f8)) (g_law_cell : mg "_law_cell" = some (.ref f9)) (g_law_floor : mg "_law_floor" = some (.ref f10)) (g_law_ceil : mg "_law_ceil" = some (.ref f11)) (g_law_told : mg "_law_told" = some (.ref f12))
    (g_isqrt : mg "isqrt" = some (.builtin "math.isqrt")) (m_len : mg "len" = none) (m_abs : mg "abs" = none) (m_min : mg "min" = none) (m_max : mg "max" = none) (m_int : mg "int" = none) (m_isinstance : mg "isinstance" = none) (m_tuple : mg "tuple" = none) : FnOk P w K mg base CX0 4 f fd ["script"] (spLaw K) := by
  have G_added : FnOk P w K mg base CX0 1 f0 fd0 _ (spAdded K) := ok_added F_added
  have G_subtracted : FnOk P w K mg base CX0 1 f1 fd1 _ (spSubtracted K) := ok_subtracted F_subtracted
  have G_negated : FnOk P w K mg base CX0 1 f2 fd2 _ (spNegated K) := ok_negated F_negated
  have G_multiplied : FnOk P w K mg base CX0 2 f3 fd3 _ (spMultiplied K) := ok_multiplied F_multiplied F_fewer_bits b_fewer_bits g_fewer_bits m_min m_max
  have G_squared : FnOk P w K mg base CX0 2 f4 fd4 _ (spSquared K) := ok_squared F_squared F_fewer_bits b_fewer_bits g_fewer_bits m_min m_max
  have G_law_cell : FnOk P w K mg base CX0 1 f9 fd9 _ (spCell K) := ok_cell F_law_cell m_len
  have G_law_floor : FnOk P w K mg base CX0 1 f10 fd10 _ spFloor := ok_floor F_law_floor
  have G_law_ceil : FnOk P w K mg base CX0 2 f11 fd11 _ spCeil := ok_ceil F_law_ceil F_law_floor b_law_floor g_law_floor
  have G_law_told : FnOk P w K mg base CX0 3 f12 fd12 _ (spTold K) := ok_told F_law_told T F_divided b_divided g_divided F_rooted b_rooted g_rooted F_root_above b_root_above g_root_above g_isqrt m_min m_max m_isinstance
  refine F.ok sc_law (fun vs H Q E h => ?_) (fun cdv A outer s H vs Q E hr h => ?_)
  · obtain ⟨a, ns, rfl, _⟩ := h
    rfl
  · obtain ⟨sa, ns, rfl, hS, hl, fin⟩ := h
    refine ⟨_, (pss_cons (ps_set (i := 1) sc_law.nd rfl (.inl rfl) (pe_callB call_abs (by rfl) m_abs (by decide +kernel) (pa_cons (pe_call G_law_cell (hr.mono (by decide)) (by rfl) g_law_cell F_law_cell.kp b_law_cell .nil pass0 (pa_cons (pv 0) (pa_cons pe_int pa_nil))) pa_nil)))
        (pss_cons (ps_set (i := 2) sc_law.nd rfl (.inl rfl) (pe_callB call_abs (by rfl) m_abs (by decide +kernel) (pa_cons (pe_call G_law_cell (hr.mono (by decide)) (by rfl) g_law_cell F_law_cell.kp b_law_cell .nil pass0 (pa_cons (pv 0) (pa_cons pe_int pa_nil))) pa_nil)))
        (pss_cons (ps_set (i := 3) sc_law.nd rfl (.inl rfl) (pe_op op_mod (pe_callTy call_int1 (by rfl) m_int (by decide +kernel) (pa_cons (pv 1) pa_nil)) pe_int))
        (pss_cons (ps_set (i := 4) sc_law.nd rfl (.inl rfl) (pe_ix ix_list (pe_lst (pa_cons pe_int (pa_cons pe_int (pa_cons (pe_op op_shlN pe_int (pv 3)) (pa_cons pe_int pa_nil))))) (pe_op op_mod (pe_op op_fdiv (pv 1) pe_int) pe_int) (fun _ _ => rfl)))
        (pss_cons (ps_set (i := 5) sc_law.nd rfl (.inl rfl) (pe_op op_sub (pe_op op_mod (pe_op op_fdiv (pv 1) pe_int) pe_int) pe_int))
        (pss_cons (ps_set (i := 6) sc_law.nd rfl (.inl rfl) (pe_op op_sub (pe_op op_mod (pe_callTy call_int1 (by rfl) m_int (by decide +kernel) (pa_cons (pv 2) pa_nil)) pe_int) pe_int))
        (pss_cons (ps_set (i := 7) sc_law.nd rfl (.inl rfl) (pe_tup (pa_cons (pe_op op_sub (pe_op op_mulX (pv 5) (pv 4)) (pe_op op_mod (pe_op op_fdiv (pv 2) pe_int) pe_int)) (pa_cons (pe_op op_add (pe_op op_mulX (pv 5) (pv 4)) (pe_op op_mod (pe_op op_fdiv (pv 2) pe_int) pe_int)) pa_nil))))
        (pss_cons (ps_set (i := 8) sc_law.nd rfl (.inr rfl) (pe_tup (pa_cons (pe_op op_fdiv (pe_op op_mulX (pv 6) (pv 4)) pe_int) (pa_cons (pe_op op_add (pe_op op_fdiv (pe_op op_mulX (pv 6) (pv 4)) pe_int) (pe_op op_mod (pe_op op_fdiv (pv 2) pe_int) pe_int)) pa_nil))))
        (pss_cons (ps_if (PW.pt (pw_or (pt_cmpR (op_neD hr.units) (pe_call G_added (hr.mono (by decide)) (by rfl) g_added F_added.kp b_added .nil pass0 (pa_cons (pv 7) (pa_cons (pv 8) pa_nil))) (pe_tup (pa_cons (pe_op op_add (pe_ix ix_tup (pv 7) pe_int (fun _ _ => rfl)) (pe_ix ix_tup (pv 8) pe_int (fun _ _ => rfl))) (pa_cons (pe_op op_add (pe_ix ix_tup (pv 7) pe_int (fun _ _ => rfl)) (pe_ix ix_tup (pv 8) pe_int (fun _ _ => rfl))) pa_nil))) (nomark _)) (pw_or1 (pt_cmpR (op_neD hr.units) (pe_call G_negated (hr.mono (by decide)) (by rfl) g_negated F_negated.kp b_negated .nil pass0 (pa_cons (pv 7) pa_nil)) (pe_tup (pa_cons (pe_un un_neg (pe_ix ix_tup (pv 7) pe_int (fun _ _ => rfl))) (pa_cons (pe_un un_neg (pe_ix ix_tup (pv 7) pe_int (fun _ _ => rfl))) pa_nil))) (nomark _))))) (pss_one (ps_ret pe_bl)) pss_nil)
        (pss_cons (ps_if (pt_cmpR (op_neD hr.units) (pe_call G_subtracted (hr.mono (by decide)) (by rfl) g_subtracted F_subtracted.kp b_subtracted .nil pass0 (pa_cons (pv 7) (pa_cons (pv 8) pa_nil))) (pe_tup (pa_cons (pe_op op_sub (pe_ix ix_tup (pv 7) pe_int (fun _ _ => rfl)) (pe_ix ix_tup (pv 8) pe_int (fun _ _ => rfl))) (pa_cons (pe_op op_sub (pe_ix ix_tup (pv 7) pe_int (fun _ _ => rfl)) (pe_ix ix_tup (pv 8) pe_int (fun _ _ => rfl))) pa_nil))) (nomark _)) (pss_one (ps_ret pe_bl)) pss_nil)
        (pss_cons (ps_set (i := 9) sc_law.nd rfl (.inr rfl) (pe_op op_shlN pe_int (pv 3)))
        (pss_cons (ps_set (i := 10) sc_law.nd rfl (.inl rfl) (pe_lst (pa_cons (pe_op op_mulX (pe_ix ix_tup (pv 7) pe_int (fun _ _ => rfl)) (pe_ix ix_tup (pv 8) pe_int (fun _ _ => rfl))) (pa_cons (pe_op op_mulX (pe_ix ix_tup (pv 7) pe_int (fun _ _ => rfl)) (pe_ix ix_tup (pv 8) pe_int (fun _ _ => rfl))) (pa_cons (pe_op op_mulX (pe_ix ix_tup (pv 7) pe_int (fun _ _ => rfl)) (pe_ix ix_tup (pv 8) pe_int (fun _ _ => rfl))) (pa_cons (pe_op op_mulX (pe_ix ix_tup (pv 7) pe_int (fun _ _ => rfl)) (pe_ix ix_tup (pv 8) pe_int (fun _ _ => rfl))) pa_nil))))))
        (pss_cons (ps_set (i := 11) sc_law.nd rfl (.inl rfl) (pe_call G_multiplied (hr.mono (by decide)) (by rfl) g_multiplied F_multiplied.kp b_multiplied .nil pass0 (pa_cons (pv 7) (pa_cons (pv 8) (pa_cons (pv 3) pa_nil)))))
        (pss_cons (ps_if (PW.pt (pw_or (pt_not (pt_val (pe_callB call_isi (by rfl) m_isinstance (by decide +kernel) (pa_cons (pv 11) (pa_cons (pe_bltn (by rfl) m_tuple (by decide +kernel) (show RelV (.ty "tuple") _ from rfl)) pa_nil))))) (pw_or1 (pt_cmpR (op_neD hr.units) (pv 11) (pe_tup (pa_cons (pe_call G_law_floor (hr.mono (by decide)) (by rfl) g_law_floor F_law_floor.kp b_law_floor .nil pass0 (pa_cons (pe_callB (cr_min rfl) (by rfl) m_min (by decide +kernel) (pa_cons (pv 10) pa_nil)) (pa_cons (pv 9) pa_nil))) (pa_cons (pe_call G_law_ceil (hr.mono (by decide)) (by rfl) g_law_ceil F_law_ceil.kp b_law_ceil .nil pass0 (pa_cons (pe_callB (cr_max rfl) (by rfl) m_max (by decide +kernel) (pa_cons (pv 10) pa_nil)) (pa_cons (pv 9) pa_nil))) pa_nil))) (nomark _))))) (pss_one (ps_ret pe_bl)) pss_nil)
        (pss_cons (ps_set (i := 12) sc_law.nd rfl (.inl rfl) (pe_lst (pa_cons (pe_op op_mulX (pe_ix ix_tup (pv 7) pe_int (fun _ _ => rfl)) (pe_ix ix_tup (pv 7) pe_int (fun _ _ => rfl))) (pa_cons (pe_op op_mulX (pe_ix ix_tup (pv 7) pe_int (fun _ _ => rfl)) (pe_ix ix_tup (pv 7) pe_int (fun _ _ => rfl))) pa_nil))))
        (pss_cons (ps_set (i := 13) sc_law.nd rfl (.inl rfl) (pe_callB (cr_min rfl) (by rfl) m_min (by decide +kernel) (pa_cons (pv 12) pa_nil)))
        (pss_cons (ps_if (PW.pt (pw_and (pt_cmpR op_le (pe_ix ix_tup (pv 7) pe_int (fun _ _ => rfl)) pe_int (nomark _)) (pw_and1 (pt_cmpR op_ge (pe_ix ix_tup (pv 7) pe_int (fun _ _ => rfl)) pe_int (nomark _))))) (pss_one (ps_set (i := 13) sc_law.nd rfl (.inl rfl) pe_int)) pss_nil)
        (pss_cons (ps_if (pt_cmpR (op_neD hr.units) (pe_call G_squared (hr.mono (by decide)) (by rfl) g_squared F_squared.kp b_squared .nil pass0 (pa_cons (pv 7) (pa_cons (pv 3) pa_nil))) (pe_tup (pa_cons (pe_call G_law_floor (hr.mono (by decide)) (by rfl) g_law_floor F_law_floor.kp b_law_floor .nil pass0 (pa_cons (pv 13) (pa_cons (pv 9) pa_nil))) (pa_cons (pe_call G_law_ceil (hr.mono (by decide)) (by rfl) g_law_ceil F_law_ceil.kp b_law_ceil .nil pass0 (pa_cons (pe_callB (cr_max rfl) (by rfl) m_max (by decide +kernel) (pa_cons (pv 12) pa_nil)) (pa_cons (pv 9) pa_nil))) pa_nil))) (nomark _)) (pss_one (ps_ret pe_bl)) pss_nil)
        (pss_cons (ps_set (i := 14) sc_law.nd rfl (.inl rfl) (pe_call G_law_told (hr.mono (by decide)) (by rfl) g_law_told F_law_told.kp b_law_told .nil pass0 (pa_cons pe_int (pa_cons (pv 7) (pa_cons (pv 8) (pa_cons (pv 3) pa_nil))))))
        (Evl.pss_cut (ps_if (PW.pt (pw_and (pt_cmpR op_le (pe_ix ix_tup (pv 8) pe_int (fun _ _ => rfl)) pe_int (nomark _)) (pw_and1 (pt_cmpR op_ge (pe_ix ix_tup (pv 8) pe_int (fun _ _ => rfl)) pe_int (nomark _))))) (pss_one (ps_if (pt_cmpR op_notBl (pv 14) pe_bl (nomark _)) (pss_one (ps_ret pe_bl)) pss_nil)) (pss_cons (ps_set (i := 15) sc_law.nd rfl (.inl rfl) (pe_op op_cat (pe_lc (own := [("x", 16)]) (g := gName 16) rfl sc_law.nd (pi_tup (pv 7)) (blkOk_by (own := [("x", 16)]) (N := ["script", "one", "two", "bits", "scale", "a", "b", "first", "second", "unit", "ends", "product", "squares", "least", "told", "lows", "x", "highs", "good"]) (sc := defScope s_law) (by decide +kernel)) (fun _ _ _ _ _ => (pg_name (i := 16) sc_law.nd rfl (.inl rfl))) (fun _ _ _ _ _ => pts_nil) (fun _ _ _ _ _ => (pe_call G_law_floor (hr.mono (by decide)) (by rfl) g_law_floor F_law_floor.kp b_law_floor .nil pass0 (pa_cons (pe_op op_mulX (pv 16) (pv 9)) (pa_cons (pe_ix (r := rIxT K) ix_tup (pv 8) pe_int (fun _ _ => rfl)) pa_nil))))) (pe_lc (own := [("x", 16)]) (g := gName 16) rfl sc_law.nd (pi_tup (pv 7)) (blkOk_by (own := [("x", 16)]) (N := ["script", "one", "two", "bits", "scale", "a", "b", "first", "second", "unit", "ends", "product", "squares", "least", "told", "lows", "x", "highs", "good"]) (sc := defScope s_law) (by decide +kernel)) (fun _ _ _ _ _ => (pg_name (i := 16) sc_law.nd rfl (.inl rfl))) (fun _ _ _ _ _ => pts_nil) (fun _ _ _ _ _ => (pe_call G_law_floor (hr.mono (by decide)) (by rfl) g_law_floor F_law_floor.kp b_law_floor .nil pass0 (pa_cons (pe_op op_mulX (pv 16) (pv 9)) (pa_cons (pe_ix (r := rIxT K) ix_tup (pv 8) pe_int (fun _ _ => rfl)) pa_nil)))))))
        (pss_cons (ps_set (i := 17) sc_law.nd rfl (.inl rfl) (pe_op op_cat (pe_lc (own := [("x", 16)]) (g := gName 16) rfl sc_law.nd (pi_tup (pv 7)) (blkOk_by (own := [("x", 16)]) (N := ["script", "one", "two", "bits", "scale", "a", "b", "first", "second", "unit", "ends", "product", "squares", "least", "told", "lows", "x", "highs", "good"]) (sc := defScope s_law) (by decide +kernel)) (fun _ _ _ _ _ => (pg_name (i := 16) sc_law.nd rfl (.inl rfl))) (fun _ _ _ _ _ => pts_nil) (fun _ _ _ _ _ => (pe_call G_law_ceil (hr.mono (by decide)) (by rfl) g_law_ceil F_law_ceil.kp b_law_ceil .nil pass0 (pa_cons (pe_op op_mulX (pv 16) (pv 9)) (pa_cons (pe_ix (r := rIxT K) ix_tup (pv 8) pe_int (fun _ _ => rfl)) pa_nil))))) (pe_lc (own := [("x", 16)]) (g := gName 16) rfl sc_law.nd (pi_tup (pv 7)) (blkOk_by (own := [("x", 16)]) (N := ["script", "one", "two", "bits", "scale", "a", "b", "first", "second", "unit", "ends", "product", "squares", "least", "told", "lows", "x", "highs", "good"]) (sc := defScope s_law) (by decide +kernel)) (fun _ _ _ _ _ => (pg_name (i := 16) sc_law.nd rfl (.inl rfl))) (fun _ _ _ _ _ => pts_nil) (fun _ _ _ _ _ => (pe_call G_law_ceil (hr.mono (by decide)) (by rfl) g_law_ceil F_law_ceil.kp b_law_ceil .nil pass0 (pa_cons (pe_op op_mulX (pv 16) (pv 9)) (pa_cons (pe_ix (r := rIxT K) ix_tup (pv 8) pe_int (fun _ _ => rfl)) pa_nil)))))))
        (pss_one (ps_if (pt_cmpR (op_neD hr.units) (pv 14) (pe_tup (pa_cons (pe_callB (cr_min rfl) (by rfl) m_min (by decide +kernel) (pa_cons (pv 15) pa_nil)) (pa_cons (pe_callB (cr_max rfl) (by rfl) m_max (by decide +kernel) (pa_cons (pv 17) pa_nil)) pa_nil))) (nomark _)) (pss_one (ps_ret pe_bl)) pss_nil)))))
        (pss_cons (ps_set (i := 14) sc_law.nd rfl (.inl rfl) (pe_call G_law_told (hr.mono (by decide)) (by rfl) g_law_told F_law_told.kp b_law_told .nil pass0 (pa_cons pe_int (pa_cons (pv 7) (pa_cons (pv 8) (pa_cons (pv 3) pa_nil))))))
        (pss_cons (ps_if (pt_cmpR op_lt (pe_ix ix_tup (pv 7) pe_int (fun _ _ => rfl)) pe_int (nomark _)) (pss_one (ps_ret (pe_cmpR op_isBl (pv 14) pe_bl (nomark _)))) pss_nil)
        (pss_cons (ps_if (PW.pt (pw_or (pt_not (pt_val (pe_callB call_isi (by rfl) m_isinstance (by decide +kernel) (pa_cons (pv 14) (pa_cons (pe_bltn (by rfl) m_tuple (by decide +kernel) (show RelV (.ty "tuple") _ from rfl)) pa_nil))))) (pw_or (pt_cmpR op_lt (pe_ix ix_tup (pv 14) pe_int (fun _ _ => rfl)) pe_int (nomark _)) (pw_or1 (pt_cmpR op_lt (pe_ix ix_tup (pv 14) pe_int (fun _ _ => rfl)) pe_int (nomark _)))))) (pss_one (ps_ret pe_bl)) pss_nil)
        (pss_cons (ps_set (i := 18) sc_law.nd rfl (.inl rfl) (pe_and (pe_cmpR op_le (pe_op op_mulX (pe_ix ix_tup (pv 14) pe_int (fun _ _ => rfl)) (pe_ix ix_tup (pv 14) pe_int (fun _ _ => rfl))) (pe_op op_mulX (pe_ix ix_tup (pv 7) pe_int (fun _ _ => rfl)) (pv 9)) (nomark _)) (pe_one (pe_cmpR op_lt (pe_op op_mulX (pe_ix ix_tup (pv 7) pe_int (fun _ _ => rfl)) (pv 9)) (pe_op op_mulX (pe_op op_add (pe_ix ix_tup (pv 14) pe_int (fun _ _ => rfl)) pe_int) (pe_op op_add (pe_ix ix_tup (pv 14) pe_int (fun _ _ => rfl)) pe_int)) (nomark _)))))
        (pss_one (ps_ret (pe_and (pv 18) (pe_and (pe_cmpR op_le (pe_op op_mulX (pe_ix ix_tup (pv 7) pe_int (fun _ _ => rfl)) (pv 9)) (pe_op op_mulX (pe_ix ix_tup (pv 14) pe_int (fun _ _ => rfl)) (pe_ix ix_tup (pv 14) pe_int (fun _ _ => rfl))) (nomark _)) (pe_one (pe_or (pe_cmpR op_eq (pe_ix ix_tup (pv 14) pe_int (fun _ _ => rfl)) pe_int (nomark _)) (pe_one (pe_cmpR op_lt (pe_op op_mulX (pe_op op_sub (pe_ix ix_tup (pv 14) pe_int (fun _ _ => rfl)) pe_int) (pe_op op_sub (pe_ix ix_tup (pv 14) pe_int (fun _ _ => rfl)) pe_int)) (pe_op op_mulX (pe_ix ix_tup (pv 7) pe_int (fun _ _ => rfl)) (pv 9)) (nomark _))))))))))))))))))))))))))))))))), ?_⟩
    -- one, two
    refine q_asg (ev_cb (ea_cons (ev_call (z := .int (cellOf ns 0)) (ea_cons (ev_var rfl) (ea_cons ev_c ea_nil)) (fun H1 e1 Q1 q1 E1 => ⟨sa, ns, 0, rfl, ex_l e1 hS, q1 H1 (Ex.refl H1)⟩)) ea_nil) rc_abs) fun H1 e1 => ?_
    refine st_is (σ' := [_, _, _, _, _, _, _, _, _, _, _, _, _, _, _, _, _, _, _]) rfl ?_
    replace hS := ex_l e1 hS
    refine q_asg (ev_cb (ea_cons (ev_call (z := .int (cellOf ns 1)) (ea_cons (ev_var rfl) (ea_cons ev_c ea_nil)) (fun H1 e1 Q1 q1 E1 => ⟨sa, ns, 1, rfl, ex_l e1 hS, q1 H1 (Ex.refl H1)⟩)) ea_nil) rc_abs) fun H2 e2 => ?_
    refine st_is (σ' := [_, _, _, _, _, _, _, _, _, _, _, _, _, _, _, _, _, _, _]) rfl ?_
    generalize (cellOf ns 0).natAbs = n1
    generalize (cellOf ns 1).natAbs = n2
    -- bits
    obtain ⟨k, hk, hk2⟩ : ∃ k : Nat, (n1 : Int) % 121 = (k : Int) ∧ k ≤ 120 := ⟨n1 % 121, by omega, by omega⟩
    refine q_asg (ev_is (ev_op (ev_cb (ea_cons (ev_var rfl) ea_nil) rc_intI) ev_c (rv_I (by decide))) (congrArg V.int hk)) fun H3 e3 => ?_
    refine st_is (σ' := [_, _, _, _, _, _, _, _, _, _, _, _, _, _, _, _, _, _, _]) rfl ?_
    have kp := pow_pos k
    have kB : Bd 130 ((2 : Int) ^ k) := ab_pow (by omega)
    -- scale
    obtain ⟨sc, hsc, hsc2⟩ := item4 (x := 1) (y := 7) (z := 1 * 2 ^ k) (v := 1000000007) (i := (n1 : Int) / 128 % 4) ⟨by omega, by omega⟩
    have sB : Bd 130 sc := by
      rcases hsc2 with rfl | rfl | rfl | rfl
      · exact (by decide : (1 : Int).natAbs < 2 ^ 130)
      · exact (by decide : (7 : Int).natAbs < 2 ^ 130)
      · rw [Int.one_mul]
        exact kB
      · exact (by decide : (1000000007 : Int).natAbs < 2 ^ 130)
    refine q_asg (ev_opL1 (el_lst (ea_cons ev_c (ea_cons ev_c (ea_cons (ev_op ev_c (ev_var rfl) (rv_shl (shl_ok (n := 1) (by decide) (by omega)))) (ea_cons ev_c ea_nil)))) (show 4 ≤ 100000 by decide)) (fun _ _ => ev_op (ev_op (ev_var rfl) ev_c (rv_I ⟨by decide, by decide⟩)) ev_c (rv_I (by decide))) (fun _ _ hp _ => rv_ixL (sq_of hp) hsc)) fun H4 e4 => ?_
    refine st_is (σ' := [_, _, _, _, _, _, _, _, _, _, _, _, _, _, _, _, _, _, _]) rfl ?_
    clear hsc2
    -- a, b
    obtain ⟨aa, haa, haa2⟩ : ∃ z : Int, (n1 : Int) / 512 % 41 - 20 = z ∧ z.natAbs ≤ 20 := ⟨_, rfl, by omega⟩
    refine q_asg (ev_is (ev_op (ev_op (ev_op (ev_var rfl) ev_c (rv_I ⟨by decide, by decide⟩)) ev_c (rv_I (by decide))) ev_c rv_I0) (congrArg V.int haa)) fun H5 e5 => ?_
    refine st_is (σ' := [_, _, _, _, _, _, _, _, _, _, _, _, _, _, _, _, _, _, _]) rfl ?_
    obtain ⟨bb, hbb, hbb2⟩ : ∃ z : Int, (n2 : Int) % 41 - 20 = z ∧ z.natAbs ≤ 20 := ⟨_, rfl, by omega⟩
    refine q_asg (ev_is (ev_op (ev_op (ev_cb (ea_cons (ev_var rfl) ea_nil) rc_intI) ev_c (rv_I (by decide))) ev_c rv_I0) (congrArg V.int hbb)) fun H6 e6 => ?_
    refine st_is (σ' := [_, _, _, _, _, _, _, _, _, _, _, _, _, _, _, _, _, _, _]) rfl ?_
    have aB : Bd 6 aa := Nat.lt_of_le_of_lt haa2 (by decide)
    have bB : Bd 6 bb := Nat.lt_of_le_of_lt hbb2 (by decide)
    have cas : CMulX aa sc := mulx_ok aB sB (by decide)
    have cbs : CMulX bb sc := mulx_ok bB sB (by decide)
    have asB : Bd 200 (aa * sc) := ab_mono (ab_mul aB sB) (by decide)
    have bsB : Bd 200 (bb * sc / 3) := ab_div (by decide) (ab_mono (ab_mul bB sB) (by decide))
    -- first
    obtain ⟨u0, hu0, hu01⟩ : ∃ z : Int, aa * sc - (n2 : Int) / 64 % 3 = z ∧ (z ≤ aa * sc ∧ aa * sc - 2 ≤ z) := ⟨_, rfl, by omega, by omega⟩
    obtain ⟨u1, hu1, hu11⟩ : ∃ z : Int, aa * sc + (n2 : Int) / 256 % 40 = z ∧ (aa * sc ≤ z ∧ z ≤ aa * sc + 39) := ⟨_, rfl, by omega, by omega⟩
    refine q_asgU (eu_tup (ea_cons (ev_is (ev_op (ev_op (ev_var rfl) (ev_var rfl) (rv_I cas)) (ev_op (ev_op (ev_var rfl) ev_c (rv_I ⟨by decide, by decide⟩)) ev_c (rv_I (by decide))) rv_I0) (congrArg V.int hu0)) (ea_cons (ev_is (ev_op (ev_op (ev_var rfl) (ev_var rfl) (rv_I cas)) (ev_op (ev_op (ev_var rfl) ev_c (rv_I ⟨by decide, by decide⟩)) ev_c (rv_I (by decide))) rv_I0) (congrArg V.int hu1)) ea_nil)) (show 2 ≤ 100000 by decide)) fun pa H7 _ e7 t_a => ?_
    refine st_is (σ' := [_, _, _, _, _, _, _, _, _, _, _, _, _, _, _, _, _, _, _]) rfl ?_
    -- second
    obtain ⟨w0, hw0⟩ : ∃ z : Int, bb * sc / 3 = z := ⟨_, rfl⟩
    obtain ⟨w1, hw1, hw11⟩ : ∃ z : Int, w0 + (n2 : Int) / 16384 % 9 = z ∧ (w0 ≤ z ∧ z ≤ w0 + 8) := ⟨_, rfl, by omega, by omega⟩
    have evw : ∀ {σ : L2.St} {H' : Hp}, σ[6]? = some (some (.int bb)) → σ[4]? = some (some (.int sc)) → Ev (tOp (rI CDiv fun i j => .int (i / j)) (tOp (rI CMulX fun i j => .int (i * j)) (tVar 6) (tVar 4)) (tC (.int 3))) σ H' (.int w0) := fun h6 h4 => by
      rw [← hw0]
      exact ev_op (ev_op (ev_var h6) (ev_var h4) (rv_I cbs)) ev_c (rv_I ⟨by decide, by decide⟩)
    refine q_asgU (eu_tup (ea_cons (evw rfl rfl) (ea_cons (ev_is (ev_op (evw rfl rfl) (ev_op (ev_op (ev_var rfl) ev_c (rv_I ⟨by decide, by decide⟩)) ev_c (rv_I (by decide))) rv_I0) (congrArg V.int hw1)) ea_nil)) (show 2 ≤ 100000 by decide)) fun pb H8 _ e8 t_b => ?_
    refine st_is (σ' := [_, _, _, _, _, _, _, _, _, _, _, _, _, _, _, _, _, _, _]) rfl ?_
    clear evw
    rw [hw0] at bsB
    have B0 : Bd 201 u0 := near asB (by omega)
    have B1 : Bd 201 u1 := near asB (by omega)
    have B2 : Bd 201 w0 := near bsB (by omega)
    have B3 : Bd 201 w1 := near bsB (by omega)
    have B0' : Bd 400 u0 := ab_mono B0 (by decide)
    have B1' : Bd 400 u1 := ab_mono B1 (by decide)
    have B2' : Bd 400 w0 := ab_mono B2 (by decide)
    have B3' : Bd 400 w1 := ab_mono B3 (by decide)
    have kB' : Bd 400 ((2 : Int) ^ k) := ab_mono kB (by decide)
    have hle1 : u0 ≤ u1 := by omega
    have hle2 : w0 ≤ w1 := by omega
    clear hu0 hu01 hu1 hu11 hw0 hw1 hw11 haa hbb haa2 hbb2 asB bsB cas cbs aB bB
    have t_first : SqT K H8 pa [.int u0, .int u1] := st_of (e8 _ _ t_a)
    have t_second : SqT K H8 pb [.int w0, .int w1] := st_of t_b
    clear t_a t_b
    -- added, negated
    refine q_when (b := false) (et_is (et_or (a := false) (et_test (ev_opUU (eu_call (xs := [.int (u0 + w0), .int (u1 + w1)]) (ea_cons (ev_var rfl) (ea_cons (ev_var rfl) ea_nil)) (fun H9 e9 Q9 q9 E9 => ⟨pa, pb, u0, u1, w0, w1, rfl, ex_t e9 t_first, ex_t e9 t_second, q9⟩)) (eu_tup (ea_cons (ev_op (ev_op (ev_var rfl) ev_c (rv_ixT t_first rfl)) (ev_op (ev_var rfl) ev_c (rv_ixT t_second rfl)) rv_I0) (ea_cons (ev_op (ev_op (ev_var rfl) ev_c (rv_ixT t_first rfl)) (ev_op (ev_var rfl) ev_c (rv_ixT t_second rfl)) rv_I0) ea_nil)) (show 2 ≤ 100000 by decide)) (fun p q H9 hp hq e9 => rv_neS (dp2 (st_of hp)) (dp2 (st_of hq)) sh2)))
      fun _ => (et_test (ev_opUU (eu_call (xs := [.int (-u1), .int (-u0)]) (ea_cons (ev_var rfl) ea_nil) (fun H9 e9 Q9 q9 E9 => ⟨pa, u0, u1, rfl, ex_t e9 t_first, q9⟩)) (eu_tup (ea_cons (ev_un (ev_op (ev_var rfl) ev_c (rv_ixT t_first rfl)) ru_neg) (ea_cons (ev_un (ev_op (ev_var rfl) ev_c (rv_ixT t_first rfl)) ru_neg) ea_nil)) (show 2 ≤ 100000 by decide)) (fun p q H9 hp hq e9 => rv_neS (dp2 (st_of hp)) (dp2 (st_of hq)) sh2)))) rfl) (fun hb => nomatch hb) fun _ H9 e9 => ?_
    replace t_first := ex_t e9 t_first
    replace t_second := ex_t e9 t_second
    refine q_when (b := false) (et_test (ev_opUU (eu_call (xs := [.int (u0 - w1), .int (u1 - w0)]) (ea_cons (ev_var rfl) (ea_cons (ev_var rfl) ea_nil)) (fun H9 e9 Q9 q9 E9 => ⟨pa, pb, u0, u1, w0, w1, rfl, ex_t e9 t_first, ex_t e9 t_second, q9⟩)) (eu_tup (ea_cons (ev_op (ev_op (ev_var rfl) ev_c (rv_ixT t_first rfl)) (ev_op (ev_var rfl) ev_c (rv_ixT t_second rfl)) rv_I0) (ea_cons (ev_op (ev_op (ev_var rfl) ev_c (rv_ixT t_first rfl)) (ev_op (ev_var rfl) ev_c (rv_ixT t_second rfl)) rv_I0) ea_nil)) (show 2 ≤ 100000 by decide)) (fun p q H9 hp hq e9 => rv_neS (dp2 (st_of hp)) (dp2 (st_of hq)) sh2))) (fun hb => nomatch hb) fun _ H10 e10 => ?_
    replace t_first := ex_t e10 t_first
    replace t_second := ex_t e10 t_second
    -- unit
    refine q_asg (ev_is (ev_op ev_c (ev_var rfl) (rv_shl (shl_ok (n := 1) (by decide) (by omega)))) (congrArg V.int (Int.one_mul (2 ^ k)))) fun H11 e11 => ?_
    refine st_is (σ' := [_, _, _, _, _, _, _, _, _, _, _, _, _, _, _, _, _, _, _]) rfl ?_
    replace t_first := ex_t e11 t_first
    replace t_second := ex_t e11 t_second
    have kn : (2 : Int) ^ k ≠ 0 := by omega
    -- ends
    refine q_asgL (el_lst (ea_cons (ev_op (ev_op (ev_var rfl) ev_c (rv_ixT t_first rfl)) (ev_op (ev_var rfl) ev_c (rv_ixT t_second rfl)) (rv_I (mu B0' B2'))) (ea_cons (ev_op (ev_op (ev_var rfl) ev_c (rv_ixT t_first rfl)) (ev_op (ev_var rfl) ev_c (rv_ixT t_second rfl)) (rv_I (mu B0' B3'))) (ea_cons (ev_op (ev_op (ev_var rfl) ev_c (rv_ixT t_first rfl)) (ev_op (ev_var rfl) ev_c (rv_ixT t_second rfl)) (rv_I (mu B1' B2'))) (ea_cons (ev_op (ev_op (ev_var rfl) ev_c (rv_ixT t_first rfl)) (ev_op (ev_var rfl) ev_c (rv_ixT t_second rfl)) (rv_I (mu B1' B3'))) ea_nil)))) (show 4 ≤ 100000 by decide)) fun pe H12 _ e12 t_ends => ?_
    refine st_is (σ' := [_, _, _, _, _, _, _, _, _, _, _, _, _, _, _, _, _, _, _]) rfl ?_
    replace t_first := ex_t e12 t_first
    replace t_second := ex_t e12 t_second
    -- product
    refine q_asgU (eu_call (xs := [.int (min (min (u0 * w0) (u0 * w1)) (min (u1 * w0) (u1 * w1)) / 2 ^ k), .int (-(-(max (max (u0 * w0) (u0 * w1)) (max (u1 * w0) (u1 * w1))) / 2 ^ k))]) (ea_cons (ev_var rfl) (ea_cons (ev_var rfl) (ea_cons (ev_var rfl) ea_nil))) (fun H9 e9 Q9 q9 E9 => ⟨pa, pb, u0, u1, w0, w1, k, rfl, ex_t e9 t_first, ex_t e9 t_second, B0', B1', B2', B3', q9⟩)) fun pp H13 _ e13 t_prod => ?_
    refine st_is (σ' := [_, _, _, _, _, _, _, _, _, _, _, _, _, _, _, _, _, _, _]) rfl ?_
    replace t_first := ex_t e13 t_first
    replace t_second := ex_t e13 t_second
    replace t_ends := sq_of (K := K) (e13 _ _ t_ends)
    have mnL := @rc_minL K H13 pe _ _ _ _ t_ends
    have mxL := @rc_maxL K H13 pe _ _ _ _ t_ends
    generalize min (min (u0 * w0) (u0 * w1)) (min (u1 * w0) (u1 * w1)) = mn at *
    generalize max (max (u0 * w0) (u0 * w1)) (max (u1 * w0) (u1 * w1)) = mx at *
    refine q_when (b := false) (et_is (et_or (a := false) (et_is (et_not (et_B (ev_cb (ea_cons (ev_var rfl) (ea_cons ev_c ea_nil)) (rc_isiT (K := K) t_prod)))) rfl) fun _ => (et_test (ev_opU (ev_var rfl) (eu_tup (ea_cons (ev_is (ev_call (ea_cons (ev_cb (ea_cons (ev_var rfl) ea_nil) mnL) (ea_cons (ev_var rfl) ea_nil)) (fl_floor kn kB')) (congrArg V.int fl2)) (ea_cons (ev_is (ev_call (ea_cons (ev_cb (ea_cons (ev_var rfl) ea_nil) mxL) (ea_cons (ev_var rfl) ea_nil)) (fl_ceil kn kB')) (congrArg (fun z : Int => V.int (-z)) fl2)) ea_nil)) (show 2 ≤ 100000 by decide)) (fun p1 H9 h9 e9 => rv_neS (dp2 (st_of (e9 _ _ t_prod))) (dp2 (st_of h9)) sh2)))) rfl) (fun hb => nomatch hb) fun _ H14 e14 => ?_
    replace t_first := ex_t e14 t_first
    replace t_second := ex_t e14 t_second
    clear mnL mxL t_ends t_prod
    -- squares
    refine q_asgL (el_lst (ea_cons (ev_op (ev_op (ev_var rfl) ev_c (rv_ixT t_first rfl)) (ev_op (ev_var rfl) ev_c (rv_ixT t_first rfl)) (rv_I (mu B0' B0'))) (ea_cons (ev_op (ev_op (ev_var rfl) ev_c (rv_ixT t_first rfl)) (ev_op (ev_var rfl) ev_c (rv_ixT t_first rfl)) (rv_I (mu B1' B1'))) ea_nil)) (show 2 ≤ 100000 by decide)) fun ps H15 _ e15 t_sq => ?_
    refine st_is (σ' := [_, _, _, _, _, _, _, _, _, _, _, _, _, _, _, _, _, _, _]) rfl ?_
    replace t_first := ex_t e15 t_first
    replace t_second := ex_t e15 t_second
    replace t_sq := sq_of (K := K) t_sq
    refine q_asg (ev_cb (ea_cons (ev_var rfl) ea_nil) (rc_minL2 t_sq)) fun H16 e16 => ?_
    refine st_is (σ' := [_, _, _, _, _, _, _, _, _, _, _, _, _, _, _, _, _, _, _]) rfl ?_
    replace t_first := ex_t e16 t_first
    replace t_second := ex_t e16 t_second
    replace t_sq := ex_l e16 t_sq
    refine q_ifAsg (b := decide (u0 ≤ 0 ∧ 0 ≤ u1)) (v := .int (if u0 ≤ 0 ∧ 0 ≤ u1 then 0 else min (u0 * u0) (u1 * u1))) (et_is (et_and (et_test (ev_op (ev_op (ev_var rfl) ev_c (rv_ixT t_first rfl)) ev_c rv_I0)) fun _ => (et_test (ev_op (ev_op (ev_var rfl) ev_c (rv_ixT t_first rfl)) ev_c rv_I0))) (Bool.decide_and _ _).symm) (fun hb => by
      rw [if_pos (of_decide_eq_true hb)]
      exact ev_c) (fun hb => by
      rw [if_neg (of_decide_eq_false hb)]
      rfl) fun H17 e17 => ?_
    refine st_is (σ' := [_, _, _, _, _, _, _, _, _, _, _, _, _, _, _, _, _, _, _]) rfl ?_
    replace t_first := ex_t e17 t_first
    replace t_second := ex_t e17 t_second
    replace t_sq := ex_l e17 t_sq
    -- squared
    refine q_when (b := false) (et_test (ev_opUU (eu_call (xs := [.int ((if u0 ≤ 0 ∧ 0 ≤ u1 then 0 else min (u0 * u0) (u1 * u1)) / 2 ^ k), .int (-(-(max (u0 * u0) (u1 * u1)) / 2 ^ k))]) (ea_cons (ev_var rfl) (ea_cons (ev_var rfl) ea_nil)) (fun H9 e9 Q9 q9 E9 => ⟨pa, u0, u1, k, rfl, ex_t e9 t_first, B0', B1', q9⟩)) (eu_tup (ea_cons (ev_is (ev_call (ea_cons (ev_var rfl) (ea_cons (ev_var rfl) ea_nil)) (fl_floor kn kB')) (congrArg V.int fl2)) (ea_cons (ev_is (ev_call (ea_cons (ev_cb (ea_cons (ev_var rfl) ea_nil) (rc_maxL2 t_sq)) (ea_cons (ev_var rfl) ea_nil)) (fl_ceil kn kB')) (congrArg (fun z : Int => V.int (-z)) fl2)) ea_nil)) (show 2 ≤ 100000 by decide)) (fun p q H9 hp hq e9 => rv_neS (dp2 (st_of hp)) (dp2 (st_of hq)) sh2))) (fun hb => nomatch hb) fun _ H18 e18 => ?_
    replace t_first := ex_t e18 t_first
    replace t_second := ex_t e18 t_second
    -- told, the quotients
    refine q_asgP (fun v H1 => (v = .bl true ∧ w0 ≤ 0 ∧ 0 ≤ w1) ∨ (∃ p1, v = .ref p1 ∧ H1 p1 = some (.tup [.int (loQ u0 u1 w0 w1 k), .int (hiQ u0 u1 w0 w1 k)]) ∧ ¬ (w0 ≤ 0 ∧ 0 ≤ w1))) (fun Q1 k1 => ?_) fun vt H19 e19 hP => ?_
    · exact ⟨_, rfl, _, rfl, _, rfl, pa, pb, u0, u1, w0, w1, k, 0, rfl, t_first, t_second, hle1, hle2, B0', B1', B2', B3', by omega, fun _ => ⟨fun h0 H9 e9 => k1 _ _ e9 (.inl ⟨rfl, h0⟩), fun h0 p1 H9 n9 e9 h9 => k1 _ _ e9 (.inr ⟨p1, rfl, h9, h0⟩)⟩, fun z => absurd rfl z⟩
    refine st_is (σ' := [_, _, _, _, _, _, _, _, _, _, _, _, _, _, _, _, _, _, _]) rfl ?_
    replace t_first := ex_t e19 t_first
    replace t_second := ex_t e19 t_second
    refine q_cut (M := fun σ' H' => Ex H19 H' ∧ ∃ (x4 x5 x6 x10 x11 x12 x13 x14 x15 x16 x17 : Option V), σ' = [some (.ref sa), some (.int (n1 : Int)), some (.int (n2 : Int)), some (.int (k : Int)), x4, x5, x6, some (.ref pa), some (.ref pb), some (.int (2 ^ k)), x10, x11, x12, x13, x14, x15, x16, x17, none]) ?_ (fun σ' H' hM => ?_)
    · rcases hP with ⟨rfl, h0⟩ | ⟨p1, rfl, h1, h0⟩
      · refine s_if (b := true) (et_is (et_and (et_test (ev_op (ev_op (ev_var rfl) ev_c (rv_ixT t_second rfl)) ev_c rv_I0)) fun _ => (et_test (ev_op (ev_op (ev_var rfl) ev_c (rv_ixT t_second rfl)) ev_c rv_I0))) (by rw [decide_eq_true h0.1, decide_eq_true h0.2]; rfl)) (fun _ H20 e20 => ?_) (fun hb => nomatch hb)
        exact s_when (b := false) (et_is (et_test (ev_op (ev_var rfl) ev_c rv_notB)) rfl) (fun hb => nomatch hb) fun _ H21 e21 => ⟨e20.trans e21, _, _, _, _, _, _, _, _, _, _, _, rfl⟩
      · refine s_if (b := false) (et_is (et_and (et_test (ev_op (ev_op (ev_var rfl) ev_c (rv_ixT t_second rfl)) ev_c rv_I0)) fun _ => (et_test (ev_op (ev_op (ev_var rfl) ev_c (rv_ixT t_second rfl)) ev_c rv_I0))) (by rw [← Bool.decide_and]; exact decide_eq_false h0)) (fun hb => nomatch hb) (fun _ H20 e20 => ?_)
        have c0 : w0 ≠ 0 := fun z => h0 (by omega)
        have d0 : w1 ≠ 0 := fun z => h0 (by omega)
        replace t_first := ex_t e20 t_first
        replace t_second := ex_t e20 t_second
        have each : ∀ {i : Nat} {x : V}, [V.int u0, V.int u1][i]? = some x → ∃ z : Int, x = .int z ∧ z = (if i = 0 then u0 else u1) ∧ Bd 400 z := fun {i x} hx => by
          match i, hx with
          | 0, hx => exact ⟨u0, (Option.some.inj hx).symm, rfl, B0'⟩
          | 1, hx => exact ⟨u1, (Option.some.inj hx).symm, rfl, B1'⟩
        refine q_asgL (el_cat (el_mapT (fun i => .int (((if i = 0 then u0 else u1) * 2 ^ k).fdiv w0)) (ev_var rfl) t_first (show 2 ≤ 40000 by decide) (fun x => rfl) (fun i x H9 e9 hx => by
            obtain ⟨z, rfl, hz, hzb⟩ := each hx
            rw [← hz]
            exact ev_call (ea_cons (ev_op (ev_var rfl) (ev_var rfl) (rv_I (mu hzb kB'))) (ea_cons (ev_op (ev_var rfl) ev_c (rv_ixT (ex_t e9 t_second) rfl)) ea_nil)) (fl_floor c0 B2')))
          (el_mapT (fun i => .int (((if i = 0 then u0 else u1) * 2 ^ k).fdiv w1)) (ev_var rfl) t_first (show 2 ≤ 40000 by decide) (fun x => rfl) (fun i x H9 e9 hx => by
            obtain ⟨z, rfl, hz, hzb⟩ := each hx
            rw [← hz]
            exact ev_call (ea_cons (ev_op (ev_var rfl) (ev_var rfl) (rv_I (mu hzb kB'))) (ea_cons (ev_op (ev_var rfl) ev_c (rv_ixT (ex_t e9 t_second) rfl)) ea_nil)) (fl_floor d0 B3'))) (show 2 + 2 ≤ 100000 by decide)) fun pl H21 _ e21 t_lows => ?_
        refine st_is (σ' := [_, _, _, _, _, _, _, _, _, _, _, _, _, _, _, _, _, _, _]) rfl ?_
        replace t_first := ex_t e21 t_first
        replace t_second := ex_t e21 t_second
        refine q_asgL (el_cat (el_mapT (fun i => .int (-((-((if i = 0 then u0 else u1) * 2 ^ k)).fdiv w0))) (ev_var rfl) t_first (show 2 ≤ 40000 by decide) (fun x => rfl) (fun i x H9 e9 hx => by
            obtain ⟨z, rfl, hz, hzb⟩ := each hx
            rw [← hz]
            exact ev_call (ea_cons (ev_op (ev_var rfl) (ev_var rfl) (rv_I (mu hzb kB'))) (ea_cons (ev_op (ev_var rfl) ev_c (rv_ixT (ex_t e9 t_second) rfl)) ea_nil)) (fl_ceil c0 B2')))
          (el_mapT (fun i => .int (-((-((if i = 0 then u0 else u1) * 2 ^ k)).fdiv w1))) (ev_var rfl) t_first (show 2 ≤ 40000 by decide) (fun x => rfl) (fun i x H9 e9 hx => by
            obtain ⟨z, rfl, hz, hzb⟩ := each hx
            rw [← hz]
            exact ev_call (ea_cons (ev_op (ev_var rfl) (ev_var rfl) (rv_I (mu hzb kB'))) (ea_cons (ev_op (ev_var rfl) ev_c (rv_ixT (ex_t e9 t_second) rfl)) ea_nil)) (fl_ceil d0 B3'))) (show 2 + 2 ≤ 100000 by decide)) fun ph H22 _ e22 t_highs => ?_
        refine st_is (σ' := [_, _, _, _, _, _, _, _, _, _, _, _, _, _, _, _, _, _, _]) rfl ?_
        have l1 : SqL K H22 pl [.int ((u0 * 2 ^ k).fdiv w0), .int ((u1 * 2 ^ k).fdiv w0), .int ((u0 * 2 ^ k).fdiv w1), .int ((u1 * 2 ^ k).fdiv w1)] := sq_of (e22 _ _ t_lows)
        have l2 : SqL K H22 ph [.int (-((-(u0 * 2 ^ k)).fdiv w0)), .int (-((-(u1 * 2 ^ k)).fdiv w0)), .int (-((-(u0 * 2 ^ k)).fdiv w1)), .int (-((-(u1 * 2 ^ k)).fdiv w1))] := sq_of t_highs
        refine s_when (b := false) (et_test (ev_opU (ev_var rfl) (eu_tup (ea_cons (ev_is (ev_cb (ea_cons (ev_var rfl) ea_nil) (rc_minL l1)) (congrArg V.int (show _ = loQ u0 u1 w0 w1 k by unfold loQ; omega))) (ea_cons (ev_is (ev_cb (ea_cons (ev_var rfl) ea_nil) (rc_maxL l2)) (congrArg V.int (show _ = hiQ u0 u1 w0 w1 k by unfold hiQ; omega))) ea_nil)) (show 2 ≤ 100000 by decide)) (fun p2 H9 h9 e9 => rv_neS (dp2 (st_of ((((e20.trans e21).trans e22).trans e9) _ _ h1))) (dp2 (st_of h9)) sh2))) (fun hb => nomatch hb) fun _ H23 e23 => ⟨((e20.trans e21).trans e22).trans e23, _, _, _, _, _, _, _, _, _, _, _, rfl⟩
    obtain ⟨e20, x4, x5, x6, x10, x11, x12, x13, x14, x15, x16, x17, rfl⟩ := hM
    replace t_first := ex_t e20 t_first
    replace t_second := ex_t e20 t_second
    clear hP
    -- told, the roots
    by_cases hneg : u0 < 0
    · refine q_asg (v := .bl true) (fun H9 e9 Q9 q9 => ⟨_, rfl, _, rfl, _, rfl, pa, pb, u0, u1, w0, w1, k, 1, rfl, ex_t e9 t_first, ex_t e9 t_second, hle1, hle2, B0', B1', B2', B3', by omega, (fun z => nomatch z), fun _ => ⟨fun _ => q9, fun z => absurd hneg z⟩⟩) fun H21 e21 => ?_
      refine st_is (σ' := [_, _, _, _, _, _, _, _, _, _, _, _, _, _, _, _, _, _, _]) rfl ?_
      refine q_when (b := true) (et_is (et_test (ev_op (ev_op (ev_var rfl) ev_c (rv_ixT (ex_t e21 t_first) rfl)) ev_c rv_I0)) (decide_eq_true hneg)) (fun _ H22 e22 => ?_) (fun hb => nomatch hb)
      exact s_ret (ev_is (ev_op (ev_var rfl) ev_c rv_isB) rfl) fun H23 e23 => fin H23
    · refine q_asgP (fun v H1 => ∃ (p1 : Addr) (r R : Nat), v = .ref p1 ∧ H1 p1 = some (.tup [.int (r : Int), .int (R : Int)]) ∧ (r : Int) * r ≤ u0 * 2 ^ k ∧ u0 * 2 ^ k < ((r : Int) + 1) * ((r : Int) + 1) ∧ u1 * 2 ^ k ≤ (R : Int) * R ∧ (R = 0 ∨ ((R : Int) - 1) * ((R : Int) - 1) < u1 * 2 ^ k)) (fun Q1 k1 => ?_) fun vt H21 e21 hP => ?_
      · exact ⟨_, rfl, _, rfl, _, rfl, pa, pb, u0, u1, w0, w1, k, 1, rfl, t_first, t_second, hle1, hle2, B0', B1', B2', B3', by omega, (fun z => nomatch z), fun _ => ⟨fun z => absurd z hneg, fun _ r R h1 h2 h3 h4 p1 H9 n9 e9 h9 => k1 _ _ e9 ⟨p1, r, R, rfl, h9, h1, h2, h3, h4⟩⟩⟩
      obtain ⟨p1, r, R, rfl, hp, h1, h2, h3, h4⟩ := hP
      refine st_is (σ' := [_, _, _, _, _, _, _, _, _, _, _, _, _, _, _, _, _, _, _]) rfl ?_
      replace t_first := ex_t e21 t_first
      refine q_when (b := false) (et_is (et_test (ev_op (ev_op (ev_var rfl) ev_c (rv_ixT t_first rfl)) ev_c rv_I0)) (decide_eq_false hneg)) (fun hb => nomatch hb) (fun _ H22 e22 => ?_)
      replace t_first := ex_t e22 t_first
      replace hp := e22 _ _ hp
      have t_told : SqT K H22 p1 [.int (r : Int), .int (R : Int)] := st_of hp
      refine q_when (b := false) (et_is (et_or (a := false) (et_is (et_not (et_B (ev_cb (ea_cons (ev_var rfl) (ea_cons ev_c ea_nil)) (rc_isiT (K := K) hp)))) rfl) fun _ => (et_or (a := false) (et_is (et_test (ev_op (ev_op (ev_var rfl) ev_c (rv_ixT t_told rfl)) ev_c rv_I0)) (decide_eq_false (by omega))) fun _ => (et_is (et_test (ev_op (ev_op (ev_var rfl) ev_c (rv_ixT t_told rfl)) ev_c rv_I0)) (b := false) (decide_eq_false (by omega))))) rfl) (fun hb => nomatch hb) (fun _ H23 e23 => ?_)
      replace t_first := ex_t e23 t_first
      replace t_told := ex_t e23 t_told
      have g0 : 0 ≤ u0 * 2 ^ k := Int.mul_nonneg (by omega) (by omega)
      have g1 : 0 ≤ u1 * 2 ^ k := Int.mul_nonneg (by omega) (by omega)
      have bu0 : Bd 500 (u0 * 2 ^ k) := ab_mono (ab_shl B0) (by omega)
      have bu1 : Bd 500 (u1 * 2 ^ k) := ab_mono (ab_shl B1) (by omega)
      have cu0 := mu B0' kB'
      have cu1 := mu B1' kB'
      generalize hy0 : u0 * 2 ^ k = y0 at *
      generalize hy1 : u1 * 2 ^ k = y1 at *
      have rB : Bd 501 (r : Int) := by
        obtain ⟨m, rfl⟩ := Int.eq_ofNat_of_zero_le g0
        have := sq_le h1
        unfold Bd at *
        exact Nat.lt_of_le_of_lt (show (r : Int).natAbs ≤ (m : Int).natAbs by omega) (Nat.lt_trans bu0 (by decide))
      have RB : Bd 501 ((R : Int) - 1) := by
        rcases h4 with h4 | h4
        · rw [h4]
          exact (by decide : ((0 : Nat) : Int) - 1 = -1 ∧ (-1 : Int).natAbs < 2 ^ 501).2
        · by_cases hR : R = 0
          · rw [hR]
            exact (by decide : ((0 : Nat) : Int) - 1 = -1 ∧ (-1 : Int).natAbs < 2 ^ 501).2
          · obtain ⟨m, rfl⟩ := Int.eq_ofNat_of_zero_le g1
            obtain ⟨S, rfl⟩ : ∃ S, R = S + 1 := ⟨R - 1, by omega⟩
            have e5 : ((S + 1 : Nat) : Int) - 1 = (S : Int) := by omega
            rw [e5] at h4 ⊢
            have := sq_le (Int.le_of_lt h4)
            unfold Bd at *
            exact Nat.lt_of_le_of_lt (show (S : Int).natAbs ≤ (m : Int).natAbs by omega) (Nat.lt_trans bu1 (by decide))
      have r1B : Bd 502 ((r : Int) + 1) := ab_add rB (by decide)
      have R1B : Bd 502 (R : Int) := by
        have h5 : Bd 502 (((R : Int) - 1) + 1) := ab_add RB (by decide)
        rw [Int.sub_add_cancel] at h5
        exact h5
      have cr : CMulX (r : Int) (r : Int) := mulx_ok rB rB (by decide)
      have cr1 : CMulX ((r : Int) + 1) ((r : Int) + 1) := mulx_ok r1B r1B (by decide)
      have cR : CMulX (R : Int) (R : Int) := mulx_ok R1B R1B (by decide)
      have cR1 : CMulX ((R : Int) - 1) ((R : Int) - 1) := mulx_ok RB RB (by decide)
      have evy0 : ∀ {σ : L2.St} {H' : Hp}, Ex H23 H' → σ[7]? = some (some (.ref pa)) → σ[9]? = some (some (.int (2 ^ k))) → Ev (tOp (rI CMulX fun i j => .int (i * j)) (tOp (rIxT K) (tVar 7) (tC (.int 0))) (tVar 9)) σ H' (.int y0) := fun e h7 h9 => by
        rw [← hy0]
        exact ev_op (ev_op (ev_var h7) ev_c (rv_ixT (ex_t e t_first) rfl)) (ev_var h9) (rv_I cu0)
      have evy1 : ∀ {σ : L2.St} {H' : Hp}, Ex H23 H' → σ[7]? = some (some (.ref pa)) → σ[9]? = some (some (.int (2 ^ k))) → Ev (tOp (rI CMulX fun i j => .int (i * j)) (tOp (rIxT K) (tVar 7) (tC (.int 1))) (tVar 9)) σ H' (.int y1) := fun e h7 h9 => by
        rw [← hy1]
        exact ev_op (ev_op (ev_var h7) ev_c (rv_ixT (ex_t e t_first) rfl)) (ev_var h9) (rv_I cu1)
      refine q_asg (ev_is (ev_andV (ev_op (ev_op (ev_op (ev_var rfl) ev_c (rv_ixT t_told rfl)) (ev_op (ev_var rfl) ev_c (rv_ixT t_told rfl)) (rv_I cr)) (evy0 (Ex.refl _) rfl rfl) rv_I0) fun _ => (ev_op (evy0 (Ex.refl _) rfl rfl) (ev_op (ev_op (ev_op (ev_var rfl) ev_c (rv_ixT t_told rfl)) ev_c rv_I0) (ev_op (ev_op (ev_var rfl) ev_c (rv_ixT t_told rfl)) ev_c rv_I0) (rv_I cr1)) rv_I0)) (w := .bl true) (by rw [decide_eq_true h1, decide_eq_true h2]; rfl)) fun H24 e24 => ?_
      refine st_is (σ' := [_, _, _, _, _, _, _, _, _, _, _, _, _, _, _, _, _, _, _]) rfl ?_
      replace t_told := ex_t e24 t_told
      refine s_ret (ev_is (ev_andV (ev_var rfl) fun _ => (ev_andV (ev_op (evy1 e24 rfl rfl) (ev_op (ev_op (ev_var rfl) ev_c (rv_ixT t_told rfl)) (ev_op (ev_var rfl) ev_c (rv_ixT t_told rfl)) (rv_I cR)) rv_I0) fun _ => (ev_orV (ev_op (ev_op (ev_var rfl) ev_c (rv_ixT t_told rfl)) ev_c (rv_eq rfl)) fun _ => (ev_op (ev_op (ev_op (ev_op (ev_var rfl) ev_c (rv_ixT t_told rfl)) ev_c rv_I0) (ev_op (ev_op (ev_var rfl) ev_c (rv_ixT t_told rfl)) ev_c rv_I0) (rv_I cR1)) (evy1 e24 rfl rfl) rv_I0)))) (w := .bl true) ?_) fun H25 e25 => fin H25
      rw [decide_eq_true h3]
      rcases h4 with h4 | h4
      · rw [h4]
        rfl
      · rw [decide_eq_true h4, Bool.or_true]
        rfl
theorem all_mk {l : PySem.W.OpenLaw} {w : World} {K : PySem.W.Frag} {h : Heap} {mg : Str → Option Value} {fa f0 f1 f2 f3 f4 f5 f6 f7 f8 f9 f10 f11 f12 f13 : Addr} (X : K.In h) (G : h.Ns mainGlobals mg) (hfa : mg "law" = some (.ref fa))
    {od0 an0 od1 an1 od2 an2 od3 an3 od4 an4 od5 an5 od6 an6 od7 an7 od8 an8 od9 an9 od10 an10 od11 an11 od12 an12 od13 an13 : Option Addr} {sl0 sl1 sl2 sl3 sl4 sl5 sl6 sl7 sl8 sl9 sl10 sl11 sl12 sl13 : Array (Option Value)} {oc0 kV0 dc0 pm0 cd0 ct0 oc1 kV1 dc1 pm1 cd1 ct1 oc2 kV2 dc2 pm2 cd2 ct2 oc3 kV3 dc3 pm3 cd3 ct3 oc4 kV4 dc4 pm4 cd4 ct4 oc5 kV5 dc5 pm5 cd5 ct5 oc6 kV6 dc6 pm6 cd6 ct6 oc7 kV7 dc7 pm7 cd7 ct7 oc8 kV8 dc8 pm8 cd8 ct8 oc9 kV9 dc9 pm9 cd9 ct9 oc10 kV10 dc10 pm10 cd10 ct10 oc11 kV11 dc11 pm11 cd11 ct11 oc12 kV12 dc12 pm12 cd12 ct12 oc13 kV13 dc13 pm13 cd13 ct13 : Value}
    (a0 : PySem.W.nsIn K mainGlobals "added" = some (some (.ref f0))) (l0 : K.lookup f0 = some ⟨oc0, od0, .func (PySem.W.fnOf "added" "added" (defArgs s_added) (defBody s_added) (defScope s_added) .none kV0 dc0 pm0 an0 cd0 ct0), sl0⟩) (c0 : PySem.W.codeIn K cd0 "added" = true) (k0 : PySem.W.keepIn K (.ref f0) = true)
    (a1 : PySem.W.nsIn K mainGlobals "subtracted" = some (some (.ref f1))) (l1 : K.lookup f1 = some ⟨oc1, od1, .func (PySem.W.fnOf "subtracted" "subtracted" (defArgs s_subtracted) (defBody s_subtracted) (defScope s_subtracted) .none kV1 dc1 pm1 an1 cd1 ct1), sl1⟩) (c1 : PySem.W.codeIn K cd1 "subtracted" = true) (k1 : PySem.W.keepIn K (.ref f1) = true)
    (a2 : PySem.W.nsIn K mainGlobals "negated" = some (some (.ref f2))) (l2 : K.lookup f2 = some ⟨oc2, od2, .func (PySem.W.fnOf "negated" "negated" (defArgs s_negated) (defBody s_negated) (defScope s_negated) .none kV2 dc2 pm2 an2 cd2 ct2), sl2⟩) (c2 : PySem.W.codeIn K cd2 "negated" = true) (k2 : PySem.W.keepIn K (.ref f2) = true)
    (a3 : PySem.W.nsIn K mainGlobals "multiplied" = some (some (.ref f3))) (l3 : K.lookup f3 = some ⟨oc3, od3, .func (PySem.W.fnOf "multiplied" "multiplied" (defArgs s_multiplied) (defBody s_multiplied) (defScope s_multiplied) .none kV3 dc3 pm3 an3 cd3 ct3), sl3⟩) (c3 : PySem.W.codeIn K cd3 "multiplied" = true) (k3 : PySem.W.keepIn K (.ref f3) = true)
    (a4 : PySem.W.nsIn K mainGlobals "squared" = some (some (.ref f4))) (l4 : K.lookup f4 = some ⟨oc4, od4, .func (PySem.W.fnOf "squared" "squared" (defArgs s_squared) (defBody s_squared) (defScope s_squared) .none kV4 dc4 pm4 an4 cd4 ct4), sl4⟩) (c4 : PySem.W.codeIn K cd4 "squared" = true) (k4 : PySem.W.keepIn K (.ref f4) = true)
    (a5 : PySem.W.nsIn K mainGlobals "divided" = some (some (.ref f5))) (l5 : K.lookup f5 = some ⟨oc5, od5, .func (PySem.W.fnOf "divided" "divided" (defArgs s_divided) (defBody s_divided) (defScope s_divided) .none kV5 dc5 pm5 an5 cd5 ct5), sl5⟩) (c5 : PySem.W.codeIn K cd5 "divided" = true) (k5 : PySem.W.keepIn K (.ref f5) = true)
    (a6 : PySem.W.nsIn K mainGlobals "rooted" = some (some (.ref f6))) (l6 : K.lookup f6 = some ⟨oc6, od6, .func (PySem.W.fnOf "rooted" "rooted" (defArgs s_rooted) (defBody s_rooted) (defScope s_rooted) .none kV6 dc6 pm6 an6 cd6 ct6), sl6⟩) (c6 : PySem.W.codeIn K cd6 "rooted" = true) (k6 : PySem.W.keepIn K (.ref f6) = true)
    (a7 : PySem.W.nsIn K mainGlobals "fewer_bits" = some (some (.ref f7))) (l7 : K.lookup f7 = some ⟨oc7, od7, .func (PySem.W.fnOf "fewer_bits" "fewer_bits" (defArgs s_fewer_bits) (defBody s_fewer_bits) (defScope s_fewer_bits) .none kV7 dc7 pm7 an7 cd7 ct7), sl7⟩) (c7 : PySem.W.codeIn K cd7 "fewer_bits" = true) (k7 : PySem.W.keepIn K (.ref f7) = true)
    (a8 : PySem.W.nsIn K mainGlobals "root_above" = some (some (.ref f8))) (l8 : K.lookup f8 = some ⟨oc8, od8, .func (PySem.W.fnOf "root_above" "root_above" (defArgs s_root_above) (defBody s_root_above) (defScope s_root_above) .none kV8 dc8 pm8 an8 cd8 ct8), sl8⟩) (c8 : PySem.W.codeIn K cd8 "root_above" = true) (k8 : PySem.W.keepIn K (.ref f8) = true)
    (a9 : PySem.W.nsIn K mainGlobals "_law_cell" = some (some (.ref f9))) (l9 : K.lookup f9 = some ⟨oc9, od9, .func (PySem.W.fnOf "_law_cell" "_law_cell" (defArgs s_law_cell) (defBody s_law_cell) (defScope s_law_cell) .none kV9 dc9 pm9 an9 cd9 ct9), sl9⟩) (c9 : PySem.W.codeIn K cd9 "_law_cell" = true) (k9 : PySem.W.keepIn K (.ref f9) = true)
    (a10 : PySem.W.nsIn K mainGlobals "_law_floor" = some (some (.ref f10))) (l10 : K.lookup f10 = some ⟨oc10, od10, .func (PySem.W.fnOf "_law_floor" "_law_floor" (defArgs s_law_floor) (defBody s_law_floor) (defScope s_law_floor) .none kV10 dc10 pm10 an10 cd10 ct10), sl10⟩) (c10 : PySem.W.codeIn K cd10 "_law_floor" = true) (k10 : PySem.W.keepIn K (.ref f10) = true)
    (a11 : PySem.W.nsIn K mainGlobals "_law_ceil" = some (some (.ref f11))) (l11 : K.lookup f11 = some ⟨oc11, od11, .func (PySem.W.fnOf "_law_ceil" "_law_ceil" (defArgs s_law_ceil) (defBody s_law_ceil) (defScope s_law_ceil) .none kV11 dc11 pm11 an11 cd11 ct11), sl11⟩) (c11 : PySem.W.codeIn K cd11 "_law_ceil" = true) (k11 : PySem.W.keepIn K (.ref f11) = true)
    (a12 : PySem.W.nsIn K mainGlobals "_law_told" = some (some (.ref f12))) (l12 : K.lookup f12 = some ⟨oc12, od12, .func (PySem.W.fnOf "_law_told" "_law_told" (defArgs s_law_told) (defBody s_law_told) (defScope s_law_told) .none kV12 dc12 pm12 an12 cd12 ct12), sl12⟩) (c12 : PySem.W.codeIn K cd12 "_law_told" = true) (k12 : PySem.W.keepIn K (.ref f12) = true)
    (a13 : PySem.W.nsIn K mainGlobals "law" = some (some (.ref f13))) (l13 : K.lookup f13 = some ⟨oc13, od13, .func (PySem.W.fnOf "law" "law" (defArgs s_law) (defBody s_law) (defScope s_law) .none kV13 dc13 pm13 an13 cd13 ct13), sl13⟩) (c13 : PySem.W.codeIn K cd13 "law" = true) (k13 : PySem.W.keepIn K (.ref f13) = true)
    (z0 : PySem.W.nsIn K mainGlobals "len" = some none)
    (z1 : PySem.W.nsIn K mainGlobals "abs" = some none)
    (z2 : PySem.W.nsIn K mainGlobals "min" = some none)
    (z3 : PySem.W.nsIn K mainGlobals "max" = some none)
    (z4 : PySem.W.nsIn K mainGlobals "int" = some none)
    (z5 : PySem.W.nsIn K mainGlobals "isinstance" = some none)
    (z6 : PySem.W.nsIn K mainGlobals "tuple" = some none)
    {CU CP : Addr} (uU : PySem.W.nsIn K mainGlobals "Undefined" = some (some (.ref CU))) (uP : PySem.W.nsIn K mainGlobals "PortolanError" = some (some (.ref CP))) (uI : PySem.W.nsIn K mainGlobals "isqrt" = some (some (.builtin "math.isqrt")))
    (xU : PySem.W.excIn K CU [.type "ValueError", .type "Exception", .type "BaseException", .type "object"] "ValueError.__new__" = true) (kU : PySem.W.keepIn K (.ref CU) = true) (bU : PySem.W.subIn K (.ref CU) (.type "BaseException") = some true) (tU : PySem.W.typeIn K (.ref CU) = some (.type "type"))
    (bP : PySem.W.subIn K (.ref CP) (.type "BaseException") = some true) (tP : PySem.W.typeIn K (.ref CP) = some (.type "type")) (iP : PySem.W.isClsIn K CP = true) (sUP : PySem.W.subIn K (.ref CU) (.ref CP) = some true)
    (ex1 : PySem.W.findIn K (.ref CU) "__getattribute__" = some (some (.builtin "BaseException.__getattribute__"))) (ex2 : PySem.W.findIn K (.ref CU) "__getattr__" = some none) (ex3 : PySem.W.hasDictIn K CU = true) (ex4 : PySem.W.findIn K (.ref CU) "__class__" = some (some (.builtin "object.__class__")))
    (ex5 : PySem.W.specialIn K (.builtin "object.__class__") "__get__" = some (some (.builtin "getset_descriptor.__get__"))) (ex6 : PySem.W.takesIn K (.builtin "object.__class__") = some true) (ex7 : PySem.W.mroIn K CU (.type "object") = some true)
    : ∃ fd : FuncData, (∀ (s : Shared) (v : Value), BindsTo s fd ⟨[v], []⟩ [("script", v)]) ∧ ∀ base : Heap, K.In base → base.Ns mainGlobals mg → FnOk l.prog w K mg base CX0 4 fa fd ["script"] (spLaw K) := by
  have e := hfa.symm.trans (PySem.W.mg_of X G a13)
  cases e
  have F_added := fun_mk (st := s_added) l0 c0 k0
  have F_subtracted := fun_mk (st := s_subtracted) l1 c1 k1
  have F_negated := fun_mk (st := s_negated) l2 c2 k2
  have F_multiplied := fun_mk (st := s_multiplied) l3 c3 k3
  have F_squared := fun_mk (st := s_squared) l4 c4 k4
  have F_divided := fun_mk (st := s_divided) l5 c5 k5
  have F_rooted := fun_mk (st := s_rooted) l6 c6 k6
  have F_fewer_bits := fun_mk (st := s_fewer_bits) l7 c7 k7
  have F_root_above := fun_mk (st := s_root_above) l8 c8 k8
  have F_law_cell := fun_mk (st := s_law_cell) l9 c9 k9
  have F_law_floor := fun_mk (st := s_law_floor) l10 c10 k10
  have F_law_ceil := fun_mk (st := s_law_ceil) l11 c11 k11
  have F_law_told := fun_mk (st := s_law_told) l12 c12 k12
  have F_law := fun_mk (st := s_law) l13 c13 k13
  have b_added := F_added.binds (ps := ["a", "b"]) fun _ _ _ _ _ _ us hl => match us, hl with | [_, _], _ => rfl
  have g_added := PySem.W.mg_of X G a0
  have b_subtracted := F_subtracted.binds (ps := ["a", "b"]) fun _ _ _ _ _ _ us hl => match us, hl with | [_, _], _ => rfl
  have g_subtracted := PySem.W.mg_of X G a1
  have b_negated := F_negated.binds (ps := ["a"]) fun _ _ _ _ _ _ us hl => match us, hl with | [_], _ => rfl
  have g_negated := PySem.W.mg_of X G a2
  have b_multiplied := F_multiplied.binds (ps := ["a", "b", "bits"]) fun _ _ _ _ _ _ us hl => match us, hl with | [_, _, _], _ => rfl
  have g_multiplied := PySem.W.mg_of X G a3
  have b_squared := F_squared.binds (ps := ["a", "bits"]) fun _ _ _ _ _ _ us hl => match us, hl with | [_, _], _ => rfl
  have g_squared := PySem.W.mg_of X G a4
  have b_divided := F_divided.binds (ps := ["a", "b", "bits"]) fun _ _ _ _ _ _ us hl => match us, hl with | [_, _, _], _ => rfl
  have g_divided := PySem.W.mg_of X G a5
  have b_rooted := F_rooted.binds (ps := ["a", "bits"]) fun _ _ _ _ _ _ us hl => match us, hl with | [_, _], _ => rfl
  have g_rooted := PySem.W.mg_of X G a6
  have b_fewer_bits := F_fewer_bits.binds (ps := ["low", "high", "bits"]) fun _ _ _ _ _ _ us hl => match us, hl with | [_, _, _], _ => rfl
  have g_fewer_bits := PySem.W.mg_of X G a7
  have b_root_above := F_root_above.binds (ps := ["n"]) fun _ _ _ _ _ _ us hl => match us, hl with | [_], _ => rfl
  have g_root_above := PySem.W.mg_of X G a8
  have b_law_cell := F_law_cell.binds (ps := ["script", "k"]) fun _ _ _ _ _ _ us hl => match us, hl with | [_, _], _ => rfl
  have g_law_cell := PySem.W.mg_of X G a9
  have b_law_floor := F_law_floor.binds (ps := ["p", "q"]) fun _ _ _ _ _ _ us hl => match us, hl with | [_, _], _ => rfl
  have g_law_floor := PySem.W.mg_of X G a10
  have b_law_ceil := F_law_ceil.binds (ps := ["p", "q"]) fun _ _ _ _ _ _ us hl => match us, hl with | [_, _], _ => rfl
  have g_law_ceil := PySem.W.mg_of X G a11
  have b_law_told := F_law_told.binds (ps := ["way", "a", "b", "bits"]) fun _ _ _ _ _ _ us hl => match us, hl with | [_, _, _, _], _ => rfl
  have g_law_told := PySem.W.mg_of X G a12
  have m_len := PySem.W.mg_none_of X G z0
  have m_abs := PySem.W.mg_none_of X G z1
  have m_min := PySem.W.mg_none_of X G z2
  have m_max := PySem.W.mg_none_of X G z3
  have m_int := PySem.W.mg_none_of X G z4
  have m_isinstance := PySem.W.mg_none_of X G z5
  have m_tuple := PySem.W.mg_none_of X G z6
  have T : Errs K mg CU CP := ⟨PySem.W.mg_of X G uU, PySem.W.mg_of X G uP, xU, kU, bU, tU, bP, tP, iP, sUP, ⟨ex1, ex2, bU, ex3, ex4, ex5, ex6, ex7⟩⟩
  exact ⟨PySem.W.fnOf "law" "law" (defArgs s_law) (defBody s_law) (defScope s_law) .none kV13 dc13 pm13 an13 cd13 ct13, fun s v => .of_eq rfl, fun base _ _ => ok_law F_law T F_added F_subtracted F_negated F_multiplied F_squared F_divided F_rooted F_fewer_bits F_root_above F_law_cell F_law_floor F_law_ceil F_law_told b_added b_subtracted b_negated b_multiplied b_squared b_divided b_rooted b_fewer_bits b_root_above b_law_cell b_law_floor b_law_ceil b_law_told g_added g_subtracted g_negated g_multiplied g_squared g_divided g_rooted g_fewer_bits g_root_above g_law_cell g_law_floor g_law_ceil g_law_told (PySem.W.mg_of X G uI) m_len m_abs m_min m_max m_int m_isinstance m_tuple⟩
end
end K02
open PySem PySem.W PyProof.Rows
set_option maxHeartbeats 0 in
theorem PySem.Challenge.cw_portolan_k02_arithmetic_of_enclosures_holds : PySem.Challenge.rw_portolan_k02_arithmetic_of_enclosures.Holds := by
  w_on; o_law; k_head; (case hw => w_witness2)
  k_fill
  refine L2.walk_of (l := PySem.Challenge.rw_portolan_k02_arithmetic_of_enclosures) (n := 63) (k := 4) (x := "script") (CX := fun _ => L2.CX0) (sp := fun w => K02.spLaw _) rfl (by decide) rfl ⟨rfl, by decide, by decide⟩ (fun w h Y => PySem.W.kIn_of Y) ?F (fun _ _ a ns hl _ hS => ⟨a, ns, rfl, hS, hl, fun _ => rfl⟩) (fun _ _ _ _ _ h => h)
  case F =>
    intro w mg fa h KX G hmg
    refine' K02.all_mk KX G hmg ?a0 ?l0 ?c0 ?k0 ?a1 ?l1 ?c1 ?k1 ?a2 ?l2 ?c2 ?k2 ?a3 ?l3 ?c3 ?k3 ?a4 ?l4 ?c4 ?k4 ?a5 ?l5 ?c5 ?k5 ?a6 ?l6 ?c6 ?k6 ?a7 ?l7 ?c7 ?k7 ?a8 ?l8 ?c8 ?k8 ?a9 ?l9 ?c9 ?k9 ?a10 ?l10 ?c10 ?k10 ?a11 ?l11 ?c11 ?k11 ?a12 ?l12 ?c12 ?k12 ?a13 ?l13 ?c13 ?k13 ?z0 ?z1 ?z2 ?z3 ?z4 ?z5 ?z6 ?uU ?uP ?uI ?xU ?kU ?bU ?tU ?bP ?tP ?iP ?sUP ?ex1 ?ex2 ?ex3 ?ex4 ?ex5 ?ex6 ?ex7
    (case a0 => k_is); (case l0 => k_is); (case c0 => k_is); (case k0 => k_is); (case a1 => k_is); (case l1 => k_is); (case c1 => k_is); (case k1 => k_is); (case a2 => k_is); (case l2 => k_is); (case c2 => k_is); (case k2 => k_is); (case a3 => k_is); (case l3 => k_is); (case c3 => k_is); (case k3 => k_is); (case a4 => k_is); (case l4 => k_is); (case c4 => k_is); (case k4 => k_is); (case a5 => k_is); (case l5 => k_is); (case c5 => k_is); (case k5 => k_is); (case a6 => k_is); (case l6 => k_is); (case c6 => k_is); (case k6 => k_is); (case a7 => k_is); (case l7 => k_is); (case c7 => k_is); (case k7 => k_is); (case a8 => k_is); (case l8 => k_is); (case c8 => k_is); (case k8 => k_is); (case a9 => k_is); (case l9 => k_is); (case c9 => k_is); (case k9 => k_is); (case a10 => k_is); (case l10 => k_is); (case c10 => k_is); (case k10 => k_is); (case a11 => k_is); (case l11 => k_is); (case c11 => k_is); (case k11 => k_is); (case a12 => k_is); (case l12 => k_is); (case c12 => k_is); (case k12 => k_is); (case a13 => k_is); (case l13 => k_is); (case c13 => k_is); (case k13 => k_is); (case z0 => k_is); (case z1 => k_is); (case z2 => k_is); (case z3 => k_is); (case z4 => k_is); (case z5 => k_is); (case z6 => k_is); (case uU => k_is); (case uP => k_is); (case uI => k_is); (case xU => k_exc); (case kU => k_is); (case bU => k_is); (case tU => k_is); (case bP => k_is); (case tP => k_is); (case iP => k_is); (case sUP => k_is); (case ex1 => k_is); (case ex2 => k_is); (case ex3 => k_is); (case ex4 => k_is); (case ex5 => k_is); (case ex6 => k_is); (case ex7 => k_is)

