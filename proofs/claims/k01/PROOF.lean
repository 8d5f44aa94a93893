import PyProof.Rows.All
import Wide.All
import OpenK.AllK
import Wide.FinOn
import HandS.ForMost
import HandS.Evl
import HandS.More
import HandS.Wide
import HandS.WideBits
import HandS.Style
import HandS.IsInst
import PyProof.P3Eq
import PySem.Challenge.RW_portolan_k01_enclosures_and_fractions
set_option Elab.async false
set_option linter.all false
set_option maxRecDepth 100000
set_option maxHeartbeats 4000000
/-! Own rules over the layer: what a reading evaluates to, for texts that change nothing. -/
namespace Cm
open PySem PySem.Spec PyProof.Rows L2 Evl

theorem ex_app {H H' : Hp} (e : Ex H H') {p : Addr} {o : HO} (h : H p = some o) : H' p = some o := e p o h
/-- a new tuple comes back -/
def RetU (xs : List V) (H : Hp) (Q : VK) : Prop := ∀ p H2, H p = none → Ex H H2 → H2 p = some (.tup xs) → Q (.ref p) H2
def SpU (sp : Sp) (vs : List V) (H : Hp) (xs : List V) : Prop := ∀ H1, Ex H H1 → ∀ Q : VK, (∀ p H2, H1 p = none → Ex H1 H2 → H2 p = some (.tup xs) → Q (.ref p) H2) → ∀ E : XK, sp vs H1 Q E
section
variable {K : PySem.W.Frag} {σ : L2.St} {H H' : Hp} {ta tb tc te tx : TE} {t u : TT} {x y z v w : V} {r r' : R2} {D : Ends} {tz : TS}
/-- the slots written out anew -/
theorem st_is {σ' : L2.St} {ts : TS} (e : σ = σ') (h : ts D σ' H) : ts D σ H := by
  rw [e]
  exact h
theorem RetU.go {xs : List V} {Q : VK} (k : RetU xs H Q) (e : Ex H H') {p : Addr} {H2 : Hp} (hp : H' p = none) (e2 : Ex H' H2) (h : H2 p = some (.tup xs)) : Q (.ref p) H2 := k p H2 (fresh_back e hp) (e.trans e2) h
theorem eu_call {sp : Sp} {dvs vs xs : List V} {E : XK} {ta : TA} (h : EvA ta σ H vs) (hs : SpU sp (vs ++ dvs) H xs) : EvU (tCall sp dvs E ta) σ H xs := fun H1 e Q q =>
  h H1 e _ fun H2 e2 => hs H2 (e.trans e2) Q (fun p H3 hp e3 h3 => q p H3 (fresh_back e2 hp) (e2.trans e3) h3) E
theorem eu_is {xs ys : List V} (h : EvU te σ H xs) (e : xs = ys) : EvU te σ H ys := by
  rw [← e]
  exact h
/-- a call whose first argument is a new tuple -/
theorem ev_callU {sp : Sp} {dvs vs xs : List V} {E : XK} {tr : TA} (h1 : EvU te σ H xs) (h2 : EvA tr σ H vs) (hs : ∀ p H1, Ex H H1 → H1 p = some (.tup xs) → SpV sp (.ref p :: vs ++ dvs) H1 z) : Ev (tCall sp dvs E (tCons te tr)) σ H z := fun H1 e Q q =>
  h1 H1 e _ fun p H2 np e2 hp => h2 H2 (e.trans e2) _ fun H3 e3 => hs p H3 ((e.trans e2).trans e3) (e3 _ _ hp) H3 (Ex.refl H3) Q (fun H4 e4 => q H4 ((e2.trans e3).trans e4)) E
/-- .. whose second argument is a new tuple -/
theorem ev_callVU {sp : Sp} {dvs vs xs : List V} {E : XK} {tr : TA} (h0 : Ev ta σ H x) (h1 : EvU te σ H xs) (h2 : EvA tr σ H vs) (hs : ∀ p H1, Ex H H1 → H1 p = some (.tup xs) → SpV sp (x :: .ref p :: vs ++ dvs) H1 z) : Ev (tCall sp dvs E (tCons ta (tCons te tr))) σ H z := fun H1 e Q q =>
  h0 H1 e _ fun H2 e2 => h1 H2 (e.trans e2) _ fun p H3 np e3 hp => h2 H3 ((e.trans e2).trans e3) _ fun H4 e4 => hs p H4 (((e.trans e2).trans e3).trans e4) (e4 _ _ hp) H4 (Ex.refl H4) Q (fun H5 e5 => q H5 (((e2.trans e3).trans e4).trans e5)) E
theorem ev_chain {b c : Bool} (ha : Ev ta σ H x) (hb : Ev tb σ H y) (hc : Ev tc σ H w) (h1 : RV r x y H (.bl b)) (h2 : RV r' y w H (.bl c)) : Ev (tChain r r' ta tb tc) σ H (.bl (b && c)) := fun H1 e Q q =>
  ha H1 e _ fun H2 e2 => hb H2 (e.trans e2) _ fun H3 e3 => h1 H3 ((e.trans e2).trans e3) _ fun H4 e4 => ⟨b, rfl, by
    cases b with
    | true =>
      show tc σ H4 _
      exact hc H4 (((e.trans e2).trans e3).trans e4) _ fun H5 e5 => h2 H5 ((((e.trans e2).trans e3).trans e4).trans e5) Q fun H6 e6 => q H6 ((((e2.trans e3).trans e4).trans e5).trans e6)
    | false =>
      show Q (.bl false) H4
      exact q H4 ((e2.trans e3).trans e4)⟩
theorem rv_shl {i : Int} {k : Nat} (h : CShl i (k : Int)) : RV (fun x y H Q => ∃ (i : Int) (k : Nat), x = .int i ∧ y = .int (k : Int) ∧ CShl i (k : Int) ∧ Q (.int (i * 2 ^ k)) H) (.int i) (.int (k : Int)) H (.int (i * 2 ^ k)) :=
  fun H1 _ _ q => ⟨i, k, rfl, rfl, h, q H1 (Ex.refl H1)⟩
theorem rv_shr {i : Int} {k : Nat} : RV (fun x y H Q => ∃ (i : Int) (k : Nat), x = .int i ∧ y = .int (k : Int) ∧ Q (.int (i / 2 ^ k)) H) (.int i) (.int (k : Int)) H (.int (i / 2 ^ k)) :=
  fun H1 _ _ q => ⟨i, k, rfl, rfl, q H1 (Ex.refl H1)⟩
theorem rv_isB {a b : Bool} : RV rIsB (.bl a) (.bl b) H (.bl (decide (a = b))) := fun H1 _ _ q => ⟨a, b, rfl, rfl, q H1 (Ex.refl H1)⟩
theorem rv_notB {a b : Bool} : RV rNotB (.bl a) (.bl b) H (.bl (!decide (a = b))) := fun H1 _ _ q => ⟨a, b, rfl, rfl, q H1 (Ex.refl H1)⟩
theorem rv_isN : RV (fun x y H Q => y = .non ∧ Q (.bl (decide (x = .non))) H) x .non H (.bl (decide (x = .non))) := fun H1 _ _ q => ⟨rfl, q H1 (Ex.refl H1)⟩
theorem rv_notN : RV (fun x y H Q => y = .non ∧ Q (.bl (!decide (x = .non))) H) x .non H (.bl (!decide (x = .non))) := fun H1 _ _ q => ⟨rfl, q H1 (Ex.refl H1)⟩
theorem rc_abs {i : Int} : RC (fun xs H Q => ∃ i, xs = [.int i] ∧ Q (.int (if i < 0 then -i else i)) H) [.int i] H (.int (i.natAbs : Int)) := fun H1 _ Q q => ⟨i, rfl, by
  have e : (if i < 0 then -i else i) = (i.natAbs : Int) := by split <;> omega
  rw [e]
  exact q H1 (Ex.refl H1)⟩
theorem rc_max2 {i j : Int} : RC (fun xs H Q => ∃ i j, xs = [.int i, .int j] ∧ Q (.int (if j > i then j else i)) H) [.int i, .int j] H (.int (max i j)) := fun H1 _ Q q => ⟨i, j, rfl, by
  have e : (if j > i then j else i) = max i j := by split <;> omega
  rw [e]
  exact q H1 (Ex.refl H1)⟩
theorem rc_min2 {i j : Int} : RC (fun xs H Q => ∃ i j, xs = [.int i, .int j] ∧ Q (.int (if j < i then j else i)) H) [.int i, .int j] H (.int (min i j)) := fun H1 _ Q q => ⟨i, j, rfl, by
  have e : (if j < i then j else i) = min i j := by split <;> omega
  rw [e]
  exact q H1 (Ex.refl H1)⟩
theorem rc_intB {k : Bool} : RC (fun xs H Q => (∃ i, xs = [.int i] ∧ Q (.int i) H) ∨ ∃ k, xs = [.bl k] ∧ Q (.int (if k then 1 else 0)) H) [.bl k] H (.int (if k then 1 else 0)) := fun H1 _ Q q => Or.inr ⟨k, rfl, q H1 (Ex.refl H1)⟩
theorem rc_intI {i : Int} : RC (fun xs H Q => (∃ i, xs = [.int i] ∧ Q (.int i) H) ∨ ∃ k, xs = [.bl k] ∧ Q (.int (if k then 1 else 0)) H) [.int i] H (.int i) := fun H1 _ Q q => Or.inl ⟨i, rfl, q H1 (Ex.refl H1)⟩
theorem rc_isiT {p : Addr} {xs : List V} (h : H p = some (.tup xs)) : RC (rIsi K) [.ref p, .ty "tuple"] H (.bl true) := fun H1 e _ q =>
  ⟨.ref p, .ty "tuple", .type "tuple", .type "tuple", true, rfl, .ty _, .base (.tup (e _ _ h)), kit_ty (by decide +kernel), q H1 (Ex.refl H1)⟩
theorem rc_isiS {x : Str} : RC (rIsi K) [.str x, .ty "str"] H (.bl true) := fun H1 e _ q =>
  ⟨.str x, .ty "str", .type "str", .type "str", true, rfl, .ty _, .base (.str x), kit_ty (by decide +kernel), q H1 (Ex.refl H1)⟩
theorem rc_lenL {p : Addr} {xs : List V} (h : SqL K H p xs) : RC (fun xs H Q => ∃ x n, xs = [x] ∧ LenV K x H n ∧ Q (.int n) H) [.ref p] H (.int (xs.length : Int)) := fun H1 e _ q =>
  ⟨.ref p, (xs.length : Nat), rfl, .inl ⟨_, ex_l e h, rfl⟩, q H1 (Ex.refl H1)⟩
/-! ### data -/
mutual
theorem dp_mono (e : Ex H H') : ∀ (d : PyData) (v : V), Dp K H v d → Dp K H' v d
  | _, _, .non => .non
  | _, _, .bl b => .bl b
  | _, _, .int i => .int i
  | _, _, .str x => .str x
  | _, _, .lst h a => .lst (ex_l e h) (dps_mono e _ _ a)
  | _, _, .tup h a => .tup (ex_t e h) (dps_mono e _ _ a)
theorem dps_mono (e : Ex H H') : ∀ (ds : List PyData) (vs : List V), DpAll K H vs ds → DpAll K H' vs ds
  | _, _, .nil => .nil
  | _, _, .cons h t => .cons (dp_mono e _ _ h) (dps_mono e _ _ t)
end
theorem dpInts : ∀ (is : List Int), DpAll K H (is.map V.int) (is.map PyData.int)
  | [] => .nil
  | i :: r => .cons (.int i) (dpInts r)
theorem eqvS {d : PyData} (h : SeqAt.shaped d = true) : PyData.eqv d d = true := by
  unfold SeqAt.shaped at h
  rw [Bool.and_eq_true] at h
  exact PySem.SeqAt.eqv_refl d h.1
/-- the same data on both sides -/
theorem rv_neS {d : PyData} (hx : Dp K H x d) (hy : Dp K H y d) (hs : SeqAt.shaped d = true) : RV (rNeD K) x y H (.bl false) := fun H1 e Q q =>
  ⟨d, d, dp_mono e _ _ hx, dp_mono e _ _ hy, hs, hs, by
    rw [eqvS hs]
    exact q H1 (Ex.refl H1)⟩
theorem rv_eqS {d : PyData} (hx : Dp K H x d) (hy : Dp K H y d) (hs : SeqAt.shaped d = true) : RV (rEqD K) x y H (.bl true) := fun H1 e Q q =>
  ⟨d, d, dp_mono e _ _ hx, dp_mono e _ _ hy, hs, hs, by
    rw [eqvS hs]
    exact q H1 (Ex.refl H1)⟩
/-- a pair of ints -/
theorem dp2 {p : Addr} {i j : Int} (h : SqT K H p [.int i, .int j]) : Dp K H (.ref p) (.tuple [.int i, .int j]) := .tup h (.cons (.int i) (.cons (.int j) .nil))
theorem sh2 {i j : Int} : SeqAt.shaped (.tuple [.int i, .int j]) = true := rfl
end
/-! ### numbers -/
/-- a bound that omega does not look into -/
def Bd (k : Nat) (x : Int) : Prop := x.natAbs < 2 ^ k
theorem pow_pos (n : Nat) : (0 : Int) < 2 ^ n := PySem.W.kbt_pos n
theorem pow_abs (n : Nat) : ((2 : Int) ^ n).natAbs = 2 ^ n := by
  rw [Int.natAbs_pow]
  rfl
theorem ab_mono {x : Int} {a b : Nat} (h : x.natAbs < 2 ^ a) (hab : a ≤ b) : x.natAbs < 2 ^ b := Nat.lt_of_lt_of_le h (Nat.pow_le_pow_right (by decide) hab)
theorem ab_pow {n k : Nat} (h : n < k) : ((2 : Int) ^ n).natAbs < 2 ^ k := by
  rw [pow_abs]
  exact Nat.pow_lt_pow_right (by decide) h
theorem ab_shl {x : Int} {a n : Nat} (h : x.natAbs < 2 ^ a) : (x * 2 ^ n).natAbs < 2 ^ (a + n) := by
  rw [Int.natAbs_mul, pow_abs, Nat.pow_add]
  exact Nat.mul_lt_mul_of_pos_right h (Nat.two_pow_pos n)
theorem ab_mul {x y : Int} {a b : Nat} (hx : x.natAbs < 2 ^ a) (hy : y.natAbs < 2 ^ b) : (x * y).natAbs < 2 ^ (a + b) := wide_lt hx hy
theorem ab_add {x y : Int} {a : Nat} (hx : x.natAbs < 2 ^ a) (hy : y.natAbs < 2 ^ a) : (x + y).natAbs < 2 ^ (a + 1) := by
  have e : 2 ^ (a + 1) = 2 ^ a + 2 ^ a := by rw [Nat.pow_succ]; omega
  omega
theorem ab_neg {x : Int} {a : Nat} (hx : x.natAbs < 2 ^ a) : (-x).natAbs < 2 ^ a := by omega
theorem ab_sm {x : Int} {a c : Nat} (h : x.natAbs ≤ c) (hc : c < 2 ^ a) : x.natAbs < 2 ^ a := Nat.lt_of_le_of_lt h hc
theorem fl_le {s q : Int} (hq : 0 < q) : s / q * q ≤ s := Int.ediv_mul_le s (by omega)
theorem fl_lt {s q : Int} (hq : 0 < q) : s < (s / q + 1) * q := by
  rw [Int.add_mul, Int.one_mul]
  exact Int.lt_ediv_add_one_mul_self s hq |> fun h => by rw [Int.add_mul, Int.one_mul] at h; exact h
theorem cl_ge {s q : Int} (hq : 0 < q) : s ≤ -(-s / q) * q := by
  have h := fl_le (s := -s) hq
  rw [Int.neg_mul]
  omega
theorem cl_lt {s q : Int} (hq : 0 < q) : (-(-s / q) - 1) * q < s := by
  have h := fl_lt (s := -s) hq
  rw [Int.sub_mul, Int.one_mul, Int.neg_mul]
  rw [Int.add_mul, Int.one_mul] at h
  omega
theorem ab_div {x q : Int} {a : Nat} (hq : 0 < q) (h : x.natAbs < 2 ^ a) : (x / q).natAbs < 2 ^ a := by
  have h1 : (x / q).natAbs ≤ x.natAbs := by
    by_cases hx : 0 ≤ x
    · have := Int.ediv_le_self q hx
      have := Int.ediv_nonneg hx (Int.le_of_lt hq)
      omega
    · have h2 : x / q < 0 := Int.ediv_neg_of_neg_of_pos (by omega) hq
      have h3 := fl_lt (s := x) hq
      have h4 : (x / q + 1) * q ≤ (x / q + 1) := by
        have h5 : (x / q + 1) * (q - 1) ≤ 0 := Int.mul_nonpos_of_nonpos_of_nonneg (by omega) (by omega)
        rw [Int.mul_sub, Int.mul_one] at h5
        omega
      omega
  omega
theorem mul_le_r {a b q : Int} (h : a ≤ b) (hq : 0 < q) : a * q ≤ b * q := Int.mul_le_mul_of_nonneg_right h (Int.le_of_lt hq)
/-- the ceiling, by one more where the floor is not exact -/
theorem ceil_eq {s q : Int} (hq : 0 < q) : -(-s / q) = s / q + (if (!decide (s / q * q = s)) = true then 1 else 0) := by
  have a1 := fl_le (s := s) hq
  have a2 := fl_lt (s := s) hq
  have b1 := cl_ge (s := s) hq
  have b2 := cl_lt (s := s) hq
  have lt_of : ∀ {u v : Int}, u * q < v * q → u < v := fun h => Int.lt_of_mul_lt_mul_right h (Int.le_of_lt hq)
  have c1 : -(-s / q) - 1 < s / q + 1 := lt_of (Int.lt_trans b2 a2)
  by_cases e : s / q * q = s
  · rw [decide_eq_true e]
    have c2 : -(-s / q) - 1 < s / q := lt_of (by rw [e]; exact b2)
    have c3 : s / q - 1 < -(-s / q) := lt_of (Int.lt_of_lt_of_le (by rw [Int.sub_mul, Int.one_mul, e]; omega) b1)
    show _ = s / q + 0
    omega
  · rw [decide_eq_false e]
    have c3 : s / q < -(-s / q) := lt_of (by omega)
    show _ = s / q + 1
    omega
end Cm

namespace K01
open PySem PySem.Spec PyProof.Rows L2 Evl Cm
def topS (i : Nat) : Stmt := PySem.Challenge.pw_portolan_k01_enclosures_and_fractions.main.body.getD i (.Pass ⟨0, 0, 0, 0⟩)
abbrev s_of_fraction : Stmt := topS 1
theorem sc_of_fraction : FnScope ["bits", "p", "q", "scaled"] ["bits", "p", "q"] (defScope s_of_fraction) := ⟨rfl, rfl, rfl, by decide +kernel, rfl, by decide +kernel, by decide +kernel⟩
abbrev s_hull : Stmt := topS 2
theorem sc_hull : FnScope ["a", "b"] ["a", "b"] (defScope s_hull) := ⟨rfl, rfl, rfl, by decide +kernel, rfl, by decide +kernel, by decide +kernel⟩
abbrev s_common : Stmt := topS 3
theorem sc_common : FnScope ["a", "b", "low", "high"] ["a", "b"] (defScope s_common) := ⟨rfl, rfl, rfl, by decide +kernel, rfl, by decide +kernel, by decide +kernel⟩
abbrev s_is_within : Stmt := topS 4
theorem sc_is_within : FnScope ["a", "b"] ["a", "b"] (defScope s_is_within) := ⟨rfl, rfl, rfl, by decide +kernel, rfl, by decide +kernel, by decide +kernel⟩
abbrev s_rescaled : Stmt := topS 5
theorem sc_rescaled : FnScope ["a", "bits", "other"] ["a", "bits", "other"] (defScope s_rescaled) := ⟨rfl, rfl, rfl, by decide +kernel, rfl, by decide +kernel, by decide +kernel⟩
abbrev s_contains : Stmt := topS 6
theorem sc_contains : FnScope ["a", "bits", "p", "q"] ["a", "bits", "p", "q"] (defScope s_contains) := ⟨rfl, rfl, rfl, by decide +kernel, rfl, by decide +kernel, by decide +kernel⟩
abbrev s_fewer_bits : Stmt := topS 7
theorem sc_fewer_bits : FnScope ["low", "high", "bits"] ["low", "high", "bits"] (defScope s_fewer_bits) := ⟨rfl, rfl, rfl, by decide +kernel, rfl, by decide +kernel, by decide +kernel⟩
abbrev s_law_cell : Stmt := topS 9
theorem sc_law_cell : FnScope ["script", "k"] ["script", "k"] (defScope s_law_cell) := ⟨rfl, rfl, rfl, by decide +kernel, rfl, by decide +kernel, by decide +kernel⟩
abbrev s_law : Stmt := topS 10
theorem sc_law : FnScope ["script", "one", "two", "bits", "p", "q", "low", "high", "actual", "a", "b", "ends", "shared", "other", "found", "step", "good"] ["script"] (defScope s_law) := ⟨rfl, rfl, rfl, by decide +kernel, rfl, by decide +kernel, by decide +kernel⟩
section
variable {P : Program} {w : World} {K : PySem.W.Frag} {mg : Str → Option Value} {base : Heap}
def spFewer : Sp := fun vs H Q _ => ∃ (x y : Int) (k : Nat), vs = [.int x, .int y, .int (k : Int)] ∧ RetU [.int (x / 2 ^ k), .int (-(-y / 2 ^ k))] H Q
theorem ok_fewer {f : Addr} {fd : FuncData} (F : Fun K "fewer_bits" "fewer_bits" s_fewer_bits f fd) : FnOk P w K mg base CX0 1 f fd ["low", "high", "bits"] spFewer := by
  refine F.ok sc_fewer_bits (fun vs H Q E h => ?_) (fun cdv A outer s H vs Q E hr h => ?_)
  · obtain ⟨x, y, k, rfl, _⟩ := h
    rfl
  · obtain ⟨x, y, k, rfl, q⟩ := h
    refine ⟨_, (pss_one (ps_ret (pe_tup (pa_cons (pe_op op_shrN (pv 0) (pv 2)) (pa_cons (pe_un un_neg (pe_op op_shrN (pe_un un_neg (pv 1)) (pv 2))) pa_nil))))), ?_⟩
    refine s_retU (eu_tup (ea_cons (ev_op (ev_var rfl) (ev_var rfl) rv_shr) (ea_cons (ev_un (ev_op (ev_un (ev_var rfl) ru_neg) (ev_var rfl) rv_shr) ru_neg) ea_nil)) (show 2 ≤ 100000 by decide)) q
def spFrac : Sp := fun vs H Q _ => ∃ (k : Nat) (p d : Int), vs = [.int (k : Int), .int p, .int d] ∧ CShl p (k : Int) ∧ CDiv 0 d ∧ RetU [.int (p * 2 ^ k / d), .int (-(-(p * 2 ^ k) / d))] H Q
theorem ok_frac {f : Addr} {fd : FuncData} (F : Fun K "of_fraction" "of_fraction" s_of_fraction f fd) : FnOk P w K mg base CX0 1 f fd ["bits", "p", "q"] spFrac := by
  refine F.ok sc_of_fraction (fun vs H Q E h => ?_) (fun cdv A outer s H vs Q E hr h => ?_)
  · obtain ⟨x, y, k, rfl, _⟩ := h
    rfl
  · obtain ⟨k, p, d, rfl, c, hd, q⟩ := h
    refine ⟨_, (pss_cons (ps_set (i := 3) sc_of_fraction.nd rfl (.inl rfl) (pe_op op_shlN (pv 1) (pv 0)))
        (pss_one (ps_ret (pe_tup (pa_cons (pe_op op_fdiv (pv 3) (pv 2)) (pa_cons (pe_un un_neg (pe_op op_fdiv (pe_un un_neg (pv 3)) (pv 2))) pa_nil)))))), ?_⟩
    refine q_asg (ev_op (ev_var rfl) (ev_var rfl) (rv_shl c)) fun H1 e1 => ?_
    refine s_retU (eu_tup (ea_cons (ev_op (ev_var rfl) (ev_var rfl) (rv_I hd)) (ea_cons (ev_un (ev_op (ev_un (ev_var rfl) ru_neg) (ev_var rfl) (rv_I hd)) ru_neg) ea_nil)) (show 2 ≤ 100000 by decide)) fun p H2 n e2 h2 => q p H2 (fresh_back e1 n) (e1.trans e2) h2
def spHull (K : PySem.W.Frag) : Sp := fun vs H Q _ => ∃ (p r : Addr) (a b c d : Int), vs = [.ref p, .ref r] ∧ SqT K H p [.int a, .int b] ∧ SqT K H r [.int c, .int d] ∧ RetU [.int (min a c), .int (max b d)] H Q
theorem ok_hull {f : Addr} {fd : FuncData} (F : Fun K "hull" "hull" s_hull f fd) (m_min : mg "min" = none) (m_max : mg "max" = none) : FnOk P w K mg base CX0 1 f fd ["a", "b"] (spHull K) := by
  refine F.ok sc_hull (fun vs H Q E h => ?_) (fun cdv A outer s H vs Q E hr h => ?_)
  · obtain ⟨p, r, a, b, c, d, rfl, _⟩ := h
    rfl
  · obtain ⟨p, r, a, b, c, d, rfl, t_a, t_b, q⟩ := h
    refine ⟨_, (pss_one (ps_ret (pe_tup (pa_cons (pe_callB (call_min2 rfl) (by rfl) m_min (by decide +kernel) (pa_cons (pe_ix ix_tup (pv 0) pe_int (fun _ _ => rfl)) (pa_cons (pe_ix ix_tup (pv 1) pe_int (fun _ _ => rfl)) pa_nil))) (pa_cons (pe_callB (call_max2 rfl) (by rfl) m_max (by decide +kernel) (pa_cons (pe_ix ix_tup (pv 0) pe_int (fun _ _ => rfl)) (pa_cons (pe_ix ix_tup (pv 1) pe_int (fun _ _ => rfl)) pa_nil))) pa_nil))))), ?_⟩
    refine s_retU (eu_tup (ea_cons (ev_cb (ea_cons (ev_op (ev_var rfl) ev_c (rv_ixT t_a rfl)) (ea_cons (ev_op (ev_var rfl) ev_c (rv_ixT t_b rfl)) ea_nil)) rc_min2) (ea_cons (ev_cb (ea_cons (ev_op (ev_var rfl) ev_c (rv_ixT t_a rfl)) (ea_cons (ev_op (ev_var rfl) ev_c (rv_ixT t_b rfl)) ea_nil)) rc_max2) ea_nil)) (show 2 ≤ 100000 by decide)) q
def spCommon (K : PySem.W.Frag) : Sp := fun vs H Q _ => ∃ (p r : Addr) (a b c d : Int), vs = [.ref p, .ref r] ∧ SqT K H p [.int a, .int b] ∧ SqT K H r [.int c, .int d] ∧
  (min b d < max a c → RetV .non H Q) ∧ (¬ min b d < max a c → RetU [.int (max a c), .int (min b d)] H Q)
theorem ok_common {f : Addr} {fd : FuncData} (F : Fun K "common" "common" s_common f fd) (m_min : mg "min" = none) (m_max : mg "max" = none) : FnOk P w K mg base CX0 1 f fd ["a", "b"] (spCommon K) := by
  refine F.ok sc_common (fun vs H Q E h => ?_) (fun cdv A outer s H vs Q E hr h => ?_)
  · obtain ⟨p, r, a, b, c, d, rfl, _⟩ := h
    rfl
  · obtain ⟨p, r, a, b, c, d, rfl, t_a, t_b, q1, q2⟩ := h
    refine ⟨_, (pss_cons (ps_set (i := 2) sc_common.nd rfl (.inl rfl) (pe_callB (call_max2 rfl) (by rfl) m_max (by decide +kernel) (pa_cons (pe_ix ix_tup (pv 0) pe_int (fun _ _ => rfl)) (pa_cons (pe_ix ix_tup (pv 1) pe_int (fun _ _ => rfl)) pa_nil))))
        (pss_cons (ps_set (i := 3) sc_common.nd rfl (.inl rfl) (pe_callB (call_min2 rfl) (by rfl) m_min (by decide +kernel) (pa_cons (pe_ix ix_tup (pv 0) pe_int (fun _ _ => rfl)) (pa_cons (pe_ix ix_tup (pv 1) pe_int (fun _ _ => rfl)) pa_nil))))
        (pss_cons (ps_if (pt_cmpR op_gt (pv 2) (pv 3) (nomark _)) (pss_one (ps_ret pe_non)) pss_nil)
        (pss_one (ps_ret (pe_tup (pa_cons (pv 2) (pa_cons (pv 3) pa_nil)))))))), ?_⟩
    refine q_asg (ev_cb (ea_cons (ev_op (ev_var rfl) ev_c (rv_ixT t_a rfl)) (ea_cons (ev_op (ev_var rfl) ev_c (rv_ixT t_b rfl)) ea_nil)) rc_max2) fun H1 e1 => ?_
    replace t_a := ex_t e1 t_a
    replace t_b := ex_t e1 t_b
    refine q_asg (ev_cb (ea_cons (ev_op (ev_var rfl) ev_c (rv_ixT t_a rfl)) (ea_cons (ev_op (ev_var rfl) ev_c (rv_ixT t_b rfl)) ea_nil)) rc_min2) fun H2 e2 => ?_
    refine q_when (et_test (ev_op (ev_var rfl) (ev_var rfl) rv_I0)) (fun hb H3 e3 => ?_) (fun hb H3 e3 => ?_)
    · exact s_ret ev_c fun H4 e4 => q1 (of_decide_eq_true hb) H4 (((e1.trans e2).trans e3).trans e4)
    · exact s_retU (eu_tup (ea_cons (ev_var rfl) (ea_cons (ev_var rfl) ea_nil)) (show 2 ≤ 100000 by decide)) fun p H4 n e4 h => RetU.go (q2 (of_decide_eq_false hb)) ((e1.trans e2).trans e3) n e4 h
def spIsin (K : PySem.W.Frag) : Sp := fun vs H Q _ => ∃ (p r : Addr) (a b c d : Int), vs = [.ref p, .ref r] ∧ SqT K H p [.int a, .int b] ∧ SqT K H r [.int c, .int d] ∧ RetV (.bl (decide (c ≤ a) && decide (b ≤ d))) H Q
theorem ok_isin {f : Addr} {fd : FuncData} (F : Fun K "is_within" "is_within" s_is_within f fd) : FnOk P w K mg base CX0 1 f fd ["a", "b"] (spIsin K) := by
  refine F.ok sc_is_within (fun vs H Q E h => ?_) (fun cdv A outer s H vs Q E hr h => ?_)
  · obtain ⟨p, r, a, b, c, d, rfl, _⟩ := h
    rfl
  · obtain ⟨p, r, a, b, c, d, rfl, t_a, t_b, q⟩ := h
    refine ⟨_, (pss_one (ps_ret (pe_and (pe_cmpR op_le (pe_ix ix_tup (pv 1) pe_int (fun _ _ => rfl)) (pe_ix ix_tup (pv 0) pe_int (fun _ _ => rfl)) (nomark _)) (pe_one (pe_cmpR op_le (pe_ix ix_tup (pv 0) pe_int (fun _ _ => rfl)) (pe_ix ix_tup (pv 1) pe_int (fun _ _ => rfl)) (nomark _)))))), ?_⟩
    exact s_ret (ev_andV (ev_op (ev_op (ev_var rfl) ev_c (rv_ixT t_b rfl)) (ev_op (ev_var rfl) ev_c (rv_ixT t_a rfl)) rv_I0) fun _ => (ev_op (ev_op (ev_var rfl) ev_c (rv_ixT t_a rfl)) (ev_op (ev_var rfl) ev_c (rv_ixT t_b rfl)) rv_I0)) q
def spContains (K : PySem.W.Frag) : Sp := fun vs H Q _ => ∃ (pa : Addr) (x y p d : Int) (k : Nat), vs = [.ref pa, .int (k : Int), .int p, .int d] ∧ SqT K H pa [.int x, .int y] ∧ CMulX x d ∧ CMulX y d ∧ CShl p (k : Int) ∧
  RetV (.bl (decide (x * d ≤ p * 2 ^ k) && decide (p * 2 ^ k ≤ y * d))) H Q
theorem ok_contains {f : Addr} {fd : FuncData} (F : Fun K "contains" "contains" s_contains f fd) : FnOk P w K mg base CX0 1 f fd ["a", "bits", "p", "q"] (spContains K) := by
  refine F.ok sc_contains (fun vs H Q E h => ?_) (fun cdv A outer s H vs Q E hr h => ?_)
  · obtain ⟨pa, x, y, p, d, k, rfl, _⟩ := h
    rfl
  · obtain ⟨pa, x, y, p, d, k, rfl, t_a, c1, c2, c3, q⟩ := h
    refine ⟨_, (pss_one (ps_ret (pe_chain op_le op_le (pe_op op_mulX (pe_ix ix_tup (pv 0) pe_int (fun _ _ => rfl)) (pv 3)) (pe_op op_shlN (pv 2) (pv 1)) (pe_op op_mulX (pe_ix ix_tup (pv 0) pe_int (fun _ _ => rfl)) (pv 3))))), ?_⟩
    exact s_ret (ev_chain (ev_op (ev_op (ev_var rfl) ev_c (rv_ixT t_a rfl)) (ev_var rfl) (rv_I c1)) (ev_op (ev_var rfl) (ev_var rfl) (rv_shl c3)) (ev_op (ev_op (ev_var rfl) ev_c (rv_ixT t_a rfl)) (ev_var rfl) (rv_I c2)) rv_I0 rv_I0) q
def spRescaled (K : PySem.W.Frag) : Sp := fun vs H Q _ => ∃ (pa : Addr) (x y : Int) (k o : Nat), vs = [.ref pa, .int (k : Int), .int (o : Int)] ∧ SqT K H pa [.int x, .int y] ∧
  (k ≤ o → CShl x ((o - k : Nat) : Int) ∧ CShl y ((o - k : Nat) : Int) ∧ RetU [.int (x * 2 ^ (o - k)), .int (y * 2 ^ (o - k))] H Q) ∧ (¬ k ≤ o → RetU [.int (x / 2 ^ (k - o)), .int (-(-y / 2 ^ (k - o)))] H Q)
theorem ok_rescaled {f fF : Addr} {fd fdF : FuncData} (F : Fun K "rescaled" "rescaled" s_rescaled f fd) (F_fewer_bits : Fun K "fewer_bits" "fewer_bits" s_fewer_bits fF fdF) (b_fewer_bits : Binds K fdF ["low", "high", "bits"] []) (g_fewer_bits : mg "fewer_bits" = some (.ref fF)) :
    FnOk P w K mg base CX0 2 f fd ["a", "bits", "other"] (spRescaled K) := by
  have G_fewer_bits : FnOk P w K mg base CX0 1 fF fdF ["low", "high", "bits"] spFewer := ok_fewer F_fewer_bits
  refine F.ok sc_rescaled (fun vs H Q E h => ?_) (fun cdv A outer s H vs Q E hr h => ?_)
  · obtain ⟨pa, x, y, k, o, rfl, _⟩ := h
    rfl
  · obtain ⟨pa, x, y, k, o, rfl, t_a, q1, q2⟩ := h
    refine ⟨_, (pss_cons (ps_if (pt_cmpR op_ge (pv 2) (pv 1) (nomark _)) (pss_one (ps_ret (pe_tup (pa_cons (pe_op op_shlN (pe_ix ix_tup (pv 0) pe_int (fun _ _ => rfl)) (pe_op op_sub (pv 2) (pv 1))) (pa_cons (pe_op op_shlN (pe_ix ix_tup (pv 0) pe_int (fun _ _ => rfl)) (pe_op op_sub (pv 2) (pv 1))) pa_nil))))) pss_nil)
        (pss_one (ps_ret (pe_call G_fewer_bits (hr.mono (by decide)) (by rfl) g_fewer_bits F_fewer_bits.kp b_fewer_bits .nil pass0 (pa_cons (pe_ix ix_tup (pv 0) pe_int (fun _ _ => rfl)) (pa_cons (pe_ix ix_tup (pv 0) pe_int (fun _ _ => rfl)) (pa_cons (pe_op op_sub (pv 1) (pv 2)) pa_nil))))))), ?_⟩
    refine q_when (et_test (ev_op (ev_var rfl) (ev_var rfl) rv_I0)) (fun hb H1 e1 => ?_) (fun hb H1 e1 => ?_)
    · have hk : k ≤ o := by
        have := of_decide_eq_true hb
        omega
      obtain ⟨c1, c2, q⟩ := q1 hk
      replace t_a := ex_t e1 t_a
      have ee : ((o : Int) - (k : Int)) = ((o - k : Nat) : Int) := by omega
      exact s_retU (eu_tup (ea_cons (ev_op (ev_op (ev_var rfl) ev_c (rv_ixT t_a rfl)) (ev_is (ev_op (ev_var rfl) (ev_var rfl) rv_I0) (congrArg V.int ee)) (rv_shl c1)) (ea_cons (ev_op (ev_op (ev_var rfl) ev_c (rv_ixT t_a rfl)) (ev_is (ev_op (ev_var rfl) (ev_var rfl) rv_I0) (congrArg V.int ee)) (rv_shl c2)) ea_nil)) (show 2 ≤ 100000 by decide)) fun p H4 n e4 h => RetU.go q e1 n e4 h
    · have hk : ¬ k ≤ o := by
        have := of_decide_eq_false hb
        omega
      have q := q2 hk
      replace t_a := ex_t e1 t_a
      have ee : ((k : Int) - (o : Int)) = ((k - o : Nat) : Int) := by omega
      exact s_retU (eu_call (ea_cons (ev_op (ev_var rfl) ev_c (rv_ixT t_a rfl)) (ea_cons (ev_op (ev_var rfl) ev_c (rv_ixT t_a rfl)) (ea_cons (ev_is (ev_op (ev_var rfl) (ev_var rfl) rv_I0) (congrArg V.int ee)) ea_nil))) (fun H2 e2 Q2 k2 E2 => ⟨x, y, k - o, rfl, k2⟩)) fun p H4 n e4 h => RetU.go q e1 n e4 h
theorem ok_cell {f : Addr} {fd : FuncData} (F : Fun K "_law_cell" "_law_cell" s_law_cell f fd) (m_len : mg "len" = none) : FnOk P w K mg base CX0 1 f fd ["script", "k"] (spCell K) := by
  refine F.ok sc_law_cell (fun vs H Q E h => ?_) (fun cdv A outer s H vs Q E hr h => ?_)
  · obtain ⟨l, ns, j, rfl, _⟩ := h
    rfl
  · obtain ⟨l, ns, j, rfl, hs, q⟩ := h
    refine ⟨_, (pss_cons (ps_if (pt_cmpR op_lt (pv 1) (pe_callB call_len (by rfl) m_len (by decide +kernel) (pa_cons (pv 0) pa_nil)) (nomark _)) (pss_one (ps_ret (pe_ix ix_list (pv 0) (pv 1) (fun _ _ => rfl)))) pss_nil)
        (pss_one (ps_ret pe_int))), ?_⟩
    refine ⟨_, rfl, _, rfl, .ref l, ((ns.map V.int).length : Nat), rfl, .inl ⟨_, hs, rfl⟩, _, _, rfl, rfl, _, rfl, ite2 (fun e => ?_) (fun e => ?_)⟩
    · have hj : j < ns.length := by
        have := of_decide_eq_true e
        rw [List.length_map] at this
        omega
      exact ⟨_, rfl, _, rfl, l, _, _, _, rfl, rfl, hs, atI_cell hj, q⟩
    · have hj : ¬ j < ns.length := fun z => e (decide_eq_true (by rw [List.length_map]; omega))
      rw [cell_out hj] at q
      exact q
def spLaw (K : PySem.W.Frag) : Sp := fun vs H Q _ => ∃ (a : Addr) (ns : List Int), vs = [.ref a] ∧ SqL K H a (ns.map V.int) ∧ ns.length ≤ 63 ∧ ∀ H', Q (.bl true) H'
theorem item3 {i : Int} (h : 0 ≤ i ∧ i < 3) : ∃ c : Int, atI [V.int 3, V.int 97, V.int 100019] i = some (.int c) ∧ 0 < c ∧ c ≤ 100019 := by
  have h3 : i = 0 ∨ i = 1 ∨ i = 2 := by omega
  rcases h3 with rfl | rfl | rfl
  · exact ⟨3, rfl, by decide, by decide⟩
  · exact ⟨97, rfl, by decide, by decide⟩
  · exact ⟨100019, rfl, by decide, by decide⟩
/-- where contains says b -/
theorem contains_is {pa : Addr} {x y p d : Int} {k : Nat} {H : Hp} {b : Bool} (h : SqT K H pa [.int x, .int y]) (hx : Bd 400 x) (hy : Bd 400 y) (hp : Bd 400 p) (hd : Bd 400 d) (hk : k ≤ 400)
    (hb : (decide (x * d ≤ p * 2 ^ k) && decide (p * 2 ^ k ≤ y * d)) = b) : SpV (spContains K) [.ref pa, .int (k : Int), .int p, .int d] H (.bl b) := fun H1 e Q q E =>
  ⟨pa, x, y, p, d, k, rfl, ex_t e h, mulx_ok hx hd (by decide), mulx_ok hy hd (by decide), shl_ok hp (by omega), by rw [hb]; exact q⟩


theorem near {x y : Int} (h : Bd 300 x) (hn : (y - x).natAbs ≤ 100) : Bd 400 y :=
  Nat.lt_of_lt_of_le (show y.natAbs < 2 ^ 300 + 100 by unfold Bd at h; generalize 2 ^ 300 = B at *; omega) (by decide)
theorem yes {s d low high x y : Int} (hd : 0 < d) (m1 : low * d ≤ s) (m3 : s ≤ high * d) (hx : x ≤ low) (hy : high ≤ y) : (decide (x * d ≤ s) && decide (s ≤ y * d)) = true := by
  have := mul_le_r hx hd
  have := mul_le_r hy hd
  rw [decide_eq_true (show x * d ≤ s by omega), decide_eq_true (show s ≤ y * d by omega)]
  rfl
theorem no1 {s d high x y : Int} (hd : 0 < d) (m3 : s ≤ high * d) (hx : high < x) : (decide (x * d ≤ s) && decide (s ≤ y * d)) = false := by
  have := Int.mul_lt_mul_of_pos_right hx hd
  rw [decide_eq_false (show ¬ x * d ≤ s by omega)]
  rfl
theorem no2 {s d low x y : Int} (hd : 0 < d) (m1 : low * d ≤ s) (hy : y < low) : (decide (x * d ≤ s) && decide (s ≤ y * d)) = false := by
  have := Int.mul_lt_mul_of_pos_right hy hd
  rw [decide_eq_false (show ¬ s ≤ y * d by omega), Bool.and_false]
theorem same_false (b : V) : (!decide (b = b)) = false := by rw [decide_eq_true rfl]; rfl
theorem q_asgP {σ : L2.St} {H : Hp} {te : TE} {D : Ends} {tz : TS} {i : Nat} (P : V → Hp → Prop) (h : ∀ Q : VK, (∀ v H1, Ex H H1 → P v H1 → Q v H1) → te σ H Q) (k : ∀ v H1, Ex H H1 → P v H1 → tz D (σ.set i (some v)) H1) : tSeq (tAsg te (gName i)) tz D σ H := h _ k
theorem ok_law {f f0 f1 f2 f3 f4 f5 f6 f7 : Addr} {fd fd0 fd1 fd2 fd3 fd4 fd5 fd6 fd7 : FuncData} (F : Fun K "law" "law" s_law f fd)
    (F_of_fraction : Fun K "of_fraction" "of_fraction" s_of_fraction f0 fd0) (F_hull : Fun K "hull" "hull" s_hull f1 fd1) (F_common : Fun K "common" "common" s_common f2 fd2) (F_is_within : Fun K "is_within" "is_within" s_is_within f3 fd3)
    (F_rescaled : Fun K "rescaled" "rescaled" s_rescaled f4 fd4) (F_contains : Fun K "contains" "contains" s_contains f5 fd5) (F_fewer_bits : Fun K "fewer_bits" "fewer_bits" s_fewer_bits f6 fd6) (F_law_cell : Fun K "_law_cell" "_law_cell" s_law_cell f7 fd7)
    (b_of_fraction : Binds K fd0 ["bits", "p", "q"] []) (b_hull : Binds K fd1 ["a", "b"] []) (b_common : Binds K fd2 ["a", "b"] []) (b_is_within : Binds K fd3 ["a", "b"] []) (b_rescaled : Binds K fd4 ["a", "bits", "other"] []) (b_contains : Binds K fd5 ["a", "bits", "p", "q"] [])
    (b_fewer_bits : Binds K fd6 ["low", "high", "bits"] []) (b_law_cell : Binds K fd7 ["script", "k"] [])
    (g_of_fraction : mg "of_fraction" = some (.ref f0)) (g_hull : mg "hull" = some (.ref f1)) (g_common : mg "common" = some (.ref f2)) (g_is_within : mg "is_within" = some (.ref f3)) (g_rescaled : mg "rescaled" = some (.ref f4)) (g_contains : mg "contains" = some (.ref f5))
    (g_fewer_bits : mg "fewer_bits" = some (.ref f6)) (g_law_cell : mg "_law_cell" = some (.ref f7))
    (m_len : mg "len" = none) (m_abs : mg "abs" = none) (m_min : mg "min" = none) (m_max : mg "max" = none) (m_int : mg "int" = none) (m_isinstance : mg "isinstance" = none) (m_tuple : mg "tuple" = none) : FnOk P w K mg base CX0 3 f fd ["script"] (spLaw K) := by
  have G_of_fraction : FnOk P w K mg base CX0 1 f0 fd0 _ spFrac := ok_frac F_of_fraction
  have G_hull : FnOk P w K mg base CX0 1 f1 fd1 _ (spHull K) := ok_hull F_hull m_min m_max
  have G_common : FnOk P w K mg base CX0 1 f2 fd2 _ (spCommon K) := ok_common F_common m_min m_max
  have G_is_within : FnOk P w K mg base CX0 1 f3 fd3 _ (spIsin K) := ok_isin F_is_within
  have G_rescaled : FnOk P w K mg base CX0 2 f4 fd4 _ (spRescaled K) := ok_rescaled F_rescaled F_fewer_bits b_fewer_bits g_fewer_bits
  have G_contains : FnOk P w K mg base CX0 1 f5 fd5 _ (spContains K) := ok_contains F_contains
  have G_law_cell : FnOk P w K mg base CX0 1 f7 fd7 _ (spCell K) := ok_cell F_law_cell m_len
  refine F.ok sc_law (fun vs H Q E h => ?_) (fun cdv A outer s H vs Q E hr h => ?_)
  · obtain ⟨a, ns, rfl, _⟩ := h
    rfl
  · obtain ⟨sa, ns, rfl, hS, hl, fin⟩ := h
    refine ⟨_, (pss_cons (ps_set (i := 1) sc_law.nd rfl (.inl rfl) (pe_call G_law_cell (hr.mono (by decide)) (by rfl) g_law_cell F_law_cell.kp b_law_cell .nil pass0 (pa_cons (pv 0) (pa_cons pe_int pa_nil))))
        (pss_cons (ps_set (i := 2) sc_law.nd rfl (.inl rfl) (pe_call G_law_cell (hr.mono (by decide)) (by rfl) g_law_cell F_law_cell.kp b_law_cell .nil pass0 (pa_cons (pv 0) (pa_cons pe_int pa_nil))))
        (pss_cons (ps_set (i := 3) sc_law.nd rfl (.inl rfl) (pe_op op_mod (pe_callB call_abs (by rfl) m_abs (by decide +kernel) (pa_cons (pv 1) pa_nil)) pe_int))
        (pss_cons (ps_set (i := 4) sc_law.nd rfl (.inl rfl) (pe_op op_sub (pe_op op_mod (pe_op op_fdiv (pv 2) pe_int) pe_int) pe_int))
        (pss_cons (ps_set (i := 5) sc_law.nd rfl (.inl rfl) (pe_op op_add pe_int (pe_op op_mod (pe_op op_fdiv (pe_callB call_abs (by rfl) m_abs (by decide +kernel) (pa_cons (pv 1) pa_nil)) pe_int) (pe_ix ix_list (pe_lst (pa_cons pe_int (pa_cons pe_int (pa_cons pe_int pa_nil)))) (pe_op op_mod (pe_callB call_abs (by rfl) m_abs (by decide +kernel) (pa_cons (pv 2) pa_nil)) pe_int) (fun _ _ => rfl)))))
        (pss_cons (ps_set (i := 6) sc_law.nd rfl (.inl rfl) (pe_op op_fdiv (pe_op op_shlN (pv 4) (pv 3)) (pv 5)))
        (pss_cons (ps_set (i := 7) sc_law.nd rfl (.inl rfl) (pe_op op_add (pv 6) (pe_callTy call_int1 (by rfl) m_int (by decide +kernel) (pa_cons (pe_cmpR op_ne (pe_op op_mulX (pv 6) (pv 5)) (pe_op op_shlN (pv 4) (pv 3)) (nomark _)) pa_nil))))
        (pss_cons (ps_set (i := 8) sc_law.nd rfl (.inl rfl) (pe_call G_of_fraction (hr.mono (by decide)) (by rfl) g_of_fraction F_of_fraction.kp b_of_fraction .nil pass0 (pa_cons (pv 3) (pa_cons (pv 4) (pa_cons (pv 5) pa_nil)))))
        (pss_cons (ps_if (PW.pt (pw_or (pt_not (pt_val (pe_callB call_isi (by rfl) m_isinstance (by decide +kernel) (pa_cons (pv 8) (pa_cons (pe_bltn (by rfl) m_tuple (by decide +kernel) (show RelV (.ty "tuple") _ from rfl)) pa_nil))))) (pw_or1 (pt_cmpR (op_neD hr.units) (pv 8) (pe_tup (pa_cons (pv 6) (pa_cons (pv 7) pa_nil))) (nomark _))))) (pss_one (ps_ret pe_bl)) pss_nil)
        (pss_cons (ps_set (i := 9) sc_law.nd rfl (.inl rfl) (pe_tup (pa_cons (pe_op op_sub (pv 6) (pe_op op_mod (pe_op op_fdiv (pe_callB call_abs (by rfl) m_abs (by decide +kernel) (pa_cons (pv 2) pa_nil)) pe_int) pe_int)) (pa_cons (pe_op op_add (pv 7) (pe_op op_mod (pe_op op_fdiv (pe_callB call_abs (by rfl) m_abs (by decide +kernel) (pa_cons (pv 2) pa_nil)) pe_int) pe_int)) pa_nil))))
        (pss_cons (ps_set (i := 10) sc_law.nd rfl (.inl rfl) (pe_tup (pa_cons (pe_op op_sub (pe_op op_add (pv 6) (pe_op op_mod (pe_op op_fdiv (pe_callB call_abs (by rfl) m_abs (by decide +kernel) (pa_cons (pv 2) pa_nil)) pe_int) pe_int)) pe_int) (pa_cons (pe_op op_add (pe_op op_sub (pe_op op_add (pv 6) (pe_op op_mod (pe_op op_fdiv (pe_callB call_abs (by rfl) m_abs (by decide +kernel) (pa_cons (pv 2) pa_nil)) pe_int) pe_int)) pe_int) (pe_op op_mod (pe_op op_fdiv (pe_callB call_abs (by rfl) m_abs (by decide +kernel) (pa_cons (pv 2) pa_nil)) pe_int) pe_int)) pa_nil))))
        (pss_cons (ps_if (PW.pt (pw_or (pt_cmpR op_notBl (pe_call G_contains (hr.mono (by decide)) (by rfl) g_contains F_contains.kp b_contains .nil pass0 (pa_cons (pv 9) (pa_cons (pv 3) (pa_cons (pv 4) (pa_cons (pv 5) pa_nil))))) pe_bl (nomark _)) (pw_or (pt_cmpR op_notBl (pe_call G_contains (hr.mono (by decide)) (by rfl) g_contains F_contains.kp b_contains .nil pass0 (pa_cons (pe_tup (pa_cons (pe_op op_add (pv 7) pe_int) (pa_cons (pe_op op_add (pv 7) pe_int) pa_nil))) (pa_cons (pv 3) (pa_cons (pv 4) (pa_cons (pv 5) pa_nil))))) pe_bl (nomark _)) (pw_or1 (pt_cmpR op_notBl (pe_call G_contains (hr.mono (by decide)) (by rfl) g_contains F_contains.kp b_contains .nil pass0 (pa_cons (pe_tup (pa_cons (pe_op op_sub (pv 6) pe_int) (pa_cons (pe_op op_sub (pv 6) pe_int) pa_nil))) (pa_cons (pv 3) (pa_cons (pv 4) (pa_cons (pv 5) pa_nil))))) pe_bl (nomark _)))))) (pss_one (ps_ret pe_bl)) pss_nil)
        (pss_cons (ps_if (pt_cmpR op_ne (pe_call G_contains (hr.mono (by decide)) (by rfl) g_contains F_contains.kp b_contains .nil pass0 (pa_cons (pv 10) (pa_cons (pv 3) (pa_cons (pv 4) (pa_cons (pv 5) pa_nil))))) (pe_and (pe_cmpR op_le (pe_op op_mulX (pe_ix ix_tup (pv 10) pe_int (fun _ _ => rfl)) (pv 5)) (pe_op op_shlN (pv 4) (pv 3)) (nomark _)) (pe_one (pe_cmpR op_le (pe_op op_shlN (pv 4) (pv 3)) (pe_op op_mulX (pe_ix ix_tup (pv 10) pe_int (fun _ _ => rfl)) (pv 5)) (nomark _)))) (nomark _)) (pss_one (ps_ret pe_bl)) pss_nil)
        (pss_cons (ps_set (i := 11) sc_law.nd rfl (.inl rfl) (pe_tup (pa_cons (pe_callB (call_max2 rfl) (by rfl) m_max (by decide +kernel) (pa_cons (pe_ix ix_tup (pv 9) pe_int (fun _ _ => rfl)) (pa_cons (pe_ix ix_tup (pv 10) pe_int (fun _ _ => rfl)) pa_nil))) (pa_cons (pe_callB (call_min2 rfl) (by rfl) m_min (by decide +kernel) (pa_cons (pe_ix ix_tup (pv 9) pe_int (fun _ _ => rfl)) (pa_cons (pe_ix ix_tup (pv 10) pe_int (fun _ _ => rfl)) pa_nil))) pa_nil))))
        (pss_cons (ps_set (i := 12) sc_law.nd rfl (.inl rfl) (pe_call G_common (hr.mono (by decide)) (by rfl) g_common F_common.kp b_common .nil pass0 (pa_cons (pv 9) (pa_cons (pv 10) pa_nil))))
        (pss_cons (ps_if (PW.pt (pw_or (pt_cmpR op_ne (pe_cmpR op_isN (pv 12) pe_non (nomark _)) (pe_cmpR op_gt (pe_ix ix_tup (pv 11) pe_int (fun _ _ => rfl)) (pe_ix ix_tup (pv 11) pe_int (fun _ _ => rfl)) (nomark _)) (nomark _)) (pw_or1 (PW.pt (pw_and (pt_cmpR op_notN (pv 12) pe_non (nomark _)) (pw_and1 (pt_cmpR (op_neD hr.units) (pv 12) (pv 11) (nomark _)))))))) (pss_one (ps_ret pe_bl)) pss_nil)
        (pss_cons (ps_if (PW.pt (pw_or (pt_cmpR (op_neD hr.units) (pe_call G_hull (hr.mono (by decide)) (by rfl) g_hull F_hull.kp b_hull .nil pass0 (pa_cons (pv 9) (pa_cons (pv 10) pa_nil))) (pe_tup (pa_cons (pe_callB (call_min2 rfl) (by rfl) m_min (by decide +kernel) (pa_cons (pe_ix ix_tup (pv 9) pe_int (fun _ _ => rfl)) (pa_cons (pe_ix ix_tup (pv 10) pe_int (fun _ _ => rfl)) pa_nil))) (pa_cons (pe_callB (call_max2 rfl) (by rfl) m_max (by decide +kernel) (pa_cons (pe_ix ix_tup (pv 9) pe_int (fun _ _ => rfl)) (pa_cons (pe_ix ix_tup (pv 10) pe_int (fun _ _ => rfl)) pa_nil))) pa_nil))) (nomark _)) (pw_or1 (pt_cmpR op_notBl (pe_call G_is_within (hr.mono (by decide)) (by rfl) g_is_within F_is_within.kp b_is_within .nil pass0 (pa_cons (pv 9) (pa_cons (pe_call G_hull (hr.mono (by decide)) (by rfl) g_hull F_hull.kp b_hull .nil pass0 (pa_cons (pv 9) (pa_cons (pv 10) pa_nil))) pa_nil))) pe_bl (nomark _))))) (pss_one (ps_ret pe_bl)) pss_nil)
        (pss_cons (ps_if (pt_cmpR op_ne (pe_call G_is_within (hr.mono (by decide)) (by rfl) g_is_within F_is_within.kp b_is_within .nil pass0 (pa_cons (pv 9) (pa_cons (pv 10) pa_nil))) (pe_and (pe_cmpR op_le (pe_ix ix_tup (pv 10) pe_int (fun _ _ => rfl)) (pe_ix ix_tup (pv 9) pe_int (fun _ _ => rfl)) (nomark _)) (pe_one (pe_cmpR op_le (pe_ix ix_tup (pv 9) pe_int (fun _ _ => rfl)) (pe_ix ix_tup (pv 10) pe_int (fun _ _ => rfl)) (nomark _)))) (nomark _)) (pss_one (ps_ret pe_bl)) pss_nil)
        (pss_cons (ps_set (i := 13) sc_law.nd rfl (.inl rfl) (pe_op op_mod (pe_op op_fdiv (pe_callB call_abs (by rfl) m_abs (by decide +kernel) (pa_cons (pv 2) pa_nil)) pe_int) pe_int))
        (pss_cons (ps_set (i := 14) sc_law.nd rfl (.inl rfl) (pe_call G_rescaled (hr.mono (by decide)) (by rfl) g_rescaled F_rescaled.kp b_rescaled .nil pass0 (pa_cons (pv 9) (pa_cons (pv 3) (pa_cons (pv 13) pa_nil)))))
        (pss_cons (ps_if (pt_cmpR op_ge (pv 13) (pv 3) (nomark _)) (pss_one (ps_ret (pe_cmpR (op_eqD hr.units) (pv 14) (pe_tup (pa_cons (pe_op op_shlN (pe_ix ix_tup (pv 9) pe_int (fun _ _ => rfl)) (pe_op op_sub (pv 13) (pv 3))) (pa_cons (pe_op op_shlN (pe_ix ix_tup (pv 9) pe_int (fun _ _ => rfl)) (pe_op op_sub (pv 13) (pv 3))) pa_nil))) (nomark _)))) pss_nil)
        (pss_cons (ps_set (i := 15) sc_law.nd rfl (.inl rfl) (pe_op op_shlN pe_int (pe_op op_sub (pv 3) (pv 13))))
        (pss_cons (ps_set (i := 16) sc_law.nd rfl (.inl rfl) (pe_and (pe_cmpR op_le (pe_op op_mulX (pe_ix ix_tup (pv 14) pe_int (fun _ _ => rfl)) (pv 15)) (pe_ix ix_tup (pv 9) pe_int (fun _ _ => rfl)) (nomark _)) (pe_one (pe_cmpR op_lt (pe_ix ix_tup (pv 9) pe_int (fun _ _ => rfl)) (pe_op op_mulX (pe_op op_add (pe_ix ix_tup (pv 14) pe_int (fun _ _ => rfl)) pe_int) (pv 15)) (nomark _)))))
        (pss_one (ps_ret (pe_and (pv 16) (pe_and (pe_cmpR op_le (pe_ix ix_tup (pv 9) pe_int (fun _ _ => rfl)) (pe_op op_mulX (pe_ix ix_tup (pv 14) pe_int (fun _ _ => rfl)) (pv 15)) (nomark _)) (pe_one (pe_cmpR op_lt (pe_op op_mulX (pe_op op_sub (pe_ix ix_tup (pv 14) pe_int (fun _ _ => rfl)) pe_int) (pv 15)) (pe_ix ix_tup (pv 9) pe_int (fun _ _ => rfl)) (nomark _)))))))))))))))))))))))))))))), ?_⟩
    -- one, two
    refine q_asg (ev_call (z := .int (cellOf ns 0)) (ea_cons (ev_var rfl) (ea_cons ev_c ea_nil)) (fun H1 e1 Q1 q1 E1 => ⟨sa, ns, 0, rfl, ex_l e1 hS, q1 H1 (Ex.refl H1)⟩)) fun H1 e1 => ?_
    refine st_is (σ' := [_, _, _, _, _, _, _, _, _, _, _, _, _, _, _, _, _]) rfl ?_
    replace hS := ex_l e1 hS
    refine q_asg (ev_call (z := .int (cellOf ns 1)) (ea_cons (ev_var rfl) (ea_cons ev_c ea_nil)) (fun H1 e1 Q1 q1 E1 => ⟨sa, ns, 1, rfl, ex_l e1 hS, q1 H1 (Ex.refl H1)⟩)) fun H2 e2 => ?_
    refine st_is (σ' := [_, _, _, _, _, _, _, _, _, _, _, _, _, _, _, _, _]) rfl ?_
    generalize cellOf ns 0 = one
    generalize cellOf ns 1 = two
    -- bits
    obtain ⟨n, hn, hn2⟩ : ∃ n : Nat, ((one.natAbs : Int) % 201) = (n : Int) ∧ n ≤ 200 := ⟨((one.natAbs : Int) % 201).toNat, by omega, by omega⟩
    refine q_asg (ev_is (ev_op (ev_cb (ea_cons (ev_var rfl) ea_nil) rc_abs) ev_c (rv_I (by decide))) (congrArg V.int hn)) fun H3 e3 => ?_
    refine st_is (σ' := [_, _, _, _, _, _, _, _, _, _, _, _, _, _, _, _, _]) rfl ?_
    -- p
    obtain ⟨p, hp, hp2⟩ : ∃ p : Int, two / 7 % 100003 - 50000 = p ∧ Bd 17 p := ⟨_, rfl, show Int.natAbs _ < 2 ^ 17 by omega⟩
    refine q_asg (ev_is (ev_op (ev_op (ev_op (ev_var rfl) ev_c (rv_I ⟨by decide, by decide⟩)) ev_c (rv_I (by decide))) ev_c rv_I0) (congrArg V.int hp)) fun H4 e4 => ?_
    refine st_is (σ' := [_, _, _, _, _, _, _, _, _, _, _, _, _, _, _, _, _]) rfl ?_
    -- q
    obtain ⟨c, hc, hc0, hc1⟩ := item3 (i := (two.natAbs : Int) % 3) ⟨by omega, by omega⟩
    obtain ⟨d, hd, hd0, hd1⟩ : ∃ d : Int, 1 + (one.natAbs : Int) / 256 % c = d ∧ 0 < d ∧ d ≤ 100019 := ⟨_, rfl, by
      have := Int.emod_nonneg ((one.natAbs : Int) / 256) (show c ≠ 0 by omega)
      have := Int.emod_lt_of_pos ((one.natAbs : Int) / 256) hc0
      omega, by
      have := Int.emod_nonneg ((one.natAbs : Int) / 256) (show c ≠ 0 by omega)
      have := Int.emod_lt_of_pos ((one.natAbs : Int) / 256) hc0
      omega⟩
    refine q_asg (ev_is (ev_op ev_c (ev_op (ev_op (ev_cb (ea_cons (ev_var rfl) ea_nil) rc_abs) ev_c (rv_I ⟨by decide, by decide⟩)) (ev_opL1 (el_lst (ea_cons ev_c (ea_cons ev_c (ea_cons ev_c ea_nil))) (show 3 ≤ 100000 by decide)) (fun _ _ => (ev_op (ev_cb (ea_cons (ev_var rfl) ea_nil) rc_abs) ev_c (rv_I (by decide)))) (fun _ _ hp _ => rv_ixL (sq_of hp) hc)) (rv_I hc0)) rv_I0) (congrArg V.int hd)) fun H5 e5 => ?_
    refine st_is (σ' := [_, _, _, _, _, _, _, _, _, _, _, _, _, _, _, _, _]) rfl ?_
    -- the mathematics
    have hpn : CShl p (n : Int) := shl_ok hp2 (by omega)
    have hcd : CDiv 0 d := ⟨hd0, by omega⟩
    have hs400 : Bd 300 (p * 2 ^ n) := ab_mono (ab_shl hp2) (by omega)
    have hd400 : Bd 300 d := ab_sm (c := 100019) (by omega) (by decide)
    have hp400 : Bd 300 p := ab_mono hp2 (by decide)
    have hlow400 : Bd 300 (p * 2 ^ n / d) := ab_div hd0 hs400
    have m1 := fl_le (s := p * 2 ^ n) hd0
    have m2 := fl_lt (s := p * 2 ^ n) hd0
    have m3 := cl_ge (s := p * 2 ^ n) hd0
    have m4 := cl_lt (s := p * 2 ^ n) hd0
    have m5 := ceil_eq (s := p * 2 ^ n) hd0
    -- low
    refine q_asg (ev_op (ev_op (ev_var rfl) (ev_var rfl) (rv_shl hpn)) (ev_var rfl) (rv_I hcd)) fun H6 e6 => ?_
    refine st_is (σ' := [_, _, _, _, _, _, _, _, _, _, _, _, _, _, _, _, _]) rfl ?_
    -- high
    refine q_asg (ev_is (ev_op (ev_var rfl) (ev_cb (ea_cons (ev_op (ev_op (ev_var rfl) (ev_var rfl) (rv_I (mulx_ok hlow400 hd400 (by decide)))) (ev_op (ev_var rfl) (ev_var rfl) (rv_shl hpn)) (rv_ne rfl)) ea_nil) rc_intB) rv_I0) (w := .int (-(-(p * 2 ^ n) / d))) (by
      rw [m5]
      refine congrArg (fun b : Bool => V.int (p * 2 ^ n / d + if b = true then 1 else 0)) ?_
      by_cases h : p * 2 ^ n / d * d = p * 2 ^ n
      · rw [decide_eq_true h, decide_eq_true (congrArg V.int h)]
      · rw [decide_eq_false h, decide_eq_false fun z => h (V.int.inj z)])) fun H7 e7 => ?_
    refine st_is (σ' := [_, _, _, _, _, _, _, _, _, _, _, _, _, _, _, _, _]) rfl ?_
    generalize hlow : p * 2 ^ n / d = low at *
    generalize hhigh : -(-(p * 2 ^ n) / d) = high at *

    replace m1 : low * d ≤ p * 2 ^ n := m1
    have hh1 : low ≤ high ∧ high ≤ low + 1 := by
      have m6 := m5
      split at m6 <;> omega
    clear m5 m2 m4
    have ha400 : ∀ y : Int, (y - low).natAbs ≤ 100 → Bd 400 y := fun y hy => near hlow400 hy
    have hp4 : Bd 400 p := ab_mono hp400 (by decide)
    have hd4 : Bd 400 d := ab_mono hd400 (by decide)
    -- actual
    refine q_asgU (eu_call (xs := [.int low, .int high]) (ea_cons (ev_var rfl) (ea_cons (ev_var rfl) (ea_cons (ev_var rfl) ea_nil))) (fun H1 e1 Q1 q1 E1 => ⟨n, p, d, rfl, hpn, hcd, by rw [hlow, hhigh]; exact q1⟩)) fun pt H8 np8 e8 t_actual => ?_
    refine st_is (σ' := [_, _, _, _, _, _, _, _, _, _, _, _, _, _, _, _, _]) rfl ?_
    refine q_when (b := false) (et_is (et_or (et_not (et_B (ev_cb (ea_cons (ev_var rfl) (ea_cons ev_c ea_nil)) (rc_isiT t_actual)))) fun _ => (et_test (ev_opU (ev_var rfl) (eu_tup (ea_cons (ev_var rfl) (ea_cons (ev_var rfl) ea_nil)) (show 2 ≤ 100000 by decide)) (fun p1 H1 h1 e1 => rv_neS (dp2 (st_of (ex_app e1 t_actual))) (dp2 (st_of h1)) sh2)))) rfl) (fun hb => nomatch hb) fun _ H9 e9 => ?_
    -- a
    obtain ⟨a0, ha0, ha01, ha02⟩ : ∃ z : Int, low - (two.natAbs : Int) / 11 % 5 = z ∧ z ≤ low ∧ low - 4 ≤ z := ⟨_, rfl, by omega, by omega⟩
    obtain ⟨a1, ha1, ha11, ha12⟩ : ∃ z : Int, high + (two.natAbs : Int) / 61 % 4 = z ∧ high ≤ z ∧ z ≤ high + 3 := ⟨_, rfl, by omega, by omega⟩
    refine q_asgU (eu_tup (ea_cons (ev_is (ev_op (ev_var rfl) (ev_op (ev_op (ev_cb (ea_cons (ev_var rfl) ea_nil) rc_abs) ev_c (rv_I ⟨by decide, by decide⟩)) ev_c (rv_I (by decide))) rv_I0) (congrArg V.int ha0)) (ea_cons (ev_is (ev_op (ev_var rfl) (ev_op (ev_op (ev_cb (ea_cons (ev_var rfl) ea_nil) rc_abs) ev_c (rv_I ⟨by decide, by decide⟩)) ev_c (rv_I (by decide))) rv_I0) (congrArg V.int ha1)) ea_nil)) (show 2 ≤ 100000 by decide)) fun pA H10 n10 e10 t_a => ?_
    refine st_is (σ' := [_, _, _, _, _, _, _, _, _, _, _, _, _, _, _, _, _]) rfl ?_
    -- b
    obtain ⟨b0, hb0, hb01⟩ : ∃ z : Int, low + (two.natAbs : Int) / 311 % 9 - 4 = z ∧ (z - low).natAbs ≤ 4 := ⟨_, rfl, by omega⟩
    obtain ⟨b1, hb1, hb11⟩ : ∃ z : Int, b0 + (two.natAbs : Int) / 3001 % 6 = z ∧ (z - b0).natAbs ≤ 5 := ⟨_, rfl, by omega⟩
    refine q_asgU (eu_tup (ea_cons (ev_is (ev_op (ev_op (ev_var rfl) (ev_op (ev_op (ev_cb (ea_cons (ev_var rfl) ea_nil) rc_abs) ev_c (rv_I ⟨by decide, by decide⟩)) ev_c (rv_I (by decide))) rv_I0) ev_c rv_I0) (congrArg V.int hb0)) (ea_cons (ev_is (ev_op (ev_is (ev_op (ev_op (ev_var rfl) (ev_op (ev_op (ev_cb (ea_cons (ev_var rfl) ea_nil) rc_abs) ev_c (rv_I ⟨by decide, by decide⟩)) ev_c (rv_I (by decide))) rv_I0) ev_c rv_I0) (congrArg V.int hb0)) (ev_op (ev_op (ev_cb (ea_cons (ev_var rfl) ea_nil) rc_abs) ev_c (rv_I ⟨by decide, by decide⟩)) ev_c (rv_I (by decide))) rv_I0) (congrArg V.int hb1)) ea_nil)) (show 2 ≤ 100000 by decide)) fun pB H11 n11 e11 t_b => ?_
    refine st_is (σ' := [_, _, _, _, _, _, _, _, _, _, _, _, _, _, _, _, _]) rfl ?_
    replace t_a := st_of (K := K) (ex_app e11 t_a)
    replace t_b := st_of (K := K) t_b
    have ka0 := ha400 a0 (by omega)
    have ka1 := ha400 a1 (by omega)
    have kb0 := ha400 b0 (by omega)
    have kb1 := ha400 b1 (by omega)
    -- contains thrice
    refine q_when (b := false) (et_is (et_or (a := false) (et_is (et_test (ev_op (ev_call (z := .bl true) (ea_cons (ev_var rfl) (ea_cons (ev_var rfl) (ea_cons (ev_var rfl) (ea_cons (ev_var rfl) ea_nil)))) (contains_is t_a ka0 ka1 hp4 hd4 (by omega) (yes hd0 m1 m3 ha01 ha11))) ev_c rv_notB)) rfl)
      fun _ => (et_or (a := false) (et_is (et_test (ev_op (ev_callU (z := .bl false) (eu_tup (ea_cons (ev_op (ev_var rfl) ev_c rv_I0) (ea_cons (ev_op (ev_var rfl) ev_c rv_I0) ea_nil)) (show 2 ≤ 100000 by decide)) (ea_cons (ev_var rfl) (ea_cons (ev_var rfl) (ea_cons (ev_var rfl) ea_nil))) (fun p1 H1 e1 h1 => contains_is (st_of h1) (ha400 _ (by omega)) (ha400 _ (by omega)) hp4 hd4 (by omega) (no1 hd0 m3 (by omega)))) ev_c rv_notB)) rfl)
      fun _ => (et_is (et_test (ev_op (ev_callU (z := .bl false) (eu_tup (ea_cons (ev_op (ev_var rfl) ev_c rv_I0) (ea_cons (ev_op (ev_var rfl) ev_c rv_I0) ea_nil)) (show 2 ≤ 100000 by decide)) (ea_cons (ev_var rfl) (ea_cons (ev_var rfl) (ea_cons (ev_var rfl) ea_nil))) (fun p1 H1 e1 h1 => contains_is (st_of h1) (ha400 _ (by omega)) (ha400 _ (by omega)) hp4 hd4 (by omega) (no2 hd0 m1 (by omega)))) ev_c rv_notB)) (b := false) rfl))) rfl) (fun hb => nomatch hb) fun _ H12 e12 => ?_
    replace t_a := ex_t e12 t_a
    replace t_b := ex_t e12 t_b
    have cm : ∀ x : Int, Bd 400 x → CMulX x d := fun x hx => mulx_ok hx hd4 (by decide)
    refine q_when (b := false) (et_is (et_test (ev_op (ev_call (ea_cons (ev_var rfl) (ea_cons (ev_var rfl) (ea_cons (ev_var rfl) (ea_cons (ev_var rfl) ea_nil)))) (contains_is t_b kb0 kb1 hp4 hd4 (by omega) rfl)) (ev_andV (ev_op (ev_op (ev_op (ev_var rfl) ev_c (rv_ixT t_b rfl)) (ev_var rfl) (rv_I (cm _ kb0))) (ev_op (ev_var rfl) (ev_var rfl) (rv_shl hpn)) rv_I0) fun _ => (ev_op (ev_op (ev_var rfl) (ev_var rfl) (rv_shl hpn)) (ev_op (ev_op (ev_var rfl) ev_c (rv_ixT t_b rfl)) (ev_var rfl) (rv_I (cm _ kb1))) rv_I0)) (rv_ne rfl))) (same_false _)) (fun hb => nomatch hb) fun _ H13 e13 => ?_
    replace t_a := ex_t e13 t_a
    replace t_b := ex_t e13 t_b
    -- ends
    refine q_asgU (eu_tup (ea_cons (ev_cb (ea_cons (ev_op (ev_var rfl) ev_c (rv_ixT t_a rfl)) (ea_cons (ev_op (ev_var rfl) ev_c (rv_ixT t_b rfl)) ea_nil)) rc_max2) (ea_cons (ev_cb (ea_cons (ev_op (ev_var rfl) ev_c (rv_ixT t_a rfl)) (ea_cons (ev_op (ev_var rfl) ev_c (rv_ixT t_b rfl)) ea_nil)) rc_min2) ea_nil)) (show 2 ≤ 100000 by decide)) fun pE H14 n14 e14 t_ends => ?_
    refine st_is (σ' := [_, _, _, _, _, _, _, _, _, _, _, _, _, _, _, _, _]) rfl ?_
    replace t_a := ex_t e14 t_a
    replace t_b := ex_t e14 t_b
    replace t_ends := st_of (K := K) t_ends
    -- shared
    refine q_asgP (fun v H1 => (v = .non ∧ min a1 b1 < max a0 b0) ∨ (∃ p1, v = .ref p1 ∧ H1 p1 = some (.tup [.int (max a0 b0), .int (min a1 b1)]) ∧ ¬ min a1 b1 < max a0 b0)) (fun Q1 k1 => ?_) fun vsh H15 e15 hP => ?_
    · refine ⟨_, rfl, _, rfl, pA, pB, a0, a1, b0, b1, rfl, t_a, t_b, fun hlt H2 e2 => k1 _ _ e2 (.inl ⟨rfl, hlt⟩), fun hlt p2 H2 n2 e2 h2 => k1 _ _ e2 (.inr ⟨p2, rfl, h2, hlt⟩)⟩
    refine st_is (σ' := [_, _, _, _, _, _, _, _, _, _, _, _, _, _, _, _, _]) rfl ?_
    replace t_a := ex_t e15 t_a
    replace t_b := ex_t e15 t_b
    replace t_ends := ex_t e15 t_ends
    refine q_when (b := false) ?_ (fun hb => nomatch hb) fun _ H16 e16 => ?_
    · rcases hP with ⟨rfl, hlt⟩ | ⟨p1, rfl, h1, hlt⟩
      · exact et_is (et_or (a := false) (et_is (et_test (ev_op (ev_op (ev_var rfl) ev_c rv_isN) (ev_op (ev_op (ev_var rfl) ev_c (rv_ixT t_ends rfl)) (ev_op (ev_var rfl) ev_c (rv_ixT t_ends rfl)) rv_I0) (rv_ne rfl))) (by rw [decide_eq_true hlt]; rfl)) fun _ => (et_is (et_and (b := false) (et_test (ev_op (ev_var rfl) ev_c rv_notN)) fun hh => nomatch hh) (b := false) rfl)) rfl
      · exact et_is (et_or (a := false) (et_is (et_test (ev_op (ev_op (ev_var rfl) ev_c rv_isN) (ev_op (ev_op (ev_var rfl) ev_c (rv_ixT t_ends rfl)) (ev_op (ev_var rfl) ev_c (rv_ixT t_ends rfl)) rv_I0) (rv_ne rfl))) (by rw [decide_eq_false hlt]; rfl)) fun _ => (et_is (et_and (et_test (ev_op (ev_var rfl) ev_c rv_notN)) fun _ => (et_test (ev_op (ev_var rfl) (ev_var rfl) (rv_neS (dp2 (st_of h1)) (dp2 t_ends) sh2)))) (b := false) rfl)) rfl
    replace t_a := ex_t e16 t_a
    replace t_b := ex_t e16 t_b
    -- hull
    have spH : ∀ (Hh : Hp), Ex H16 Hh → SpU (spHull K) [.ref pA, .ref pB] Hh [.int (min a0 b0), .int (max a1 b1)] := fun Hh eh H1 e1 Q1 q1 E1 => ⟨pA, pB, a0, a1, b0, b1, rfl, ex_t (eh.trans e1) t_a, ex_t (eh.trans e1) t_b, q1⟩
    refine q_when (b := false) (et_is (et_or (a := false) (et_is (et_test (ev_opUU (eu_call (ea_cons (ev_var rfl) (ea_cons (ev_var rfl) ea_nil)) (spH _ (Ex.refl _))) (eu_tup (ea_cons (ev_cb (ea_cons (ev_op (ev_var rfl) ev_c (rv_ixT t_a rfl)) (ea_cons (ev_op (ev_var rfl) ev_c (rv_ixT t_b rfl)) ea_nil)) rc_min2) (ea_cons (ev_cb (ea_cons (ev_op (ev_var rfl) ev_c (rv_ixT t_a rfl)) (ea_cons (ev_op (ev_var rfl) ev_c (rv_ixT t_b rfl)) ea_nil)) rc_max2) ea_nil)) (show 2 ≤ 100000 by decide)) (fun p1 p2 H1 h1 h2 e1 => rv_neS (dp2 (st_of h1)) (dp2 (st_of h2)) sh2))) rfl)
      fun _ => (et_is (et_test (ev_op (ev_callVU (z := .bl true) (ev_var rfl) (eu_call (ea_cons (ev_var rfl) (ea_cons (ev_var rfl) ea_nil)) (spH _ (Ex.refl _))) ea_nil (fun p1 H1 e1 h1 H2 e2 Q2 q2 E2 => ⟨pA, p1, a0, a1, _, _, rfl, ex_t (e1.trans e2) t_a, st_of (e2 _ _ h1), by
          rw [decide_eq_true (show min a0 b0 ≤ a0 by omega), decide_eq_true (show a1 ≤ max a1 b1 by omega)]
          exact q2⟩)) ev_c rv_notB)) (b := false) rfl)) rfl) (fun hb => nomatch hb) fun _ H17 e17 => ?_
    replace t_a := ex_t e17 t_a
    replace t_b := ex_t e17 t_b
    refine q_when (b := false) (et_is (et_test (ev_op (ev_call (ea_cons (ev_var rfl) (ea_cons (ev_var rfl) ea_nil)) (fun H1 e1 Q1 q1 E1 => ⟨pA, pB, a0, a1, b0, b1, rfl, ex_t e1 t_a, ex_t e1 t_b, q1⟩)) (ev_andV (ev_op (ev_op (ev_var rfl) ev_c (rv_ixT t_b rfl)) (ev_op (ev_var rfl) ev_c (rv_ixT t_a rfl)) rv_I0) fun _ => (ev_op (ev_op (ev_var rfl) ev_c (rv_ixT t_a rfl)) (ev_op (ev_var rfl) ev_c (rv_ixT t_b rfl)) rv_I0)) (rv_ne rfl))) (same_false _)) (fun hb => nomatch hb) fun _ H18 e18 => ?_
    replace t_a := ex_t e18 t_a
    -- other
    obtain ⟨o, ho, ho2⟩ : ∃ o : Nat, ((two.natAbs : Int) / 90001 % 201) = (o : Int) ∧ o ≤ 200 := ⟨((two.natAbs : Int) / 90001 % 201).toNat, by omega, by omega⟩
    refine q_asg (ev_is (ev_op (ev_op (ev_cb (ea_cons (ev_var rfl) ea_nil) rc_abs) ev_c (rv_I ⟨by decide, by decide⟩)) ev_c (rv_I (by decide))) (congrArg V.int ho)) fun H19 e19 => ?_
    refine st_is (σ' := [_, _, _, _, _, _, _, _, _, _, _, _, _, _, _, _, _]) rfl ?_
    replace t_a := ex_t e19 t_a
    by_cases hno : n ≤ o
    · have sa0 : CShl a0 ((o - n : Nat) : Int) := shl_ok ka0 (by omega)
      have sa1 : CShl a1 ((o - n : Nat) : Int) := shl_ok ka1 (by omega)
      have ee : ((o : Int) - (n : Int)) = ((o - n : Nat) : Int) := by omega
      refine q_asgU (eu_call (xs := [.int (a0 * 2 ^ (o - n)), .int (a1 * 2 ^ (o - n))]) (ea_cons (ev_var rfl) (ea_cons (ev_var rfl) (ea_cons (ev_var rfl) ea_nil))) (fun H1 e1 Q1 q1 E1 => ⟨pA, a0, a1, n, o, rfl, ex_t e1 t_a, fun _ => ⟨sa0, sa1, q1⟩, fun z => absurd hno z⟩)) fun pF H20 n20 e20 t_f => ?_
      refine st_is (σ' := [_, _, _, _, _, _, _, _, _, _, _, _, _, _, _, _, _]) rfl ?_
      replace t_a := ex_t e20 t_a
      refine q_when (b := true) (et_is (et_test (ev_op (ev_var rfl) (ev_var rfl) rv_I0)) (decide_eq_true (by omega))) (fun _ H21 e21 => ?_) (fun hb => nomatch hb)
      replace t_a := ex_t e21 t_a
      refine s_ret (ev_opU (ev_var rfl) (eu_tup (ea_cons (ev_op (ev_op (ev_var rfl) ev_c (rv_ixT t_a rfl)) (ev_is (ev_op (ev_var rfl) (ev_var rfl) rv_I0) (congrArg V.int ee)) (rv_shl sa0)) (ea_cons (ev_op (ev_op (ev_var rfl) ev_c (rv_ixT t_a rfl)) (ev_is (ev_op (ev_var rfl) (ev_var rfl) rv_I0) (congrArg V.int ee)) (rv_shl sa1)) ea_nil)) (show 2 ≤ 100000 by decide)) (fun p1 H1 h1 e1 => rv_eqS (dp2 (st_of (e1 _ _ (e21 _ _ t_f)))) (dp2 (st_of h1)) sh2)) fun H22 e22 => fin H22
    · have ee : ((n : Int) - (o : Int)) = ((n - o : Nat) : Int) := by omega
      obtain ⟨k, hk⟩ : ∃ k : Nat, n - o = k := ⟨_, rfl⟩
      have hk2 : k ≤ 200 := by omega
      have hkp : (0 : Int) < 2 ^ k := pow_pos k
      have ks : Bd 400 ((2 : Int) ^ k) := ab_pow (by omega)
      refine q_asgU (eu_call (xs := [.int (a0 / 2 ^ k), .int (-(-a1 / 2 ^ k))]) (ea_cons (ev_var rfl) (ea_cons (ev_var rfl) (ea_cons (ev_var rfl) ea_nil))) (fun H1 e1 Q1 q1 E1 => ⟨pA, a0, a1, n, o, rfl, ex_t e1 t_a, fun z => absurd z hno, fun _ => by rw [hk]; exact q1⟩)) fun pF H20 n20 e20 t_f => ?_
      refine st_is (σ' := [_, _, _, _, _, _, _, _, _, _, _, _, _, _, _, _, _]) rfl ?_
      replace t_a := ex_t e20 t_a
      replace t_f := st_of (K := K) t_f
      refine q_when (b := false) (et_is (et_test (ev_op (ev_var rfl) (ev_var rfl) rv_I0)) (decide_eq_false (by omega))) (fun hb => nomatch hb) (fun _ H21 e21 => ?_)
      replace t_a := ex_t e21 t_a
      replace t_f := ex_t e21 t_f
      have f1 := fl_le (s := a0) hkp
      have f2 := fl_lt (s := a0) hkp
      have f3 := cl_ge (s := a1) hkp
      have f4 := cl_lt (s := a1) hkp
      have g0 : Bd 400 (a0 / 2 ^ k) := ab_div hkp ka0
      have g1 : Bd 400 (-(-a1 / 2 ^ k)) := ab_neg (ab_div hkp (ab_neg ka1))
      have up : ∀ {x : Int}, Bd 400 x → Bd 401 (x + 1) := fun h => ab_add h (by decide)
      have dn : ∀ {x : Int}, Bd 400 x → Bd 401 (x - 1) := fun h => ab_add h (by decide)
      generalize a0 / 2 ^ k = u at *
      generalize -(-a1 / 2 ^ k) = v at *
      refine q_asg (ev_is (ev_op ev_c (ev_is (ev_op (ev_var rfl) (ev_var rfl) rv_I0) (congrArg V.int (ee.trans (by rw [hk])))) (rv_shl (shl_ok (n := 1) (by decide) (by omega)))) (congrArg V.int (Int.one_mul (2 ^ k)))) fun H22 e22 => ?_
      refine st_is (σ' := [_, _, _, _, _, _, _, _, _, _, _, _, _, _, _, _, _]) rfl ?_
      replace t_a := ex_t e22 t_a
      replace t_f := ex_t e22 t_f
      refine q_asg (ev_is (ev_andV (ev_op (ev_op (ev_op (ev_var rfl) ev_c (rv_ixT t_f rfl)) (ev_var rfl) (rv_I (mulx_ok g0 ks (by decide)))) (ev_op (ev_var rfl) ev_c (rv_ixT t_a rfl)) rv_I0) fun _ => (ev_op (ev_op (ev_var rfl) ev_c (rv_ixT t_a rfl)) (ev_op (ev_op (ev_op (ev_var rfl) ev_c (rv_ixT t_f rfl)) ev_c rv_I0) (ev_var rfl) (rv_I (mulx_ok (up g0) ks (by decide)))) rv_I0)) (w := .bl true) (by rw [decide_eq_true f1, decide_eq_true f2]; rfl)) fun H23 e23 => ?_
      refine st_is (σ' := [_, _, _, _, _, _, _, _, _, _, _, _, _, _, _, _, _]) rfl ?_
      replace t_a := ex_t e23 t_a
      replace t_f := ex_t e23 t_f
      refine s_ret (ev_is (ev_andV (ev_var rfl) fun _ => (ev_andV (ev_op (ev_op (ev_var rfl) ev_c (rv_ixT t_a rfl)) (ev_op (ev_op (ev_var rfl) ev_c (rv_ixT t_f rfl)) (ev_var rfl) (rv_I (mulx_ok g1 ks (by decide)))) rv_I0) fun _ => (ev_op (ev_op (ev_op (ev_op (ev_var rfl) ev_c (rv_ixT t_f rfl)) ev_c rv_I0) (ev_var rfl) (rv_I (mulx_ok (dn g1) ks (by decide)))) (ev_op (ev_var rfl) ev_c (rv_ixT t_a rfl)) rv_I0))) (w := .bl true) (by rw [decide_eq_true f3, decide_eq_true f4]; rfl)) fun H24 e24 => fin H24

theorem all_mk {l : PySem.W.OpenLaw} {w : World} {K : PySem.W.Frag} {h : Heap} {mg : Str → Option Value} {fa f0 f1 f2 f3 f4 f5 f6 f7 f8 : Addr} (X : K.In h) (G : h.Ns mainGlobals mg) (hfa : mg "law" = some (.ref fa))
    {od0 an0 od1 an1 od2 an2 od3 an3 od4 an4 od5 an5 od6 an6 od7 an7 od8 an8 : Option Addr} {sl0 sl1 sl2 sl3 sl4 sl5 sl6 sl7 sl8 : Array (Option Value)} {oc0 kV0 dc0 pm0 cd0 ct0 oc1 kV1 dc1 pm1 cd1 ct1 oc2 kV2 dc2 pm2 cd2 ct2 oc3 kV3 dc3 pm3 cd3 ct3 oc4 kV4 dc4 pm4 cd4 ct4 oc5 kV5 dc5 pm5 cd5 ct5 oc6 kV6 dc6 pm6 cd6 ct6 oc7 kV7 dc7 pm7 cd7 ct7 oc8 kV8 dc8 pm8 cd8 ct8 : Value}
    (a0 : PySem.W.nsIn K mainGlobals "of_fraction" = some (some (.ref f0))) (l0 : K.lookup f0 = some ⟨oc0, od0, .func (PySem.W.fnOf "of_fraction" "of_fraction" (defArgs s_of_fraction) (defBody s_of_fraction) (defScope s_of_fraction) .none kV0 dc0 pm0 an0 cd0 ct0), sl0⟩) (c0 : PySem.W.codeIn K cd0 "of_fraction" = true) (k0 : PySem.W.keepIn K (.ref f0) = true)
    (a1 : PySem.W.nsIn K mainGlobals "hull" = some (some (.ref f1))) (l1 : K.lookup f1 = some ⟨oc1, od1, .func (PySem.W.fnOf "hull" "hull" (defArgs s_hull) (defBody s_hull) (defScope s_hull) .none kV1 dc1 pm1 an1 cd1 ct1), sl1⟩) (c1 : PySem.W.codeIn K cd1 "hull" = true) (k1 : PySem.W.keepIn K (.ref f1) = true)
    (a2 : PySem.W.nsIn K mainGlobals "common" = some (some (.ref f2))) (l2 : K.lookup f2 = some ⟨oc2, od2, .func (PySem.W.fnOf "common" "common" (defArgs s_common) (defBody s_common) (defScope s_common) .none kV2 dc2 pm2 an2 cd2 ct2), sl2⟩) (c2 : PySem.W.codeIn K cd2 "common" = true) (k2 : PySem.W.keepIn K (.ref f2) = true)
    (a3 : PySem.W.nsIn K mainGlobals "is_within" = some (some (.ref f3))) (l3 : K.lookup f3 = some ⟨oc3, od3, .func (PySem.W.fnOf "is_within" "is_within" (defArgs s_is_within) (defBody s_is_within) (defScope s_is_within) .none kV3 dc3 pm3 an3 cd3 ct3), sl3⟩) (c3 : PySem.W.codeIn K cd3 "is_within" = true) (k3 : PySem.W.keepIn K (.ref f3) = true)
    (a4 : PySem.W.nsIn K mainGlobals "rescaled" = some (some (.ref f4))) (l4 : K.lookup f4 = some ⟨oc4, od4, .func (PySem.W.fnOf "rescaled" "rescaled" (defArgs s_rescaled) (defBody s_rescaled) (defScope s_rescaled) .none kV4 dc4 pm4 an4 cd4 ct4), sl4⟩) (c4 : PySem.W.codeIn K cd4 "rescaled" = true) (k4 : PySem.W.keepIn K (.ref f4) = true)
    (a5 : PySem.W.nsIn K mainGlobals "contains" = some (some (.ref f5))) (l5 : K.lookup f5 = some ⟨oc5, od5, .func (PySem.W.fnOf "contains" "contains" (defArgs s_contains) (defBody s_contains) (defScope s_contains) .none kV5 dc5 pm5 an5 cd5 ct5), sl5⟩) (c5 : PySem.W.codeIn K cd5 "contains" = true) (k5 : PySem.W.keepIn K (.ref f5) = true)
    (a6 : PySem.W.nsIn K mainGlobals "fewer_bits" = some (some (.ref f6))) (l6 : K.lookup f6 = some ⟨oc6, od6, .func (PySem.W.fnOf "fewer_bits" "fewer_bits" (defArgs s_fewer_bits) (defBody s_fewer_bits) (defScope s_fewer_bits) .none kV6 dc6 pm6 an6 cd6 ct6), sl6⟩) (c6 : PySem.W.codeIn K cd6 "fewer_bits" = true) (k6 : PySem.W.keepIn K (.ref f6) = true)
    (a7 : PySem.W.nsIn K mainGlobals "_law_cell" = some (some (.ref f7))) (l7 : K.lookup f7 = some ⟨oc7, od7, .func (PySem.W.fnOf "_law_cell" "_law_cell" (defArgs s_law_cell) (defBody s_law_cell) (defScope s_law_cell) .none kV7 dc7 pm7 an7 cd7 ct7), sl7⟩) (c7 : PySem.W.codeIn K cd7 "_law_cell" = true) (k7 : PySem.W.keepIn K (.ref f7) = true)
    (a8 : PySem.W.nsIn K mainGlobals "law" = some (some (.ref f8))) (l8 : K.lookup f8 = some ⟨oc8, od8, .func (PySem.W.fnOf "law" "law" (defArgs s_law) (defBody s_law) (defScope s_law) .none kV8 dc8 pm8 an8 cd8 ct8), sl8⟩) (c8 : PySem.W.codeIn K cd8 "law" = true) (k8 : PySem.W.keepIn K (.ref f8) = true)
    (z0 : PySem.W.nsIn K mainGlobals "len" = some none)
    (z1 : PySem.W.nsIn K mainGlobals "abs" = some none)
    (z2 : PySem.W.nsIn K mainGlobals "min" = some none)
    (z3 : PySem.W.nsIn K mainGlobals "max" = some none)
    (z4 : PySem.W.nsIn K mainGlobals "int" = some none)
    (z5 : PySem.W.nsIn K mainGlobals "isinstance" = some none)
    (z6 : PySem.W.nsIn K mainGlobals "tuple" = some none)
    : ∃ fd : FuncData, (∀ (s : Shared) (v : Value), BindsTo s fd ⟨[v], []⟩ [("script", v)]) ∧ ∀ base : Heap, K.In base → base.Ns mainGlobals mg → FnOk l.prog w K mg base CX0 3 fa fd ["script"] (spLaw K) := by
  have e := hfa.symm.trans (PySem.W.mg_of X G a8)
  cases e
  have F_of_fraction := fun_mk (st := s_of_fraction) l0 c0 k0
  have F_hull := fun_mk (st := s_hull) l1 c1 k1
  have F_common := fun_mk (st := s_common) l2 c2 k2
  have F_is_within := fun_mk (st := s_is_within) l3 c3 k3
  have F_rescaled := fun_mk (st := s_rescaled) l4 c4 k4
  have F_contains := fun_mk (st := s_contains) l5 c5 k5
  have F_fewer_bits := fun_mk (st := s_fewer_bits) l6 c6 k6
  have F_law_cell := fun_mk (st := s_law_cell) l7 c7 k7
  have F_law := fun_mk (st := s_law) l8 c8 k8
  have b_of_fraction := F_of_fraction.binds (ps := ["bits", "p", "q"]) fun _ _ _ _ _ _ us hl => match us, hl with | [_, _, _], _ => rfl
  have g_of_fraction := PySem.W.mg_of X G a0
  have b_hull := F_hull.binds (ps := ["a", "b"]) fun _ _ _ _ _ _ us hl => match us, hl with | [_, _], _ => rfl
  have g_hull := PySem.W.mg_of X G a1
  have b_common := F_common.binds (ps := ["a", "b"]) fun _ _ _ _ _ _ us hl => match us, hl with | [_, _], _ => rfl
  have g_common := PySem.W.mg_of X G a2
  have b_is_within := F_is_within.binds (ps := ["a", "b"]) fun _ _ _ _ _ _ us hl => match us, hl with | [_, _], _ => rfl
  have g_is_within := PySem.W.mg_of X G a3
  have b_rescaled := F_rescaled.binds (ps := ["a", "bits", "other"]) fun _ _ _ _ _ _ us hl => match us, hl with | [_, _, _], _ => rfl
  have g_rescaled := PySem.W.mg_of X G a4
  have b_contains := F_contains.binds (ps := ["a", "bits", "p", "q"]) fun _ _ _ _ _ _ us hl => match us, hl with | [_, _, _, _], _ => rfl
  have g_contains := PySem.W.mg_of X G a5
  have b_fewer_bits := F_fewer_bits.binds (ps := ["low", "high", "bits"]) fun _ _ _ _ _ _ us hl => match us, hl with | [_, _, _], _ => rfl
  have g_fewer_bits := PySem.W.mg_of X G a6
  have b_law_cell := F_law_cell.binds (ps := ["script", "k"]) fun _ _ _ _ _ _ us hl => match us, hl with | [_, _], _ => rfl
  have g_law_cell := PySem.W.mg_of X G a7
  have m_len := PySem.W.mg_none_of X G z0
  have m_abs := PySem.W.mg_none_of X G z1
  have m_min := PySem.W.mg_none_of X G z2
  have m_max := PySem.W.mg_none_of X G z3
  have m_int := PySem.W.mg_none_of X G z4
  have m_isinstance := PySem.W.mg_none_of X G z5
  have m_tuple := PySem.W.mg_none_of X G z6
  exact ⟨PySem.W.fnOf "law" "law" (defArgs s_law) (defBody s_law) (defScope s_law) .none kV8 dc8 pm8 an8 cd8 ct8, fun s v => .of_eq rfl, fun base _ _ => ok_law F_law F_of_fraction F_hull F_common F_is_within F_rescaled F_contains F_fewer_bits F_law_cell b_of_fraction b_hull b_common b_is_within b_rescaled b_contains b_fewer_bits b_law_cell g_of_fraction g_hull g_common g_is_within g_rescaled g_contains g_fewer_bits g_law_cell m_len m_abs m_min m_max m_int m_isinstance m_tuple⟩
end
end K01
open PySem PySem.W PyProof.Rows
set_option maxHeartbeats 0 in
theorem PySem.Challenge.cw_portolan_k01_enclosures_and_fractions_holds : PySem.Challenge.rw_portolan_k01_enclosures_and_fractions.Holds := by
  w_on; o_law; k_head; (case hw => w_witness2)
  k_fill
  refine L2.walk_of (l := PySem.Challenge.rw_portolan_k01_enclosures_and_fractions) (n := 63) (k := 3) (x := "script") (CX := fun _ => L2.CX0) (sp := fun w => K01.spLaw _) rfl (by decide) rfl ⟨rfl, by decide, by decide⟩ (fun w h Y => PySem.W.kIn_of Y) ?F (fun _ _ a ns hl _ hS => ⟨a, ns, rfl, hS, hl, fun _ => rfl⟩) (fun _ _ _ _ _ h => h)
  case F =>
    intro w mg fa h KX G hmg
    refine' K01.all_mk KX G hmg ?a0 ?l0 ?c0 ?k0 ?a1 ?l1 ?c1 ?k1 ?a2 ?l2 ?c2 ?k2 ?a3 ?l3 ?c3 ?k3 ?a4 ?l4 ?c4 ?k4 ?a5 ?l5 ?c5 ?k5 ?a6 ?l6 ?c6 ?k6 ?a7 ?l7 ?c7 ?k7 ?a8 ?l8 ?c8 ?k8 ?z0 ?z1 ?z2 ?z3 ?z4 ?z5 ?z6
    (case a0 => k_is); (case l0 => k_is); (case c0 => k_is); (case k0 => k_is); (case a1 => k_is); (case l1 => k_is); (case c1 => k_is); (case k1 => k_is); (case a2 => k_is); (case l2 => k_is); (case c2 => k_is); (case k2 => k_is); (case a3 => k_is); (case l3 => k_is); (case c3 => k_is); (case k3 => k_is); (case a4 => k_is); (case l4 => k_is); (case c4 => k_is); (case k4 => k_is); (case a5 => k_is); (case l5 => k_is); (case c5 => k_is); (case k5 => k_is); (case a6 => k_is); (case l6 => k_is); (case c6 => k_is); (case k6 => k_is); (case a7 => k_is); (case l7 => k_is); (case c7 => k_is); (case k7 => k_is); (case a8 => k_is); (case l8 => k_is); (case c8 => k_is); (case k8 => k_is); (case z0 => k_is); (case z1 => k_is); (case z2 => k_is); (case z3 => k_is); (case z4 => k_is); (case z5 => k_is); (case z6 => k_is)

