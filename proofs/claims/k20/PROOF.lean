import PyProof.Rows.All
import Wide.All
import OpenK.AllK
import Wide.FinOn
import HandS.ForMost
import HandS.More
import HandS.Strs
import HandS.Evl
import HandS.Wide
import HandS.WideBits
import HandS.Style
import HandS.IsInst
import PyProof.P3Eq
import HandS.Base
import HandS.Call
import PySem.Challenge.RW_portolan_k20_projections_told
set_option Elab.async false
set_option linter.all false
set_option maxRecDepth 100000
set_option maxHeartbeats 4000000
/-! Own rules over the layer: what a reading evaluates to, for texts that change nothing. -/
namespace Cm
open PySem PySem.Spec PyProof.Rows L2 Evl

theorem ex_app {H H' : Hp} (e : Ex H H') {p : Addr} {o : HO} (h : H p = some o) : H' p = some o := e p o h
/-- a new tuple comes back -/
def RetU (xs : List V) (H : Hp) (Q : VK) : Prop := ∀ p H2, H p = none → Ex H H2 → H2 p = some (.tup xs) → Q (.ref p) H2
def SpU (sp : Sp) (vs : List V) (H : Hp) (xs : List V) : Prop := ∀ H1, Ex H H1 → ∀ Q : VK, (∀ p H2, H1 p = none → Ex H1 H2 → H2 p = some (.tup xs) → Q (.ref p) H2) → ∀ E : XK, sp vs H1 Q E
section
variable {K : PySem.W.Frag} {σ : L2.St} {H H' : Hp} {ta tb tc te tx : TE} {t u : TT} {x y z v w : V} {r r' : R2} {D : Ends} {tz : TS}
/-- the slots written out anew -/
theorem st_is {σ' : L2.St} {ts : TS} (e : σ = σ') (h : ts D σ' H) : ts D σ H := by
  rw [e]
  exact h
theorem RetU.go {xs : List V} {Q : VK} (k : RetU xs H Q) (e : Ex H H') {p : Addr} {H2 : Hp} (hp : H' p = none) (e2 : Ex H' H2) (h : H2 p = some (.tup xs)) : Q (.ref p) H2 := k p H2 (fresh_back e hp) (e.trans e2) h
theorem eu_call {sp : Sp} {dvs vs xs : List V} {E : XK} {ta : TA} (h : EvA ta σ H vs) (hs : SpU sp (vs ++ dvs) H xs) : EvU (tCall sp dvs E ta) σ H xs := fun H1 e Q q =>
  h H1 e _ fun H2 e2 => hs H2 (e.trans e2) Q (fun p H3 hp e3 h3 => q p H3 (fresh_back e2 hp) (e2.trans e3) h3) E
theorem eu_is {xs ys : List V} (h : EvU te σ H xs) (e : xs = ys) : EvU te σ H ys := by
  rw [← e]
  exact h
/-- a call whose first argument is a new tuple -/
theorem ev_callU {sp : Sp} {dvs vs xs : List V} {E : XK} {tr : TA} (h1 : EvU te σ H xs) (h2 : EvA tr σ H vs) (hs : ∀ p H1, Ex H H1 → H1 p = some (.tup xs) → SpV sp (.ref p :: vs ++ dvs) H1 z) : Ev (tCall sp dvs E (tCons te tr)) σ H z := fun H1 e Q q =>
  h1 H1 e _ fun p H2 np e2 hp => h2 H2 (e.trans e2) _ fun H3 e3 => hs p H3 ((e.trans e2).trans e3) (e3 _ _ hp) H3 (Ex.refl H3) Q (fun H4 e4 => q H4 ((e2.trans e3).trans e4)) E
/-- .. whose second argument is a new tuple -/
theorem ev_callVU {sp : Sp} {dvs vs xs : List V} {E : XK} {tr : TA} (h0 : Ev ta σ H x) (h1 : EvU te σ H xs) (h2 : EvA tr σ H vs) (hs : ∀ p H1, Ex H H1 → H1 p = some (.tup xs) → SpV sp (x :: .ref p :: vs ++ dvs) H1 z) : Ev (tCall sp dvs E (tCons ta (tCons te tr))) σ H z := fun H1 e Q q =>
  h0 H1 e _ fun H2 e2 => h1 H2 (e.trans e2) _ fun p H3 np e3 hp => h2 H3 ((e.trans e2).trans e3) _ fun H4 e4 => hs p H4 (((e.trans e2).trans e3).trans e4) (e4 _ _ hp) H4 (Ex.refl H4) Q (fun H5 e5 => q H5 (((e2.trans e3).trans e4).trans e5)) E
theorem ev_chain {b c : Bool} (ha : Ev ta σ H x) (hb : Ev tb σ H y) (hc : Ev tc σ H w) (h1 : RV r x y H (.bl b)) (h2 : RV r' y w H (.bl c)) : Ev (tChain r r' ta tb tc) σ H (.bl (b && c)) := fun H1 e Q q =>
  ha H1 e _ fun H2 e2 => hb H2 (e.trans e2) _ fun H3 e3 => h1 H3 ((e.trans e2).trans e3) _ fun H4 e4 => ⟨b, rfl, by
    cases b with
    | true =>
      show tc σ H4 _
      exact hc H4 (((e.trans e2).trans e3).trans e4) _ fun H5 e5 => h2 H5 ((((e.trans e2).trans e3).trans e4).trans e5) Q fun H6 e6 => q H6 ((((e2.trans e3).trans e4).trans e5).trans e6)
    | false =>
      show Q (.bl false) H4
      exact q H4 ((e2.trans e3).trans e4)⟩
theorem rv_shl {i : Int} {k : Nat} (h : CShl i (k : Int)) : RV (fun x y H Q => ∃ (i : Int) (k : Nat), x = .int i ∧ y = .int (k : Int) ∧ CShl i (k : Int) ∧ Q (.int (i * 2 ^ k)) H) (.int i) (.int (k : Int)) H (.int (i * 2 ^ k)) :=
  fun H1 _ _ q => ⟨i, k, rfl, rfl, h, q H1 (Ex.refl H1)⟩
theorem rv_shr {i : Int} {k : Nat} : RV (fun x y H Q => ∃ (i : Int) (k : Nat), x = .int i ∧ y = .int (k : Int) ∧ Q (.int (i / 2 ^ k)) H) (.int i) (.int (k : Int)) H (.int (i / 2 ^ k)) :=
  fun H1 _ _ q => ⟨i, k, rfl, rfl, q H1 (Ex.refl H1)⟩
theorem rv_isB {a b : Bool} : RV rIsB (.bl a) (.bl b) H (.bl (decide (a = b))) := fun H1 _ _ q => ⟨a, b, rfl, rfl, q H1 (Ex.refl H1)⟩
theorem rv_notB {a b : Bool} : RV rNotB (.bl a) (.bl b) H (.bl (!decide (a = b))) := fun H1 _ _ q => ⟨a, b, rfl, rfl, q H1 (Ex.refl H1)⟩
theorem rv_isN : RV (fun x y H Q => y = .non ∧ Q (.bl (decide (x = .non))) H) x .non H (.bl (decide (x = .non))) := fun H1 _ _ q => ⟨rfl, q H1 (Ex.refl H1)⟩
theorem rv_notN : RV (fun x y H Q => y = .non ∧ Q (.bl (!decide (x = .non))) H) x .non H (.bl (!decide (x = .non))) := fun H1 _ _ q => ⟨rfl, q H1 (Ex.refl H1)⟩
theorem rc_abs {i : Int} : RC (fun xs H Q => ∃ i, xs = [.int i] ∧ Q (.int (if i < 0 then -i else i)) H) [.int i] H (.int (i.natAbs : Int)) := fun H1 _ Q q => ⟨i, rfl, by
  have e : (if i < 0 then -i else i) = (i.natAbs : Int) := by split <;> omega
  rw [e]
  exact q H1 (Ex.refl H1)⟩
theorem rc_max2 {i j : Int} : RC (fun xs H Q => ∃ i j, xs = [.int i, .int j] ∧ Q (.int (if j > i then j else i)) H) [.int i, .int j] H (.int (max i j)) := fun H1 _ Q q => ⟨i, j, rfl, by
  have e : (if j > i then j else i) = max i j := by split <;> omega
  rw [e]
  exact q H1 (Ex.refl H1)⟩
theorem rc_min2 {i j : Int} : RC (fun xs H Q => ∃ i j, xs = [.int i, .int j] ∧ Q (.int (if j < i then j else i)) H) [.int i, .int j] H (.int (min i j)) := fun H1 _ Q q => ⟨i, j, rfl, by
  have e : (if j < i then j else i) = min i j := by split <;> omega
  rw [e]
  exact q H1 (Ex.refl H1)⟩
theorem rc_intB {k : Bool} : RC (fun xs H Q => (∃ i, xs = [.int i] ∧ Q (.int i) H) ∨ ∃ k, xs = [.bl k] ∧ Q (.int (if k then 1 else 0)) H) [.bl k] H (.int (if k then 1 else 0)) := fun H1 _ Q q => Or.inr ⟨k, rfl, q H1 (Ex.refl H1)⟩
theorem rc_intI {i : Int} : RC (fun xs H Q => (∃ i, xs = [.int i] ∧ Q (.int i) H) ∨ ∃ k, xs = [.bl k] ∧ Q (.int (if k then 1 else 0)) H) [.int i] H (.int i) := fun H1 _ Q q => Or.inl ⟨i, rfl, q H1 (Ex.refl H1)⟩
theorem rc_isiT {p : Addr} {xs : List V} (h : H p = some (.tup xs)) : RC (rIsi K) [.ref p, .ty "tuple"] H (.bl true) := fun H1 e _ q =>
  ⟨.ref p, .ty "tuple", .type "tuple", .type "tuple", true, rfl, .ty _, .base (.tup (e _ _ h)), kit_ty (by decide +kernel), q H1 (Ex.refl H1)⟩
theorem rc_isiS {x : Str} : RC (rIsi K) [.str x, .ty "str"] H (.bl true) := fun H1 e _ q =>
  ⟨.str x, .ty "str", .type "str", .type "str", true, rfl, .ty _, .base (.str x), kit_ty (by decide +kernel), q H1 (Ex.refl H1)⟩
theorem rc_lenL {p : Addr} {xs : List V} (h : SqL K H p xs) : RC (fun xs H Q => ∃ x n, xs = [x] ∧ LenV K x H n ∧ Q (.int n) H) [.ref p] H (.int (xs.length : Int)) := fun H1 e _ q =>
  ⟨.ref p, (xs.length : Nat), rfl, .inl ⟨_, ex_l e h, rfl⟩, q H1 (Ex.refl H1)⟩
/-! ### data -/
mutual
theorem dp_mono (e : Ex H H') : ∀ (d : PyData) (v : V), Dp K H v d → Dp K H' v d
  | _, _, .non => .non
  | _, _, .bl b => .bl b
  | _, _, .int i => .int i
  | _, _, .str x => .str x
  | _, _, .lst h a => .lst (ex_l e h) (dps_mono e _ _ a)
  | _, _, .tup h a => .tup (ex_t e h) (dps_mono e _ _ a)
theorem dps_mono (e : Ex H H') : ∀ (ds : List PyData) (vs : List V), DpAll K H vs ds → DpAll K H' vs ds
  | _, _, .nil => .nil
  | _, _, .cons h t => .cons (dp_mono e _ _ h) (dps_mono e _ _ t)
end
theorem dpInts : ∀ (is : List Int), DpAll K H (is.map V.int) (is.map PyData.int)
  | [] => .nil
  | i :: r => .cons (.int i) (dpInts r)
theorem eqvS {d : PyData} (h : SeqAt.shaped d = true) : PyData.eqv d d = true := by
  unfold SeqAt.shaped at h
  rw [Bool.and_eq_true] at h
  exact PySem.SeqAt.eqv_refl d h.1
/-- the same data on both sides -/
theorem rv_neS {d : PyData} (hx : Dp K H x d) (hy : Dp K H y d) (hs : SeqAt.shaped d = true) : RV (rNeD K) x y H (.bl false) := fun H1 e Q q =>
  ⟨d, d, dp_mono e _ _ hx, dp_mono e _ _ hy, hs, hs, by
    rw [eqvS hs]
    exact q H1 (Ex.refl H1)⟩
theorem rv_eqS {d : PyData} (hx : Dp K H x d) (hy : Dp K H y d) (hs : SeqAt.shaped d = true) : RV (rEqD K) x y H (.bl true) := fun H1 e Q q =>
  ⟨d, d, dp_mono e _ _ hx, dp_mono e _ _ hy, hs, hs, by
    rw [eqvS hs]
    exact q H1 (Ex.refl H1)⟩
/-- a pair of ints -/
theorem dp2 {p : Addr} {i j : Int} (h : SqT K H p [.int i, .int j]) : Dp K H (.ref p) (.tuple [.int i, .int j]) := .tup h (.cons (.int i) (.cons (.int j) .nil))
theorem sh2 {i j : Int} : SeqAt.shaped (.tuple [.int i, .int j]) = true := rfl
end
/-! ### numbers -/
/-- a bound that omega does not look into -/
def Bd (k : Nat) (x : Int) : Prop := x.natAbs < 2 ^ k
theorem pow_pos (n : Nat) : (0 : Int) < 2 ^ n := PySem.W.kbt_pos n
theorem pow_abs (n : Nat) : ((2 : Int) ^ n).natAbs = 2 ^ n := by
  rw [Int.natAbs_pow]
  rfl
theorem ab_mono {x : Int} {a b : Nat} (h : x.natAbs < 2 ^ a) (hab : a ≤ b) : x.natAbs < 2 ^ b := Nat.lt_of_lt_of_le h (Nat.pow_le_pow_right (by decide) hab)
theorem ab_pow {n k : Nat} (h : n < k) : ((2 : Int) ^ n).natAbs < 2 ^ k := by
  rw [pow_abs]
  exact Nat.pow_lt_pow_right (by decide) h
theorem ab_shl {x : Int} {a n : Nat} (h : x.natAbs < 2 ^ a) : (x * 2 ^ n).natAbs < 2 ^ (a + n) := by
  rw [Int.natAbs_mul, pow_abs, Nat.pow_add]
  exact Nat.mul_lt_mul_of_pos_right h (Nat.two_pow_pos n)
theorem ab_mul {x y : Int} {a b : Nat} (hx : x.natAbs < 2 ^ a) (hy : y.natAbs < 2 ^ b) : (x * y).natAbs < 2 ^ (a + b) := wide_lt hx hy
theorem ab_add {x y : Int} {a : Nat} (hx : x.natAbs < 2 ^ a) (hy : y.natAbs < 2 ^ a) : (x + y).natAbs < 2 ^ (a + 1) := by
  have e : 2 ^ (a + 1) = 2 ^ a + 2 ^ a := by rw [Nat.pow_succ]; omega
  omega
theorem ab_neg {x : Int} {a : Nat} (hx : x.natAbs < 2 ^ a) : (-x).natAbs < 2 ^ a := by omega
theorem ab_sm {x : Int} {a c : Nat} (h : x.natAbs ≤ c) (hc : c < 2 ^ a) : x.natAbs < 2 ^ a := Nat.lt_of_le_of_lt h hc
theorem fl_le {s q : Int} (hq : 0 < q) : s / q * q ≤ s := Int.ediv_mul_le s (by omega)
theorem fl_lt {s q : Int} (hq : 0 < q) : s < (s / q + 1) * q := by
  rw [Int.add_mul, Int.one_mul]
  exact Int.lt_ediv_add_one_mul_self s hq |> fun h => by rw [Int.add_mul, Int.one_mul] at h; exact h
theorem cl_ge {s q : Int} (hq : 0 < q) : s ≤ -(-s / q) * q := by
  have h := fl_le (s := -s) hq
  rw [Int.neg_mul]
  omega
theorem cl_lt {s q : Int} (hq : 0 < q) : (-(-s / q) - 1) * q < s := by
  have h := fl_lt (s := -s) hq
  rw [Int.sub_mul, Int.one_mul, Int.neg_mul]
  rw [Int.add_mul, Int.one_mul] at h
  omega
theorem ab_div {x q : Int} {a : Nat} (hq : 0 < q) (h : x.natAbs < 2 ^ a) : (x / q).natAbs < 2 ^ a := by
  have h1 : (x / q).natAbs ≤ x.natAbs := by
    by_cases hx : 0 ≤ x
    · have := Int.ediv_le_self q hx
      have := Int.ediv_nonneg hx (Int.le_of_lt hq)
      omega
    · have h2 : x / q < 0 := Int.ediv_neg_of_neg_of_pos (by omega) hq
      have h3 := fl_lt (s := x) hq
      have h4 : (x / q + 1) * q ≤ (x / q + 1) := by
        have h5 : (x / q + 1) * (q - 1) ≤ 0 := Int.mul_nonpos_of_nonpos_of_nonneg (by omega) (by omega)
        rw [Int.mul_sub, Int.mul_one] at h5
        omega
      omega
  omega
theorem mul_le_r {a b q : Int} (h : a ≤ b) (hq : 0 < q) : a * q ≤ b * q := Int.mul_le_mul_of_nonneg_right h (Int.le_of_lt hq)
/-- the ceiling, by one more where the floor is not exact -/
theorem ceil_eq {s q : Int} (hq : 0 < q) : -(-s / q) = s / q + (if (!decide (s / q * q = s)) = true then 1 else 0) := by
  have a1 := fl_le (s := s) hq
  have a2 := fl_lt (s := s) hq
  have b1 := cl_ge (s := s) hq
  have b2 := cl_lt (s := s) hq
  have lt_of : ∀ {u v : Int}, u * q < v * q → u < v := fun h => Int.lt_of_mul_lt_mul_right h (Int.le_of_lt hq)
  have c1 : -(-s / q) - 1 < s / q + 1 := lt_of (Int.lt_trans b2 a2)
  by_cases e : s / q * q = s
  · rw [decide_eq_true e]
    have c2 : -(-s / q) - 1 < s / q := lt_of (by rw [e]; exact b2)
    have c3 : s / q - 1 < -(-s / q) := lt_of (Int.lt_of_lt_of_le (by rw [Int.sub_mul, Int.one_mul, e]; omega) b1)
    show _ = s / q + 0
    omega
  · rw [decide_eq_false e]
    have c3 : s / q < -(-s / q) := lt_of (by omega)
    show _ = s / q + 1
    omega
end Cm

/-! Own rule: a < b < c < d. -/
namespace Ch
open PySem PySem.Spec PyProof.Rows L2 Evl
def tChain3 (r1 r2 r3 : R2) (ta tb tc td : TE) : TE := fun σ H Q => ta σ H fun x H1 => tb σ H1 fun y H2 => r1 x y H2 fun z H3 => ∃ k, z = .bl k ∧
  (if k = true then tc σ H3 fun w H4 => r2 y w H4 fun z2 H5 => ∃ k2, z2 = .bl k2 ∧ (if k2 = true then td σ H5 fun w3 H6 => r3 w w3 H6 Q else Q (.bl false) H5) else Q (.bl false) H3)
section
variable {X : Cx} {a b c d : Expr} {ta tb tc td : TE} {pos : Pos}
theorem pe_chain3 {o1 o2 o3 : CmpOp} {r1 r2 r3 : R2} (h1 : OpR X (compareOp o1) r1) (h2 : OpR X (compareOp o2) r2) (h3 : OpR X (compareOp o3) r3) (ha : PE X a ta) (hb : PE X b tb) (hc : PE X c tc) (hd : PE X d td)
    (hm : lastMarks [o1, o2, o3] [b, c, d] = false := by with_unfolding_all rfl) : PE X (.Compare a [o1, o2, o3] [b, c, d] pos) (tChain3 r1 r2 r3 ta tb tc td) := ⟨fun pins s σ H Q I h => by
  refine Compare_chain (thn (ha.run pins s σ H _ I h) fun v s1 q0 => ?_) hm
  obtain ⟨x, H1, I1, e1, q1⟩ := q0
  refine chain_link (thn (hb.run pins s1 σ H1 _ I1 q1) fun u s2 q0 => ?_)
  obtain ⟨y, H2, I2, e2, q2⟩ := q0
  refine thn (h1 pins s2 σ H2 x y v u _ I2 e1 e2 q2) fun g s3 q0 => ?_
  obtain ⟨z, H3, I3, e3, k, ez, q3⟩ := q0
  subst ez
  cases e3
  refine wpAny_truthy_bool ?_
  cases k
  · exact ite_ff ⟨.bl false, H3, I3, rfl, q3⟩
  · refine ite_tt (chain_link (thn (hc.run pins s3 σ H3 _ I3 q3) fun t s4 q0 => ?_))
    obtain ⟨p, H4, I4, e4, q4⟩ := q0
    refine thn (h2 pins s4 σ H4 y p u t _ I4 e2 e4 q4) fun g2 s5 q0 => ?_
    obtain ⟨z2, H5, I5, e5, k2, ez2, q5⟩ := q0
    subst ez2
    cases e5
    refine wpAny_truthy_bool ?_
    cases k2
    · exact ite_ff ⟨.bl false, H5, I5, rfl, q5⟩
    · refine ite_tt (chain_last (thn (hd.run pins s5 σ H5 _ I5 q5) fun t2 s6 q0 => ?_))
      obtain ⟨p2, H6, I6, e6, q6⟩ := q0
      exact h3 pins s6 σ H6 p p2 t t2 Q I6 e4 e6 q6⟩
end
theorem ev_chain3 {σ : L2.St} {H : Hp} {r1 r2 r3 : R2} {ta tb tc td : TE} {x y w u : V} {b1 b2 b3 : Bool} (ha : Ev ta σ H x) (hb : Ev tb σ H y) (hc : Ev tc σ H w) (hd : Ev td σ H u) (h1 : RV r1 x y H (.bl b1)) (h2 : RV r2 y w H (.bl b2)) (h3 : RV r3 w u H (.bl b3)) :
    Ev (tChain3 r1 r2 r3 ta tb tc td) σ H (.bl (b1 && (b2 && b3))) := fun H1 e Q q => ha H1 e _ fun H2 e2 => hb H2 (e.trans e2) _ fun H3 e3 => h1 H3 ((e.trans e2).trans e3) _ fun H4 e4 => ⟨b1, rfl, by
  have g4 := ((e.trans e2).trans e3).trans e4
  cases b1
  · exact q H4 ((e2.trans e3).trans e4)
  · exact hc H4 g4 _ fun H5 e5 => h2 H5 (g4.trans e5) _ fun H6 e6 => ⟨b2, rfl, by
      cases b2
      · exact q H6 ((((e2.trans e3).trans e4).trans e5).trans e6)
      · exact hd H6 ((g4.trans e5).trans e6) _ fun H7 e7 => h3 H7 (((g4.trans e5).trans e6).trans e7) Q fun H8 e8 => q H8 ((((((e2.trans e3).trans e4).trans e5).trans e6).trans e7).trans e8)⟩⟩
end Ch


namespace K20
open PySem PySem.Spec PyProof.Rows L2 Evl Cm Ch
def topS (i : Nat) : Stmt := PySem.Challenge.pw_portolan_k20_projections_told.main.body.getD i (.Pass ⟨0, 0, 0, 0⟩)
abbrev s_is_latitude : Stmt := topS 4
theorem sc_is_latitude : FnScope ["angle"] ["angle"] (defScope s_is_latitude) := ⟨rfl, rfl, rfl, by decide +kernel, rfl, by decide +kernel, by decide +kernel⟩
abbrev s_is_longitude : Stmt := topS 5
theorem sc_is_longitude : FnScope ["angle"] ["angle"] (defScope s_is_longitude) := ⟨rfl, rfl, rfl, by decide +kernel, rfl, by decide +kernel, by decide +kernel⟩
abbrev s_is_projection : Stmt := topS 15
theorem sc_is_projection : FnScope ["value", "name", "lat0", "lon0", "lat1", "lat2"] ["value"] (defScope s_is_projection) := ⟨rfl, rfl, rfl, by decide +kernel, rfl, by decide +kernel, by decide +kernel⟩
abbrev s_kind_of : Stmt := topS 16
theorem sc_kind_of : FnScope ["projection", "name"] ["projection"] (defScope s_kind_of) := ⟨rfl, rfl, rfl, by decide +kernel, rfl, by decide +kernel, by decide +kernel⟩
abbrev s_is_latitude_of_cone : Stmt := topS 17
theorem sc_is_latitude_of_cone : FnScope ["name", "lat0"] ["name", "lat0"] (defScope s_is_latitude_of_cone) := ⟨rfl, rfl, rfl, by decide +kernel, rfl, by decide +kernel, by decide +kernel⟩
abbrev s_are_parallels : Stmt := topS 18
theorem sc_are_parallels : FnScope ["lat1", "lat2"] ["lat1", "lat2"] (defScope s_are_parallels) := ⟨rfl, rfl, rfl, by decide +kernel, rfl, by decide +kernel, by decide +kernel⟩
abbrev s_law_cell : Stmt := topS 20
theorem sc_law_cell : FnScope ["script", "k"] ["script", "k"] (defScope s_law_cell) := ⟨rfl, rfl, rfl, by decide +kernel, rfl, by decide +kernel, by decide +kernel⟩
abbrev s_law_isqrt : Stmt := topS 21
theorem sc_law_isqrt : FnScope ["figure", "root", "k", "better"] ["figure"] (defScope s_law_isqrt) := ⟨rfl, rfl, rfl, by decide +kernel, rfl, by decide +kernel, by decide +kernel⟩
abbrev s_law_atan_sum : Stmt := topS 22
theorem sc_law_atan_sum : FnScope ["p", "q", "b", "power", "total", "k"] ["p", "q", "b"] (defScope s_law_atan_sum) := ⟨rfl, rfl, rfl, by decide +kernel, rfl, by decide +kernel, by decide +kernel⟩
abbrev s_law_pi : Stmt := topS 23
theorem sc_law_pi : FnScope ["b"] ["b"] (defScope s_law_pi) := ⟨rfl, rfl, rfl, by decide +kernel, rfl, by decide +kernel, by decide +kernel⟩
abbrev s_law_terms : Stmt := topS 24
theorem sc_law_terms : FnScope ["x", "b", "wide", "parts", "term", "k", "part"] ["x", "b"] (defScope s_law_terms) := ⟨rfl, rfl, rfl, by decide +kernel, rfl, by decide +kernel, by decide +kernel⟩
abbrev s_law_sine : Stmt := topS 25
theorem sc_law_sine : FnScope ["x", "b", "parts"] ["x", "b"] (defScope s_law_sine) := ⟨rfl, rfl, rfl, by decide +kernel, rfl, by decide +kernel, by decide +kernel⟩
abbrev s_law_cosine : Stmt := topS 26
theorem sc_law_cosine : FnScope ["x", "b", "parts"] ["x", "b"] (defScope s_law_cosine) := ⟨rfl, rfl, rfl, by decide +kernel, rfl, by decide +kernel, by decide +kernel⟩
abbrev s_law_exp : Stmt := topS 27
theorem sc_law_exp : FnScope ["x", "b"] ["x", "b"] (defScope s_law_exp) := ⟨rfl, rfl, rfl, by decide +kernel, rfl, by decide +kernel, by decide +kernel⟩
abbrev s_law_log : Stmt := topS 28
theorem sc_law_log : FnScope ["x", "b", "turns", "wide", "one", "total"] ["x", "b"] (defScope s_law_log) := ⟨rfl, rfl, rfl, by decide +kernel, rfl, by decide +kernel, by decide +kernel⟩
abbrev s_law_artanh : Stmt := topS 29
theorem sc_law_artanh : FnScope ["p", "q", "b", "sign", "power", "total", "k"] ["p", "q", "b"] (defScope s_law_artanh) := ⟨rfl, rfl, rfl, by decide +kernel, rfl, by decide +kernel, by decide +kernel⟩
abbrev s_law_atan : Stmt := topS 30
theorem sc_law_atan : FnScope ["x", "b", "wide", "one", "y", "turned", "k", "angle"] ["x", "b"] (defScope s_law_atan) := ⟨rfl, rfl, rfl, by decide +kernel, rfl, by decide +kernel, by decide +kernel⟩
abbrev s_law_asin : Stmt := topS 31
theorem sc_law_asin : FnScope ["x", "b", "rest", "root"] ["x", "b"] (defScope s_law_asin) := ⟨rfl, rfl, rfl, by decide +kernel, rfl, by decide +kernel, by decide +kernel⟩
abbrev s_law_single : Stmt := topS 32
theorem sc_law_single : FnScope ["word", "a", "b", "one", "room", "middle", "reach", "value", "low", "high", "half"] ["word", "a", "b"] (defScope s_law_single) := ⟨rfl, rfl, rfl, by decide +kernel, rfl, by decide +kernel, by decide +kernel⟩
abbrev s_law_pair : Stmt := topS 33
theorem sc_law_pair : FnScope ["word", "a", "c", "b", "ends"] ["word", "a", "c", "b"] (defScope s_law_pair) := ⟨rfl, rfl, rfl, by decide +kernel, rfl, by decide +kernel, by decide +kernel⟩
abbrev s_law_step_value : Stmt := topS 34
theorem sc_law_step_value : FnScope ["step", "found", "b", "a"] ["step", "found", "b"] (defScope s_law_step_value) := ⟨rfl, rfl, rfl, by decide +kernel, rfl, by decide +kernel, by decide +kernel⟩
abbrev s_law_values : Stmt := topS 35
theorem sc_law_values : FnScope ["formula", "b", "found", "step"] ["formula", "b"] (defScope s_law_values) := ⟨rfl, rfl, rfl, by decide +kernel, rfl, by decide +kernel, by decide +kernel⟩
abbrev s_law_real : Stmt := topS 36
theorem sc_law_real : FnScope ["tree", "b", "first", "second"] ["tree", "b"] (defScope s_law_real) := ⟨rfl, rfl, rfl, by decide +kernel, rfl, by decide +kernel, by decide +kernel⟩
abbrev s_law_rad : Stmt := topS 37
theorem sc_law_rad : FnScope ["angle"] ["angle"] (defScope s_law_rad) := ⟨rfl, rfl, rfl, by decide +kernel, rfl, by decide +kernel, by decide +kernel⟩
abbrev s_law_sin : Stmt := topS 38
theorem sc_law_sin : FnScope ["angle"] ["angle"] (defScope s_law_sin) := ⟨rfl, rfl, rfl, by decide +kernel, rfl, by decide +kernel, by decide +kernel⟩
abbrev s_law_cos : Stmt := topS 39
theorem sc_law_cos : FnScope ["angle"] ["angle"] (defScope s_law_cos) := ⟨rfl, rfl, rfl, by decide +kernel, rfl, by decide +kernel, by decide +kernel⟩
abbrev s_law_mul : Stmt := topS 40
theorem sc_law_mul : FnScope ["a", "b"] ["a", "b"] (defScope s_law_mul) := ⟨rfl, rfl, rfl, by decide +kernel, rfl, by decide +kernel, by decide +kernel⟩
abbrev s_law_artanh_tree : Stmt := topS 41
theorem sc_law_artanh_tree : FnScope ["tree", "one"] ["tree"] (defScope s_law_artanh_tree) := ⟨rfl, rfl, rfl, by decide +kernel, rfl, by decide +kernel, by decide +kernel⟩
abbrev s_law_wrap : Stmt := topS 42
theorem sc_law_wrap : FnScope ["angle"] ["angle"] (defScope s_law_wrap) := ⟨rfl, rfl, rfl, by decide +kernel, rfl, by decide +kernel, by decide +kernel⟩
abbrev s_law_projection : Stmt := topS 43
theorem sc_law_projection : FnScope ["figure", "a", "name", "lon0", "lat", "lat0", "low", "high"] ["figure"] (defScope s_law_projection) := ⟨rfl, rfl, rfl, by decide +kernel, rfl, by decide +kernel, by decide +kernel⟩
abbrev s_law_depth : Stmt := topS 44
theorem sc_law_depth : FnScope ["projection", "point", "d", "first"] ["projection", "point"] (defScope s_law_depth) := ⟨rfl, rfl, rfl, by decide +kernel, rfl, by decide +kernel, by decide +kernel⟩
abbrev s_law_height : Stmt := topS 45
theorem sc_law_height : FnScope ["lat"] ["lat"] (defScope s_law_height) := ⟨rfl, rfl, rfl, by decide +kernel, rfl, by decide +kernel, by decide +kernel⟩
abbrev s_law_cone_number : Stmt := topS 46
theorem sc_law_cone_number : FnScope ["projection", "b", "c", "above"] ["projection"] (defScope s_law_cone_number) := ⟨rfl, rfl, rfl, by decide +kernel, rfl, by decide +kernel, by decide +kernel⟩
abbrev s_law_cone_radius : Stmt := topS 47
theorem sc_law_cone_radius : FnScope ["projection", "lat", "n", "b", "twice", "constant", "power"] ["projection", "lat"] (defScope s_law_cone_radius) := ⟨rfl, rfl, rfl, by decide +kernel, rfl, by decide +kernel, by decide +kernel⟩
abbrev s_law_place : Stmt := topS 48
theorem sc_law_place : FnScope ["projection", "point", "name", "turn", "d", "t", "angle", "r", "base", "a", "x", "y", "u", "spread"] ["projection", "point"] (defScope s_law_place) := ⟨rfl, rfl, rfl, by decide +kernel, rfl, by decide +kernel, by decide +kernel⟩
abbrev s_law_has_place : Stmt := topS 49
theorem sc_law_has_place : FnScope ["projection", "point", "name", "turn", "u"] ["projection", "point"] (defScope s_law_has_place) := ⟨rfl, rfl, rfl, by decide +kernel, rfl, by decide +kernel, by decide +kernel⟩
abbrev s_law_is_projection : Stmt := topS 50
theorem sc_law_is_projection : FnScope ["value", "name", "lat0", "lat1", "lat2", "names", "good"] ["value"] (defScope s_law_is_projection) := ⟨rfl, rfl, rfl, by decide +kernel, rfl, by decide +kernel, by decide +kernel⟩
abbrev s_law : Stmt := topS 51
theorem sc_law : FnScope ["script", "digit", "value", "way", "pick", "kinds", "actual", "due"] ["script"] (defScope s_law) := ⟨rfl, rfl, rfl, by decide +kernel, rfl, by decide +kernel, by decide +kernel⟩
section
variable {P : Program} {w : World} {K : PySem.W.Frag} {mg : Str → Option Value} {base : Heap}
/-! ### the law's cells -/
theorem ok_cell {f : Addr} {fd : FuncData} (F : Fun K "_law_cell" "_law_cell" s_law_cell f fd) (m_len : mg "len" = none) : FnOk P w K mg base CX0 1 f fd ["script", "k"] (spCell K) := by
  refine F.ok sc_law_cell (fun vs H Q E h => ?_) (fun cdv A outer s H vs Q E hr h => ?_)
  · obtain ⟨l, ns, j, rfl, _⟩ := h
    rfl
  · obtain ⟨l, ns, j, rfl, hs, q⟩ := h
    refine ⟨_, (pss_cons (ps_if (pt_cmpR op_lt (pv 1) (pe_callB call_len (by rfl) m_len (by decide +kernel) (pa_cons (pv 0) pa_nil)) (nomark _)) (pss_one (ps_ret (pe_ix ix_list (pv 0) (pv 1) (fun _ _ => rfl)))) pss_nil)
        (pss_one (ps_ret pe_int))), ?_⟩
    refine ⟨_, rfl, _, rfl, .ref l, ((ns.map V.int).length : Nat), rfl, .inl ⟨_, hs, rfl⟩, _, _, rfl, rfl, _, rfl, ite2 (fun e => ?_) (fun e => ?_)⟩
    · have hj : j < ns.length := by
        have := of_decide_eq_true e
        rw [List.length_map] at this
        omega
      exact ⟨_, rfl, _, rfl, l, _, _, _, rfl, rfl, hs, atI_cell hj, q⟩
    · have hj : ¬ j < ns.length := fun z => e (decide_eq_true (by rw [List.length_map]; omega))
      rw [cell_out hj] at q
      exact q
theorem cell_is {H : Hp} {sa : Addr} {ns : List Int} (hS : SqL K H sa (ns.map V.int)) (j : Nat) : SpV (spCell K) [.ref sa, .int (j : Nat)] H (.int (cellOf ns j)) := fun H1 e1 Q1 q1 E1 => ⟨sa, ns, j, rfl, ex_l e1 hS, q1 H1 (Ex.refl H1)⟩
/-! ### points -/
def latOk (a : Int) : Bool := decide (-900000000 ≤ a) && decide (a ≤ 900000000)
def lonOk (a : Int) : Bool := decide (-1800000000 ≤ a) && decide (a < 1800000000)
def wrapI (a : Int) : Int := (a + 1800000000) % 3600000000 - 1800000000
def spLat : Sp := fun vs H Q _ => ∃ a : Int, vs = [.int a] ∧ RetV (.bl (latOk a)) H Q
def spLon : Sp := fun vs H Q _ => ∃ a : Int, vs = [.int a] ∧ RetV (.bl (lonOk a)) H Q
theorem ok_lat {f : Addr} {fd : FuncData} (F : Fun K "is_latitude" "is_latitude" s_is_latitude f fd) {t0 : Tok} (g_RIGHT_ANGLE : mg "RIGHT_ANGLE" = some (.int 900000000 t0)) : FnOk P w K mg base CX0 1 f fd ["angle"] spLat := by
  refine F.ok sc_is_latitude (fun vs H Q E h => ?_) (fun cdv A outer s H vs Q E hr h => ?_)
  · obtain ⟨c, rfl, _⟩ := h
    rfl
  · obtain ⟨c, rfl, q⟩ := h
    refine ⟨_, (pss_one (ps_ret (pe_chain op_le op_le (pe_un un_neg (pe_glob (by rfl) g_RIGHT_ANGLE (show RelV (.int 900000000) _ from ⟨_, rfl⟩))) (pv 0) (pe_glob (by rfl) g_RIGHT_ANGLE (show RelV (.int 900000000) _ from ⟨_, rfl⟩))))), ?_⟩
    exact s_ret (ev_chain (ev_un ev_c ru_neg) (ev_var rfl) ev_c rv_I0 rv_I0) q
theorem ok_lon {f : Addr} {fd : FuncData} (F : Fun K "is_longitude" "is_longitude" s_is_longitude f fd) {t0 : Tok} (g_HALF_TURN : mg "HALF_TURN" = some (.int 1800000000 t0)) : FnOk P w K mg base CX0 1 f fd ["angle"] spLon := by
  refine F.ok sc_is_longitude (fun vs H Q E h => ?_) (fun cdv A outer s H vs Q E hr h => ?_)
  · obtain ⟨c, rfl, _⟩ := h
    rfl
  · obtain ⟨c, rfl, q⟩ := h
    refine ⟨_, (pss_one (ps_ret (pe_chain op_le op_lt (pe_un un_neg (pe_glob (by rfl) g_HALF_TURN (show RelV (.int 1800000000) _ from ⟨_, rfl⟩))) (pv 0) (pe_glob (by rfl) g_HALF_TURN (show RelV (.int 1800000000) _ from ⟨_, rfl⟩))))), ?_⟩
    exact s_ret (ev_chain (ev_un ev_c ru_neg) (ev_var rfl) ev_c rv_I0 rv_I0) q
theorem lat_is {H : Hp} {a : Int} : SpV spLat [.int a] H (.bl (latOk a)) := fun H1 e1 Q1 q1 E1 => ⟨a, rfl, q1⟩
theorem lon_is {H : Hp} {a : Int} : SpV spLon [.int a] H (.bl (lonOk a)) := fun H1 e1 Q1 q1 E1 => ⟨a, rfl, q1⟩
/-! ### projections told -/
def NMs : List Str := ["plate", "mercator", "lambert", "sinus", "gnomonic", "stereo", "ortho", "disk", "albers", "cone"]
def NM : List V := [.str "plate", .str "mercator", .str "lambert", .str "sinus", .str "gnomonic", .str "stereo", .str "ortho", .str "disk", .str "albers", .str "cone"]
def AZ : List V := [.str "gnomonic", .str "stereo", .str "ortho", .str "disk"]
def CO : List V := [.str "albers", .str "cone"]
def WP : List V := [.str "plate", .str "lambert"]
def MS : List V := [.str "mercator", .str "sinus"]
def CF : List V := [.str "mercator", .str "stereo", .str "cone"]
def EA : List V := [.str "lambert", .str "sinus", .str "disk", .str "albers"]
/-- what the top says of the tuples -/
structure Tups (K : PySem.W.Frag) (mg : Str → Option Value) (aN aA aC aW aF aE : Addr) : Prop where
  gN : mg "NAMES" = some (.ref aN)
  gA : mg "AZIMUTHAL" = some (.ref aA)
  gC : mg "CONIC" = some (.ref aC)
  gW : mg "WITH_ONE_PARALLEL" = some (.ref aW)
  gF : mg "CONFORMAL" = some (.ref aF)
  gE : mg "EQUAL_AREA" = some (.ref aE)
  yN : ∃ o, K.lookup aN = some o ∧ o.cls = .type "tuple" ∧ o.dict = none
  tN : ∀ H, SqT K H aN NM
  tA : ∀ H, SqT K H aA AZ
  tC : ∀ H, SqT K H aC CO
  tW : ∀ H, SqT K H aW WP
  tF : ∀ H, SqT K H aF CF
  tE : ∀ H, SqT K H aE EA
theorem rv_in {H : Hp} {p : Addr} {nm : Str} {xs : List V} (h : SqT K H p xs) (hf : xs.all flatV = true) : RV (rIn K false) (.str nm) (.ref p) H (.bl (inV (.str nm) xs)) := fun H1 e Q q => ⟨p, xs, rfl, .inr (ex_t e h), rfl, hf, q H1 (Ex.refl _)⟩
theorem rv_nin {H : Hp} {p : Addr} {nm : Str} {xs : List V} (h : SqT K H p xs) (hf : xs.all flatV = true) : RV (rIn K true) (.str nm) (.ref p) H (.bl (!inV (.str nm) xs)) := fun H1 e Q q => ⟨p, xs, rfl, .inr (ex_t e h), rfl, hf, q H1 (Ex.refl _)⟩
def latCone (nm : Str) (a : Int) : Bool := if decide (V.str nm = V.str "cone") = true then (decide (-850000000 ≤ a) && decide (a ≤ 850000000)) else latOk a
def parOk (c d : Int) : Bool := (decide (-800000000 ≤ c) && (decide (c < d) && decide (d ≤ 800000000))) && decide ((10000000 : Int) ≤ ((c + d).natAbs : Int))
def z0 (a : Int) : Bool := decide (V.int a = V.int 0)
def isP (nm : Str) (a b c d : Int) : Bool :=
  if (!inV (.str nm) NM || !lonOk b) = true then false
  else if inV (.str nm) CO = true then (latCone nm a && parOk c d)
  else if inV (.str nm) AZ = true then (latOk a && (z0 c && z0 d))
  else if inV (.str nm) WP = true then (z0 a && ((decide (0 ≤ c) && decide (c ≤ 800000000)) && z0 d))
  else (z0 a && (z0 c && z0 d))
def spCone : Sp := fun vs H Q _ => ∃ (nm : Str) (a : Int), vs = [.str nm, .int a] ∧ RetV (.bl (latCone nm a)) H Q
theorem ok_cone {f f0 : Addr} {fd fd0 : FuncData} (F : Fun K "is_latitude_of_cone" "is_latitude_of_cone" s_is_latitude_of_cone f fd) (F_is_latitude : Fun K "is_latitude" "is_latitude" s_is_latitude f0 fd0) (b_is_latitude : Binds K fd0 ["angle"] []) (g_is_latitude : mg "is_latitude" = some (.ref f0))
    {t0 t1 : Tok} (g_RIGHT_ANGLE : mg "RIGHT_ANGLE" = some (.int 900000000 t0)) (g_GREATEST_OF_CONE : mg "GREATEST_OF_CONE" = some (.int 850000000 t1)) : FnOk P w K mg base CX0 2 f fd ["name", "lat0"] spCone := by
  have G_is_latitude : FnOk P w K mg base CX0 1 f0 fd0 ["angle"] spLat := ok_lat F_is_latitude g_RIGHT_ANGLE
  refine F.ok sc_is_latitude_of_cone (fun vs H Q E h => ?_) (fun cdv A outer s H vs Q E hr h => ?_)
  · obtain ⟨nm, a, rfl, _⟩ := h
    rfl
  · obtain ⟨nm, a, rfl, q⟩ := h
    refine ⟨_, (pss_cons (ps_if (pt_cmpR op_eq (pv 0) pe_str (nomark _)) (pss_one (ps_ret (pe_chain op_le op_le (pe_un un_neg (pe_glob (by rfl) g_GREATEST_OF_CONE (show RelV (.int 850000000) _ from ⟨_, rfl⟩))) (pv 1) (pe_glob (by rfl) g_GREATEST_OF_CONE (show RelV (.int 850000000) _ from ⟨_, rfl⟩))))) pss_nil)
        (pss_one (ps_ret (pe_call G_is_latitude (hr.mono (by decide)) (by rfl) g_is_latitude F_is_latitude.kp b_is_latitude .nil pass0 (pa_cons (pv 1) pa_nil))))), ?_⟩
    unfold latCone at q
    refine q_when (et_test (ev_op (ev_var rfl) ev_c (rv_eq rfl))) (fun hb H1 e1 => ?_) (fun hb H1 e1 => ?_)
    · rw [if_pos hb] at q
      exact s_ret (ev_chain (ev_un ev_c ru_neg) (ev_var rfl) ev_c rv_I0 rv_I0) fun H2 e2 => q H2 (e1.trans e2)
    · rw [if_neg (by rw [hb]; decide)] at q
      exact s_ret (ev_call (ea_cons (ev_var rfl) ea_nil) lat_is) fun H2 e2 => q H2 (e1.trans e2)
def spPar : Sp := fun vs H Q _ => ∃ c d : Int, vs = [.int c, .int d] ∧ RetV (.bl (parOk c d)) H Q
theorem ok_par {f : Addr} {fd : FuncData} (F : Fun K "are_parallels" "are_parallels" s_are_parallels f fd) {t0 t1 : Tok} (g_DEGREE : mg "DEGREE" = some (.int 10000000 t0)) (g_GREATEST_PARALLEL : mg "GREATEST_PARALLEL" = some (.int 800000000 t1)) (m_abs : mg "abs" = none) : FnOk P w K mg base CX0 1 f fd ["lat1", "lat2"] spPar := by
  refine F.ok sc_are_parallels (fun vs H Q E h => ?_) (fun cdv A outer s H vs Q E hr h => ?_)
  · obtain ⟨c, d, rfl, _⟩ := h
    rfl
  · obtain ⟨c, d, rfl, q⟩ := h
    refine ⟨_, (pss_one (ps_ret (pe_and (pe_chain3 op_le op_lt op_le (pe_un un_neg (pe_glob (by rfl) g_GREATEST_PARALLEL (show RelV (.int 800000000) _ from ⟨_, rfl⟩))) (pv 0) (pv 1) (pe_glob (by rfl) g_GREATEST_PARALLEL (show RelV (.int 800000000) _ from ⟨_, rfl⟩))) (pe_one (pe_cmpR op_ge (pe_callB call_abs (by rfl) m_abs (by decide +kernel) (pa_cons (pe_op op_add (pv 0) (pv 1)) pa_nil)) (pe_glob (by rfl) g_DEGREE (show RelV (.int 10000000) _ from ⟨_, rfl⟩)) (nomark _)))))), ?_⟩
    exact s_ret (ev_andV (ev_chain3 (ev_un ev_c ru_neg) (ev_var rfl) (ev_var rfl) ev_c rv_I0 rv_I0 rv_I0) fun _ => (ev_op (ev_cb (ea_cons (ev_op (ev_var rfl) (ev_var rfl) rv_I0) ea_nil) rc_abs) ev_c rv_I0)) q
def spIsP (K : PySem.W.Frag) : Sp := fun vs H Q _ => ∃ (p : Addr) (nm : Str) (a b c d : Int), vs = [.ref p] ∧ SqT K H p [.str nm, .int a, .int b, .int c, .int d] ∧ RetV (.bl (isP nm a b c d)) H Q
theorem ok_isp {f f0 f1 f2 f3 aN aA aC aW aF aE : Addr} {fd fd0 fd1 fd2 fd3 : FuncData} (F : Fun K "is_projection" "is_projection" s_is_projection f fd) (U : Tups K mg aN aA aC aW aF aE)
    (F_is_latitude : Fun K "is_latitude" "is_latitude" s_is_latitude f0 fd0) (b_is_latitude : Binds K fd0 ["angle"] []) (g_is_latitude : mg "is_latitude" = some (.ref f0)) (F_is_longitude : Fun K "is_longitude" "is_longitude" s_is_longitude f1 fd1) (b_is_longitude : Binds K fd1 ["angle"] []) (g_is_longitude : mg "is_longitude" = some (.ref f1))
    (F_is_latitude_of_cone : Fun K "is_latitude_of_cone" "is_latitude_of_cone" s_is_latitude_of_cone f2 fd2) (b_is_latitude_of_cone : Binds K fd2 ["name", "lat0"] []) (g_is_latitude_of_cone : mg "is_latitude_of_cone" = some (.ref f2)) (F_are_parallels : Fun K "are_parallels" "are_parallels" s_are_parallels f3 fd3) (b_are_parallels : Binds K fd3 ["lat1", "lat2"] []) (g_are_parallels : mg "are_parallels" = some (.ref f3))
    {t0 t1 t2 t3 t4 : Tok} (g_DEGREE : mg "DEGREE" = some (.int 10000000 t0)) (g_RIGHT_ANGLE : mg "RIGHT_ANGLE" = some (.int 900000000 t1)) (g_HALF_TURN : mg "HALF_TURN" = some (.int 1800000000 t2)) (g_GREATEST_PARALLEL : mg "GREATEST_PARALLEL" = some (.int 800000000 t3)) (g_GREATEST_OF_CONE : mg "GREATEST_OF_CONE" = some (.int 850000000 t4)) (m_abs : mg "abs" = none) : FnOk P w K mg base CX0 3 f fd ["value"] (spIsP K) := by
  have G_is_latitude : FnOk P w K mg base CX0 1 f0 fd0 ["angle"] spLat := ok_lat F_is_latitude g_RIGHT_ANGLE
  have G_is_longitude : FnOk P w K mg base CX0 1 f1 fd1 ["angle"] spLon := ok_lon F_is_longitude g_HALF_TURN
  have G_is_latitude_of_cone : FnOk P w K mg base CX0 2 f2 fd2 ["name", "lat0"] spCone := ok_cone F_is_latitude_of_cone F_is_latitude b_is_latitude g_is_latitude g_RIGHT_ANGLE g_GREATEST_OF_CONE
  have G_are_parallels : FnOk P w K mg base CX0 1 f3 fd3 ["lat1", "lat2"] spPar := ok_par F_are_parallels g_DEGREE g_GREATEST_PARALLEL m_abs
  have g_NAMES := U.gN
  have g_AZIMUTHAL := U.gA
  have g_CONIC := U.gC
  have g_WITH_ONE_PARALLEL := U.gW
  refine F.ok sc_is_projection (fun vs H Q E h => ?_) (fun cdv A outer s H vs Q E hr h => ?_)
  · obtain ⟨p, nm, a, b, c, d, rfl, _⟩ := h
    rfl
  · obtain ⟨p, nm, a, b, c, d, rfl, t_v, q⟩ := h
    refine ⟨_, (pss_cons (ps_asg (pv 0) (pg_tup rfl (pgs_cons (pg_name (i := 1) sc_is_projection.nd rfl (.inl rfl)) (pgs_cons (pg_name (i := 2) sc_is_projection.nd rfl (.inl rfl)) (pgs_cons (pg_name (i := 3) sc_is_projection.nd rfl (.inl rfl)) (pgs_cons (pg_name (i := 4) sc_is_projection.nd rfl (.inl rfl)) (pgs_cons (pg_name (i := 5) sc_is_projection.nd rfl (.inl rfl)) pgs_nil)))))))
        (pss_cons (ps_if (PW.pt (pw_or (pt_cmpR op_notIn_seq (pv 1) (pe_glob (by rfl) g_NAMES (show RelV (.ref _) _ from rfl)) (by rfl)) (pw_or1 (pt_not (pt_val (pe_call G_is_longitude (hr.mono (by decide)) (by rfl) g_is_longitude F_is_longitude.kp b_is_longitude .nil pass0 (pa_cons (pv 3) pa_nil))))))) (pss_one (ps_ret pe_bl)) pss_nil)
        (pss_cons (ps_if (pt_cmpR op_in_seq (pv 1) (pe_glob (by rfl) g_CONIC (show RelV (.ref _) _ from rfl)) (by rfl)) (pss_one (ps_ret (pe_and (pe_call G_is_latitude_of_cone (hr.mono (by decide)) (by rfl) g_is_latitude_of_cone F_is_latitude_of_cone.kp b_is_latitude_of_cone .nil pass0 (pa_cons (pv 1) (pa_cons (pv 2) pa_nil))) (pe_one (pe_call G_are_parallels (hr.mono (by decide)) (by rfl) g_are_parallels F_are_parallels.kp b_are_parallels .nil pass0 (pa_cons (pv 4) (pa_cons (pv 5) pa_nil))))))) pss_nil)
        (pss_cons (ps_if (pt_cmpR op_in_seq (pv 1) (pe_glob (by rfl) g_AZIMUTHAL (show RelV (.ref _) _ from rfl)) (by rfl)) (pss_one (ps_ret (pe_and (pe_call G_is_latitude (hr.mono (by decide)) (by rfl) g_is_latitude F_is_latitude.kp b_is_latitude .nil pass0 (pa_cons (pv 2) pa_nil)) (pe_and (pe_cmpR op_eq (pv 4) pe_int (nomark _)) (pe_one (pe_cmpR op_eq (pv 5) pe_int (nomark _))))))) pss_nil)
        (pss_cons (ps_if (pt_cmpR op_in_seq (pv 1) (pe_glob (by rfl) g_WITH_ONE_PARALLEL (show RelV (.ref _) _ from rfl)) (by rfl)) (pss_one (ps_ret (pe_and (pe_cmpR op_eq (pv 2) pe_int (nomark _)) (pe_and (pe_chain op_le op_le pe_int (pv 4) (pe_glob (by rfl) g_GREATEST_PARALLEL (show RelV (.int 800000000) _ from ⟨_, rfl⟩))) (pe_one (pe_cmpR op_eq (pv 5) pe_int (nomark _))))))) pss_nil)
        (pss_one (ps_ret (pe_and (pe_cmpR op_eq (pv 2) pe_int (nomark _)) (pe_and (pe_cmpR op_eq (pv 4) pe_int (nomark _)) (pe_one (pe_cmpR op_eq (pv 5) pe_int (nomark _)))))))))))), ?_⟩
    refine ⟨_, rfl, p, _, rfl, t_v, rfl, _, _, rfl, _, _, rfl, _, _, rfl, _, _, rfl, _, _, rfl, rfl, ?_⟩
    refine st_is (σ' := [some (.ref p), some (.str nm), some (.int a), some (.int b), some (.int c), some (.int d)]) rfl ?_
    unfold isP at q
    refine q_when (et_or (et_test (ev_op (ev_var rfl) ev_c (rv_nin (U.tN _) rfl))) fun _ => (et_not (et_B (ev_call (ea_cons (ev_var rfl) ea_nil) lon_is)))) (fun hb H1 e1 => ?_) (fun hb H1 e1 => ?_)
    · rw [if_pos hb] at q
      exact s_ret ev_c fun H2 e2 => q H2 (e1.trans e2)
    rw [if_neg (by rw [hb]; decide)] at q
    refine q_when (et_test (ev_op (ev_var rfl) ev_c (rv_in (U.tC _) rfl))) (fun hb H2 e2 => ?_) (fun hb H2 e2 => ?_)
    · rw [if_pos hb] at q
      exact s_ret (ev_andV (ev_call (ea_cons (ev_var rfl) (ea_cons (ev_var rfl) ea_nil)) (fun H3 e3 Q3 q3 E3 => ⟨nm, a, rfl, q3⟩)) fun _ => (ev_call (ea_cons (ev_var rfl) (ea_cons (ev_var rfl) ea_nil)) (fun H3 e3 Q3 q3 E3 => ⟨c, d, rfl, q3⟩))) fun H3 e3 => q H3 (e1.trans (e2.trans e3))
    rw [if_neg (by rw [hb]; decide)] at q
    refine q_when (et_test (ev_op (ev_var rfl) ev_c (rv_in (U.tA _) rfl))) (fun hb H3 e3 => ?_) (fun hb H3 e3 => ?_)
    · rw [if_pos hb] at q
      exact s_ret (ev_andV (ev_call (ea_cons (ev_var rfl) ea_nil) lat_is) fun _ => (ev_andV (ev_op (ev_var rfl) ev_c (rv_eq rfl)) fun _ => (ev_op (ev_var rfl) ev_c (rv_eq rfl)))) fun H4 e4 => q H4 (e1.trans (e2.trans (e3.trans e4)))
    rw [if_neg (by rw [hb]; decide)] at q
    refine q_when (et_test (ev_op (ev_var rfl) ev_c (rv_in (U.tW _) rfl))) (fun hb H4 e4 => ?_) (fun hb H4 e4 => ?_)
    · rw [if_pos hb] at q
      exact s_ret (ev_andV (ev_op (ev_var rfl) ev_c (rv_eq rfl)) fun _ => (ev_andV (ev_chain ev_c (ev_var rfl) ev_c rv_I0 rv_I0) fun _ => (ev_op (ev_var rfl) ev_c (rv_eq rfl)))) fun H5 e5 => q H5 (e1.trans (e2.trans (e3.trans (e4.trans e5))))
    rw [if_neg (by rw [hb]; decide)] at q
    exact s_ret (ev_andV (ev_op (ev_var rfl) ev_c (rv_eq rfl)) fun _ => (ev_andV (ev_op (ev_var rfl) ev_c (rv_eq rfl)) fun _ => (ev_op (ev_var rfl) ev_c (rv_eq rfl)))) fun H5 e5 => q H5 (e1.trans (e2.trans (e3.trans (e4.trans e5))))
def kindF (nm : Str) : Str := if inV (.str nm) CF = true then "conformal" else if inV (.str nm) EA = true then "equal-area" else "other"
def spKind (K : PySem.W.Frag) : Sp := fun vs H Q _ => ∃ (p : Addr) (nm : Str) (a b c d : Int), vs = [.ref p] ∧ SqT K H p [.str nm, .int a, .int b, .int c, .int d] ∧ RetV (.str (kindF nm)) H Q
theorem ok_kind {f aN aA aC aW aF aE : Addr} {fd : FuncData} (F : Fun K "kind_of" "kind_of" s_kind_of f fd) (U : Tups K mg aN aA aC aW aF aE) : FnOk P w K mg base CX0 1 f fd ["projection"] (spKind K) := by
  have g_CONFORMAL := U.gF
  have g_EQUAL_AREA := U.gE
  refine F.ok sc_kind_of (fun vs H Q E h => ?_) (fun cdv A outer s H vs Q E hr h => ?_)
  · obtain ⟨p, nm, a, b, c, d, rfl, _⟩ := h
    rfl
  · obtain ⟨p, nm, a, b, c, d, rfl, t_v, q⟩ := h
    refine ⟨_, (pss_cons (ps_set (i := 1) sc_kind_of.nd rfl (.inl rfl) (pe_ix ix_tup (pv 0) pe_int (fun _ _ => rfl)))
        (pss_cons (ps_if (pt_cmpR op_in_seq (pv 1) (pe_glob (by rfl) g_CONFORMAL (show RelV (.ref _) _ from rfl)) (by rfl)) (pss_one (ps_ret pe_str)) pss_nil)
        (pss_cons (ps_if (pt_cmpR op_in_seq (pv 1) (pe_glob (by rfl) g_EQUAL_AREA (show RelV (.ref _) _ from rfl)) (by rfl)) (pss_one (ps_ret pe_str)) pss_nil)
        (pss_one (ps_ret pe_str))))), ?_⟩
    refine q_asg (ev_op (ev_var rfl) ev_c (rv_ixT t_v rfl)) fun H1 e1 => ?_
    refine st_is (σ' := [_, _]) rfl ?_
    unfold kindF at q
    refine q_when (et_test (ev_op (ev_var rfl) ev_c (rv_in (U.tF _) rfl))) (fun hb H2 e2 => ?_) (fun hb H2 e2 => ?_)
    · rw [if_pos hb] at q
      exact s_ret ev_c fun H3 e3 => q H3 (e1.trans (e2.trans e3))
    rw [if_neg (by rw [hb]; decide)] at q
    refine q_when (et_test (ev_op (ev_var rfl) ev_c (rv_in (U.tE _) rfl))) (fun hb H3 e3 => ?_) (fun hb H3 e3 => ?_)
    · rw [if_pos hb] at q
      exact s_ret ev_c fun H4 e4 => q H4 (e1.trans (e2.trans (e3.trans e4)))
    rw [if_neg (by rw [hb]; decide)] at q
    exact s_ret ev_c fun H4 e4 => q H4 (e1.trans (e2.trans (e3.trans e4)))
/-! ### the law's own defs -/
theorem q_asgP {σ : L2.St} {H : Hp} {te : TE} {D : Ends} {tz : TS} {i : Nat} (P : V → Hp → Prop) (h : ∀ Q : VK, (∀ v H1, Ex H H1 → P v H1 → Q v H1) → te σ H Q) (k : ∀ v H1, Ex H H1 → P v H1 → tz D (σ.set i (some v)) H1) : tSeq (tAsg te (gName i)) tz D σ H := h _ k
theorem ev_opUV {σ : L2.St} {H : Hp} {ta tb : TE} {r : R2} {xs : List V} {y z : V} (ha : EvU ta σ H xs) (hb : Ev tb σ H y) (hr : ∀ p H1, H1 p = some (.tup xs) → Ex H H1 → RV r (.ref p) y H1 z) : Ev (tOp r ta tb) σ H z := fun H1 e Q q =>
  ha H1 e _ fun p H2 np e2 hp => hb H2 (e.trans e2) _ fun H3 e3 => hr p H3 (e3 _ _ hp) ((e.trans e2).trans e3) H3 (Ex.refl H3) Q fun H4 e4 => q H4 ((e2.trans e3).trans e4)
theorem names4 {k : Nat} {nm : Str} (h : NMs[k]? = some nm) : inV (.str nm) NM = true ∧
    ((inV (.str nm) WP = true ∧ inV (.str nm) AZ = false ∧ inV (.str nm) CO = false) ∨ (inV (.str nm) WP = false ∧ inV (.str nm) MS = true ∧ inV (.str nm) AZ = false ∧ inV (.str nm) CO = false) ∨
     (inV (.str nm) WP = false ∧ inV (.str nm) MS = false ∧ inV (.str nm) AZ = true ∧ inV (.str nm) CO = false) ∨ (inV (.str nm) WP = false ∧ inV (.str nm) MS = false ∧ inV (.str nm) AZ = false ∧ inV (.str nm) CO = true)) := by
  have hk : k < 10 := (List.getElem?_eq_some_iff.mp h).1
  match k, hk, h with
  | 0, _, h => cases Option.some.inj h; decide +kernel
  | 1, _, h => cases Option.some.inj h; decide +kernel
  | 2, _, h => cases Option.some.inj h; decide +kernel
  | 3, _, h => cases Option.some.inj h; decide +kernel
  | 4, _, h => cases Option.some.inj h; decide +kernel
  | 5, _, h => cases Option.some.inj h; decide +kernel
  | 6, _, h => cases Option.some.inj h; decide +kernel
  | 7, _, h => cases Option.some.inj h; decide +kernel
  | 8, _, h => cases Option.some.inj h; decide +kernel
  | 9, _, h => cases Option.some.inj h; decide +kernel
theorem item10 {i : Int} (h : 0 ≤ i ∧ i < 10) : ∃ (k : Nat) (nm : Str), atI NM i = some (.str nm) ∧ NMs[k]? = some nm := by
  have h3 : i = 0 ∨ i = 1 ∨ i = 2 ∨ i = 3 ∨ i = 4 ∨ i = 5 ∨ i = 6 ∨ i = 7 ∨ i = 8 ∨ i = 9 := by omega
  rcases h3 with rfl | rfl | rfl | rfl | rfl | rfl | rfl | rfl | rfl | rfl
  · exact ⟨0, _, rfl, rfl⟩
  · exact ⟨1, _, rfl, rfl⟩
  · exact ⟨2, _, rfl, rfl⟩
  · exact ⟨3, _, rfl, rfl⟩
  · exact ⟨4, _, rfl, rfl⟩
  · exact ⟨5, _, rfl, rfl⟩
  · exact ⟨6, _, rfl, rfl⟩
  · exact ⟨7, _, rfl, rfl⟩
  · exact ⟨8, _, rfl, rfl⟩
  · exact ⟨9, _, rfl, rfl⟩
theorem item2 {x : Int} {i : Int} (h : 0 ≤ i ∧ i < 2) (hx : 0 ≤ x ∧ x ≤ 800000000) : ∃ z : Int, atI [V.int x, V.int 0] i = some (.int z) ∧ 0 ≤ z ∧ z ≤ 800000000 := by
  have h3 : i = 0 ∨ i = 1 := by omega
  rcases h3 with rfl | rfl
  · exact ⟨x, rfl, hx⟩
  · exact ⟨0, rfl, by decide, by decide⟩
theorem item6c {x : Int} {i : Int} (h : 0 ≤ i ∧ i < 6) (hx : 0 ≤ x ∧ x ≤ 800000000) : ∃ z : Int, atI [V.int x, V.int (-x), V.int 0, V.int 900000000, V.int (-900000000), V.int (x + 100000000)] i = some (.int z) ∧ latOk z = true := by
  have ok : ∀ z : Int, -900000000 ≤ z → z ≤ 900000000 → latOk z = true := fun z h1 h2 => by
    unfold latOk
    rw [decide_eq_true h1, decide_eq_true h2]
    rfl
  have h3 : i = 0 ∨ i = 1 ∨ i = 2 ∨ i = 3 ∨ i = 4 ∨ i = 5 := by omega
  rcases h3 with rfl | rfl | rfl | rfl | rfl | rfl
  · exact ⟨x, rfl, ok _ (by omega) (by omega)⟩
  · exact ⟨-x, rfl, ok _ (by omega) (by omega)⟩
  · exact ⟨0, rfl, ok _ (by omega) (by omega)⟩
  · exact ⟨900000000, rfl, ok _ (by omega) (by omega)⟩
  · exact ⟨-900000000, rfl, ok _ (by omega) (by omega)⟩
  · exact ⟨x + 100000000, rfl, ok _ (by omega) (by omega)⟩
theorem ev_inT {σ : L2.St} {H : Hp} {ta : TE} {tt : TA} {nm : Str} {xs : List V} (h : Ev ta σ H (.str nm)) (h2 : EvA tt σ H xs) (hz : xs.length ≤ 100000) (hf : xs.all flatV = true) : Ev (tOp (rIn K false) ta (tTup tt)) σ H (.bl (inV (.str nm) xs)) := ev_opU h (eu_tup h2 hz) fun p H1 hp e => rv_in (st_of hp) hf
theorem ev_ninT {σ : L2.St} {H : Hp} {ta : TE} {tt : TA} {nm : Str} {xs : List V} (h : Ev ta σ H (.str nm)) (h2 : EvA tt σ H xs) (hz : xs.length ≤ 100000) (hf : xs.all flatV = true) : Ev (tOp (rIn K true) ta (tTup tt)) σ H (.bl (!inV (.str nm) xs)) := ev_opU h (eu_tup h2 hz) fun p H1 hp e => rv_nin (st_of hp) hf
def spProj : Sp := fun vs H Q _ => ∃ n : Int, vs = [.int n] ∧ ∀ (k : Nat) (nm : Str) (a b c d : Int), NMs[k]? = some nm → isP nm a b c d = true → RetU [.str nm, .int a, .int b, .int c, .int d] H Q
theorem isP_of {nm : Str} {a b c d : Int} (h : inV (.str nm) NM = true) (hb : lonOk b = true) : isP nm a b c d = (if inV (.str nm) CO = true then (latCone nm a && parOk c d)
  else if inV (.str nm) AZ = true then (latOk a && (z0 c && z0 d))
  else if inV (.str nm) WP = true then (z0 a && ((decide (0 ≤ c) && decide (c ≤ 800000000)) && z0 d))
  else (z0 a && (z0 c && z0 d))) := by
  unfold isP
  rw [h, hb, if_neg (by decide)]
theorem lon_ok {x : Int} (h : 0 ≤ x) (h2 : x < 3600000000) : lonOk (x - 1800000000) = true := by
  unfold lonOk
  rw [decide_eq_true (show -1800000000 ≤ x - 1800000000 by omega), decide_eq_true (show x - 1800000000 < 1800000000 by omega)]
  rfl
theorem ok_proj {f : Addr} {fd : FuncData} (F : Fun K "_law_projection" "_law_projection" s_law_projection f fd) (m_abs : mg "abs" = none) (m_int : mg "int" = none) : FnOk P w K mg base CX0 1 f fd ["figure"] spProj := by
  refine F.ok sc_law_projection (fun vs H Q E h => ?_) (fun cdv A outer s H vs Q E hr h => ?_)
  · obtain ⟨n, rfl, _⟩ := h
    rfl
  · obtain ⟨n, rfl, q⟩ := h
    refine ⟨_, (pss_cons (ps_set (i := 1) sc_law_projection.nd rfl (.inl rfl) (pe_callB call_abs (by rfl) m_abs (by decide +kernel) (pa_cons (pe_callTy call_int1 (by rfl) m_int (by decide +kernel) (pa_cons (pv 0) pa_nil)) pa_nil)))
        (pss_cons (ps_set (i := 2) sc_law_projection.nd rfl (.inl rfl) (pe_ix ix_tup (pe_tup (pa_cons pe_str (pa_cons pe_str (pa_cons pe_str (pa_cons pe_str (pa_cons pe_str (pa_cons pe_str (pa_cons pe_str (pa_cons pe_str (pa_cons pe_str (pa_cons pe_str pa_nil))))))))))) (pe_op op_mod (pe_callTy call_int1 (by rfl) m_int (by decide +kernel) (pa_cons (pv 1) pa_nil)) pe_int) (fun _ _ => rfl)))
        (pss_cons (ps_set (i := 3) sc_law_projection.nd rfl (.inl rfl) (pe_op op_sub (pe_op op_mod (pe_op op_fdiv (pv 1) pe_int) pe_int) pe_int))
        (Evl.pss_cut (ps_if (pt_cmpR op_eq (pe_op op_mod (pe_op op_fdiv (pv 1) pe_int) pe_int) pe_int (nomark _)) (pss_one (ps_set (i := 3) sc_law_projection.nd rfl (.inl rfl) pe_int)) pss_nil)
        (pss_cons (ps_set (i := 4) sc_law_projection.nd rfl (.inl rfl) (pe_op op_mod (pe_op op_fdiv (pv 1) pe_int) pe_int))
        (pss_cons (ps_if (pt_cmpR op_in_seq (pv 2) (pe_tup (pa_cons pe_str (pa_cons pe_str pa_nil))) (by rfl)) (pss_one (ps_ret (pe_tup (pa_cons (pv 2) (pa_cons pe_int (pa_cons (pv 3) (pa_cons (pe_ix ix_list (pe_lst (pa_cons (pv 4) (pa_cons pe_int pa_nil))) (pe_op op_mod (pe_op op_fdiv (pv 1) pe_int) pe_int) (fun _ _ => rfl)) (pa_cons pe_int pa_nil)))))))) pss_nil)
        (pss_cons (ps_if (pt_cmpR op_in_seq (pv 2) (pe_tup (pa_cons pe_str (pa_cons pe_str pa_nil))) (by rfl)) (pss_one (ps_ret (pe_tup (pa_cons (pv 2) (pa_cons pe_int (pa_cons (pv 3) (pa_cons pe_int (pa_cons pe_int pa_nil)))))))) pss_nil)
        (pss_cons (ps_if (pt_cmpR op_in_seq (pv 2) (pe_tup (pa_cons pe_str (pa_cons pe_str (pa_cons pe_str (pa_cons pe_str pa_nil))))) (by rfl)) (pss_cons (ps_set (i := 5) sc_law_projection.nd rfl (.inl rfl) (pe_ix ix_list (pe_lst (pa_cons (pv 4) (pa_cons (pe_un un_neg (pv 4)) (pa_cons pe_int (pa_cons pe_int (pa_cons (pe_un un_neg pe_int) (pa_cons (pe_op op_add (pv 4) pe_int) pa_nil))))))) (pe_op op_mod (pe_op op_fdiv (pv 1) pe_int) pe_int) (fun _ _ => rfl)))
        (pss_one (ps_ret (pe_tup (pa_cons (pv 2) (pa_cons (pv 5) (pa_cons (pv 3) (pa_cons pe_int (pa_cons pe_int pa_nil))))))))) pss_nil)
        (pss_cons (ps_set (i := 6) sc_law_projection.nd rfl (.inl rfl) (pe_op op_sub (pe_op op_fdiv (pv 4) pe_int) pe_int))
        (pss_cons (ps_set (i := 7) sc_law_projection.nd rfl (.inl rfl) (pe_op op_add (pe_op op_add (pv 6) pe_int) (pe_op op_mod (pe_op op_fdiv (pv 1) pe_int) pe_int)))
        (Evl.pss_cut (ps_if (pt_cmpR op_lt (pe_callB call_abs (by rfl) m_abs (by decide +kernel) (pa_cons (pe_op op_add (pv 6) (pv 7)) pa_nil)) pe_int (nomark _)) (pss_one (ps_set (i := 7) sc_law_projection.nd rfl (.inl rfl) (pe_op op_add (pv 7) pe_int))) pss_nil)
        (pss_one (ps_ret (pe_tup (pa_cons (pv 2) (pa_cons (pe_op op_sub (pe_op op_mod (pe_op op_fdiv (pv 1) pe_int) pe_int) pe_int) (pa_cons (pv 3) (pa_cons (pv 6) (pa_cons (pv 7) pa_nil))))))))))))))))))), ?_⟩
    refine q_asg (ev_cb (ea_cons (ev_cb (ea_cons (ev_var rfl) ea_nil) rc_intI) ea_nil) rc_abs) fun H1 e1 => ?_
    refine st_is (σ' := [_, _, _, _, _, _, _, _]) rfl ?_
    generalize n.natAbs = m
    obtain ⟨k, nm, hat, hnm⟩ := item10 (i := (m : Int) % 10) ⟨by omega, by omega⟩
    refine q_asg (v := .str nm) (ev_opUV (eu_tup (vs := NM) (ea_cons ev_c (ea_cons ev_c (ea_cons ev_c (ea_cons ev_c (ea_cons ev_c (ea_cons ev_c (ea_cons ev_c (ea_cons ev_c (ea_cons ev_c (ea_cons ev_c ea_nil)))))))))) (show 10 ≤ 100000 by decide)) (ev_op (ev_cb (ea_cons (ev_var rfl) ea_nil) rc_intI) ev_c (rv_I (by decide))) (fun p H2 hp e2 => rv_ixT (st_of hp) hat)) fun H2 e2 => ?_
    refine st_is (σ' := [_, _, _, _, _, _, _, _]) rfl ?_
    refine q_asg (ev_op (ev_op (ev_op (ev_var rfl) ev_c (rv_I ⟨by decide, by decide⟩)) ev_c (rv_I (by decide))) ev_c rv_I0) fun H3 e3 => ?_
    refine st_is (σ' := [_, _, _, _, _, _, _, _]) rfl ?_
    have e03 := e1.trans (e2.trans e3)
    have l1 : lonOk ((m : Int) / 16 % 3600000000 - 1800000000) = true := lon_ok (by omega) (by omega)
    refine q_cut (M := fun σ' H' => ∃ b : Int, lonOk b = true ∧ σ' = [some (.int n), some (.int (m : Int)), some (.str nm), some (.int b), none, none, none, none] ∧ Ex H H') ?_ fun σ' H' M1 => ?_
    · refine s_when (et_test (ev_op (ev_op (ev_op (ev_var rfl) ev_c (rv_I ⟨by decide, by decide⟩)) ev_c (rv_I (by decide))) ev_c (rv_eq rfl))) (fun hb H4 e4 => ?_) (fun hb H4 e4 => ⟨_, l1, rfl, e03.trans e4⟩)
      exact s_asg ev_c fun H5 e5 => ⟨0, by decide, rfl, e03.trans (e4.trans e5)⟩
    obtain ⟨b, hb, rfl, eM⟩ := M1
    obtain ⟨lat, hlat, hl0⟩ : ∃ lat : Int, (m : Int) / 1048576 % 800000001 = lat ∧ (0 ≤ lat ∧ lat ≤ 800000000) := ⟨_, rfl, by omega, by omega⟩
    refine q_asg (ev_is (ev_op (ev_op (ev_var rfl) ev_c (rv_I ⟨by decide, by decide⟩)) ev_c (rv_I (by decide))) (congrArg V.int hlat)) fun H4 e4 => ?_
    refine st_is (σ' := [_, _, _, _, _, _, _, _]) rfl ?_
    have e04 := eM.trans e4
    obtain ⟨hin, hcl⟩ := names4 hnm
    have fin : ∀ {a c d : Int}, isP nm a b c d = true → ∀ {D : Ends} {te : TE} {σ : L2.St} {Hh : Hp}, D.rt = Q → Ex H Hh → EvU te σ Hh [.str nm, .int a, .int b, .int c, .int d] → tRet te D σ Hh := fun {a c d} hp {D te σ Hh} hD eh hev => s_retU hev fun p H9 np e9 h9 => by
      rw [hD]
      exact RetU.go (q k nm a b c d hnm hp) eh np e9 h9
    have z00 : z0 0 = true := by decide
    -- plate, lambert
    refine q_when (et_test (ev_inT (K := K) (xs := WP) (ev_var rfl) (ea_cons ev_c (ea_cons ev_c ea_nil)) (show 2 ≤ 100000 by decide) rfl)) (fun hwp H5 e5 => ?_) (fun hwp H5 e5 => ?_)
    · obtain ⟨z, hz, hz2⟩ := item2 (x := lat) (i := (m : Int) / 64 % 2) ⟨by omega, by omega⟩ hl0
      refine fin (a := 0) (c := z) (d := 0) ?_ rfl (e04.trans e5) (eu_tup (ea_cons (ev_var rfl) (ea_cons ev_c (ea_cons (ev_var rfl) (ea_cons (ev_opL1 (el_lst (ea_cons (ev_var rfl) (ea_cons ev_c ea_nil)) (show 2 ≤ 100000 by decide)) (fun _ _ => (ev_op (ev_op (ev_var rfl) ev_c (rv_I ⟨by decide, by decide⟩)) ev_c (rv_I (by decide)))) (fun _ _ hp _ => rv_ixL (sq_of hp) hz)) (ea_cons ev_c ea_nil))))) (show 5 ≤ 100000 by decide))
      rw [isP_of hin hb]
      rcases hcl with ⟨h1, h2, h3⟩ | ⟨h1, _⟩ | ⟨h1, _⟩ | ⟨h1, _⟩
      · rw [h1, h2, h3, if_neg (by decide), if_neg (by decide), if_pos rfl, z00, decide_eq_true hz2.1, decide_eq_true hz2.2]
        rfl
      all_goals (rw [h1] at hwp; exact nomatch hwp)
    have e05 := e04.trans e5
    -- mercator, sinus
    refine q_when (et_test (ev_inT (K := K) (xs := MS) (ev_var rfl) (ea_cons ev_c (ea_cons ev_c ea_nil)) (show 2 ≤ 100000 by decide) rfl)) (fun hms H6 e6 => ?_) (fun hms H6 e6 => ?_)
    · refine fin (a := 0) (c := 0) (d := 0) ?_ rfl (e05.trans e6) (eu_tup (ea_cons (ev_var rfl) (ea_cons ev_c (ea_cons (ev_var rfl) (ea_cons ev_c (ea_cons ev_c ea_nil))))) (show 5 ≤ 100000 by decide))
      rw [isP_of hin hb]
      rcases hcl with ⟨h1, _⟩ | ⟨h1, h4, h2, h3⟩ | ⟨_, h4, _⟩ | ⟨_, h4, _⟩
      · rw [h1] at hwp
        exact nomatch hwp
      · rw [h1, h2, h3, if_neg (by decide), if_neg (by decide), if_neg (by decide), z00]
        rfl
      all_goals (rw [h4] at hms; exact nomatch hms)
    have e06 := e05.trans e6
    -- azimuthal
    refine q_when (et_test (ev_inT (K := K) (xs := AZ) (ev_var rfl) (ea_cons ev_c (ea_cons ev_c (ea_cons ev_c (ea_cons ev_c ea_nil)))) (show 4 ≤ 100000 by decide) rfl)) (fun haz H7 e7 => ?_) (fun haz H7 e7 => ?_)
    · obtain ⟨z, hz, hz2⟩ := item6c (x := lat) (i := (m : Int) / 64 % 6) ⟨by omega, by omega⟩ hl0
      refine q_asg (ev_opL1 (el_lst (ea_cons (ev_var rfl) (ea_cons (ev_un (ev_var rfl) ru_neg) (ea_cons ev_c (ea_cons ev_c (ea_cons (ev_un ev_c ru_neg) (ea_cons (ev_op (ev_var rfl) ev_c rv_I0) ea_nil)))))) (show 6 ≤ 100000 by decide)) (fun _ _ => (ev_op (ev_op (ev_var rfl) ev_c (rv_I ⟨by decide, by decide⟩)) ev_c (rv_I (by decide)))) (fun _ _ hp _ => rv_ixL (sq_of hp) hz)) fun H8 e8 => ?_
      refine st_is (σ' := [_, _, _, _, _, _, _, _]) rfl ?_
      refine fin (a := z) (c := 0) (d := 0) ?_ rfl (e06.trans (e7.trans e8)) (eu_tup (ea_cons (ev_var rfl) (ea_cons (ev_var rfl) (ea_cons (ev_var rfl) (ea_cons ev_c (ea_cons ev_c ea_nil))))) (show 5 ≤ 100000 by decide))
      rw [isP_of hin hb]
      rcases hcl with ⟨_, h2, _⟩ | ⟨_, _, h2, _⟩ | ⟨h1, h4, h2, h3⟩ | ⟨_, _, h2, _⟩
      · rw [h2] at haz
        exact nomatch haz
      · rw [h2] at haz
        exact nomatch haz
      · rw [h2, h3, if_neg (by decide), if_pos rfl, hz2, z00]
        rfl
      · rw [h2] at haz
        exact nomatch haz
    have e07 := e06.trans e7
    have hco : inV (.str nm) CO = true := by
      rcases hcl with ⟨h1, _⟩ | ⟨_, h4, _⟩ | ⟨_, _, h2, _⟩ | ⟨_, _, _, h3⟩
      · rw [h1] at hwp
        exact nomatch hwp
      · rw [h4] at hms
        exact nomatch hms
      · rw [h2] at haz
        exact nomatch haz
      · exact h3
    obtain ⟨low, hlow, hlo2⟩ : ∃ low : Int, lat / 2 - 300000000 = low ∧ (-300000000 ≤ low ∧ low ≤ 100000000) := ⟨_, rfl, by omega, by omega⟩
    refine q_asg (ev_is (ev_op (ev_op (ev_var rfl) ev_c (rv_I ⟨by decide, by decide⟩)) ev_c rv_I0) (congrArg V.int hlow)) fun H8 e8 => ?_
    refine st_is (σ' := [_, _, _, _, _, _, _, _]) rfl ?_
    obtain ⟨high, hhigh, hhi2⟩ : ∃ high : Int, low + 20000000 + (m : Int) / 1024 % 300000000 = high ∧ (low + 20000000 ≤ high ∧ high < low + 320000000) := ⟨_, rfl, by omega, by omega⟩
    refine q_asg (ev_is (ev_op (ev_op (ev_var rfl) ev_c rv_I0) (ev_op (ev_op (ev_var rfl) ev_c (rv_I ⟨by decide, by decide⟩)) ev_c (rv_I (by decide))) rv_I0) (congrArg V.int hhigh)) fun H9 e9 => ?_
    refine st_is (σ' := [_, _, _, _, _, _, _, _]) rfl ?_
    have e09 := e07.trans (e8.trans e9)
    refine q_cut (M := fun σ' H' => ∃ d : Int, parOk low d = true ∧ σ' = [some (.int n), some (.int (m : Int)), some (.str nm), some (.int b), some (.int lat), none, some (.int low), some (.int d)] ∧ Ex H H') ?_ fun σ' H' M2 => ?_
    · refine s_when (et_test (ev_op (ev_cb (ea_cons (ev_op (ev_var rfl) (ev_var rfl) rv_I0) ea_nil) rc_abs) ev_c rv_I0)) (fun hb10 H10 e10 => ?_) (fun hb10 H10 e10 => ⟨high, ?_, rfl, e09.trans e10⟩)
      · have h10 := of_decide_eq_true hb10
        refine s_asg (ev_op (ev_var rfl) ev_c rv_I0) fun H11 e11 => ⟨_, ?_, rfl, e09.trans (e10.trans e11)⟩
        unfold parOk
        rw [decide_eq_true (show -800000000 ≤ low by omega), decide_eq_true (show low < high + 20000000 by omega), decide_eq_true (show high + 20000000 ≤ 800000000 by omega), decide_eq_true (show (10000000 : Int) ≤ ((low + (high + 20000000)).natAbs : Int) by omega)]
        rfl
      · have h10 := of_decide_eq_false hb10
        unfold parOk
        rw [decide_eq_true (show -800000000 ≤ low by omega), decide_eq_true (show low < high by omega), decide_eq_true (show high ≤ 800000000 by omega), decide_eq_true (show (10000000 : Int) ≤ ((low + high).natAbs : Int) by omega)]
        rfl
    obtain ⟨d, hd, rfl, eM2⟩ := M2
    obtain ⟨z, hz, hz2⟩ : ∃ z : Int, (m : Int) / 256 % 1700000001 - 850000000 = z ∧ (-850000000 ≤ z ∧ z ≤ 850000000) := ⟨_, rfl, by omega, by omega⟩
    refine fin (a := z) (c := low) (d := d) ?_ rfl eM2 (eu_tup (ea_cons (ev_var rfl) (ea_cons (ev_is (ev_op (ev_op (ev_op (ev_var rfl) ev_c (rv_I ⟨by decide, by decide⟩)) ev_c (rv_I (by decide))) ev_c rv_I0) (congrArg V.int hz)) (ea_cons (ev_var rfl) (ea_cons (ev_var rfl) (ea_cons (ev_var rfl) ea_nil))))) (show 5 ≤ 100000 by decide))
    rw [isP_of hin hb, if_pos hco, hd, Bool.and_true]
    unfold latCone
    split
    · rw [decide_eq_true hz2.1, decide_eq_true hz2.2]
      rfl
    · unfold latOk
      rw [decide_eq_true (show -900000000 ≤ z by omega), decide_eq_true (show z ≤ 900000000 by omega)]
      rfl
theorem rc_isiBB {H : Hp} {b : Bool} : RC (rIsi K) [.bl b, .ty "bool"] H (.bl true) := fun H1 e _ q =>
  ⟨.bl b, .ty "bool", .type "bool", .type "bool", true, rfl, .ty _, .base (.bl b), kit_ty (by decide +kernel), q H1 (Ex.refl H1)⟩
theorem ev_gl {σ : L2.St} {H : Hp} (a : Addr) : Ev (tC (.ref a)) σ H (.ref a) := ev_c
theorem ev_tidx {σ : L2.St} {H : Hp} {te : TE} {ys : List Str} {z : Str} {j : Nat} {aN : Addr} (hs : ∀ H, SqT K H aN (ys.map V.str)) (ht : ∃ o, K.lookup aN = some o ∧ o.cls = .type "tuple" ∧ o.dict = none) (h : Ev te σ H (.str z)) (hy : ys[j]? = some z) (hno : ∀ m, m < j → ys[m]? ≠ some z) :
    Ev (tBM K "tuple" (fun x xs H Q => ∃ p, ∃ ys : List Str, ∃ z j, x = .ref p ∧ xs = [.str z] ∧ SqT K H p (ys.map V.str) ∧ ys[j]? = some z ∧ (∀ m, m < j → ys[m]? ≠ some z) ∧ Q (.int (j : Nat)) H) (tC (.ref aN)) (tCons te tNil)) σ H (.int (j : Int)) := fun H1 e1 Q q =>
  ⟨Or.inr (Or.inl ⟨rfl, ht⟩), h H1 e1 _ fun H2 e2 => ⟨aN, ys, z, j, rfl, rfl, hs _, hy, hno, q H2 e2⟩⟩
theorem q_listCall {sp : Sp} {dvs vs : List V} {E : XK} {ta : TA} {σ : L2.St} {H : Hp} {r : List V → Hp → VK → Prop} {Q : VK} (h : EvA ta σ H vs) (k : ∀ H1, Ex H H1 → sp (vs ++ dvs) H1 (fun v H2 => r [v] H2 Q) E) : tCB r (tCons (tCall sp dvs E ta) tNil) σ H Q := h H (Ex.refl H) _ k
/-- the law's own judge -/
def isPL (nm : Str) (a b c d : Int) : Bool :=
  if (!inV (.str nm) NM || (decide (900000000 < (a.natAbs : Int)) || !(decide (-1800000000 ≤ b) && decide (b < 1800000000)))) = true then false
  else if inV (.str nm) CO = true then ((decide (-800000000 ≤ c) && (decide (c < d) && (decide (d ≤ 800000000) && decide ((10000000 : Int) ≤ ((c + d).natAbs : Int))))) && (decide (V.str nm = V.str "albers") || decide ((a.natAbs : Int) ≤ 850000000)))
  else if (!z0 d || (!z0 a && !inV (.str nm) AZ)) = true then false
  else if inV (.str nm) WP = true then (decide (0 ≤ c) && decide (c ≤ 800000000))
  else z0 c
theorem co_two {nm : Str} (h : inV (.str nm) CO = true) : nm = "albers" ∨ nm = "cone" := by
  have h1 : (eqV (.str "albers") (.str nm) || (eqV (.str "cone") (.str nm) || false)) = true := h
  rw [Bool.or_false, Bool.or_eq_true] at h1
  rcases h1 with h | h
  · left
    have : ("albers" : Str) = nm := by simpa [eqV] using h
    exact this.symm
  · right
    have : ("cone" : Str) = nm := by simpa [eqV] using h
    exact this.symm
theorem az_wp {nm : Str} (h : inV (.str nm) AZ = true) : inV (.str nm) WP = false := by
  have h1 : (eqV (.str "gnomonic") (.str nm) || (eqV (.str "stereo") (.str nm) || (eqV (.str "ortho") (.str nm) || (eqV (.str "disk") (.str nm) || false)))) = true := h
  rw [Bool.or_false, Bool.or_eq_true, Bool.or_eq_true, Bool.or_eq_true] at h1
  have go : ∀ x : Str, eqV (.str x) (.str nm) = true → x = nm := fun x hx => by simpa [eqV] using hx
  rcases h1 with h | h | h | h <;> (cases go _ h; decide +kernel)
theorem lat_abs (a : Int) : decide (900000000 < (a.natAbs : Int)) = !latOk a := by
  unfold latOk
  rw [← Bool.decide_and, ← decide_not]
  exact decide_eq_decide.mpr (by omega)
theorem z0_zero {a : Int} (h : z0 a = true) : a = 0 := V.int.inj (of_decide_eq_true h)
theorem bool_eq : ∀ (co la lc po al ab az wp za zc zd w1 : Bool), (co = true → lc = (la && (al || ab))) → (az = true → wp = false) → (za = true → la = true) →
    (if co = true then (lc && po) else if az = true then (la && (zc && zd)) else if wp = true then (za && (w1 && zd)) else (za && (zc && zd))) =
    (if (!la) = true then false else if co = true then (po && (al || ab)) else if (!zd || (!za && !az)) = true then false else if wp = true then w1 else zc) := by decide +kernel
theorem isP_eq (nm : Str) (a b c d : Int) : isP nm a b c d = isPL nm a b c d := by
  have hpar : (decide (-800000000 ≤ c) && (decide (c < d) && (decide (d ≤ 800000000) && decide ((10000000 : Int) ≤ ((c + d).natAbs : Int))))) = parOk c d := by
    unfold parOk
    cases decide (-800000000 ≤ c) <;> cases decide (c < d) <;> cases decide (d ≤ 800000000) <;> rfl
  have hcone : inV (.str nm) CO = true → latCone nm a = (latOk a && (decide (V.str nm = V.str "albers") || decide ((a.natAbs : Int) ≤ 850000000))) := fun hco => by
    rcases co_two hco with rfl | rfl
    · unfold latCone
      rw [if_neg (by decide +kernel), decide_eq_true rfl, Bool.true_or, Bool.and_true]
    · unfold latCone latOk
      rw [if_pos (by decide +kernel), decide_eq_false (show ¬ V.str "cone" = V.str "albers" by decide +kernel), Bool.false_or, ← Bool.decide_and, ← Bool.decide_and, ← Bool.decide_and]
      exact decide_eq_decide.mpr (by omega)
  have hza : z0 a = true → latOk a = true := fun h => by
    rw [z0_zero h]
    decide
  have key := bool_eq (inV (.str nm) CO) (latOk a) (latCone nm a) (parOk c d) (decide (V.str nm = V.str "albers")) (decide ((a.natAbs : Int) ≤ 850000000)) (inV (.str nm) AZ) (inV (.str nm) WP) (z0 a) (z0 c) (z0 d) (decide (0 ≤ c) && decide (c ≤ 800000000)) hcone az_wp hza
  unfold isP isPL
  rw [lat_abs, hpar, show (decide (-1800000000 ≤ b) && decide (b < 1800000000)) = lonOk b from rfl]
  cases inV (.str nm) NM with
  | false => rfl
  | true =>
    cases lonOk b with
    | false => cases latOk a <;> rfl
    | true =>
      rw [show (!true || !true) = false from rfl, if_neg (by decide), key]
      rw [show (!true || (!latOk a || !true)) = !latOk a by cases latOk a <;> rfl]
def spIsPL (K : PySem.W.Frag) : Sp := fun vs H Q _ => ∃ (p : Addr) (nm : Str) (a b c d : Int), vs = [.ref p] ∧ SqT K H p [.str nm, .int a, .int b, .int c, .int d] ∧ RetV (.bl (isP nm a b c d)) H Q
theorem ok_ispl {f : Addr} {fd : FuncData} (F : Fun K "_law_is_projection" "_law_is_projection" s_law_is_projection f fd) (m_abs : mg "abs" = none) : FnOk P w K mg base CX0 1 f fd ["value"] (spIsPL K) := by
  refine F.ok sc_law_is_projection (fun vs H Q E h => ?_) (fun cdv A outer s H vs Q E hr h => ?_)
  · obtain ⟨p, nm, a, b, c, d, rfl, _⟩ := h
    rfl
  · obtain ⟨p, nm, a, b, c, d, rfl, tv, q⟩ := h
    refine ⟨_, (pss_cons (ps_set (i := 1) sc_law_is_projection.nd rfl (.inl rfl) (pe_ix ix_tup (pv 0) pe_int (fun _ _ => rfl)))
        (pss_cons (ps_set (i := 2) sc_law_is_projection.nd rfl (.inl rfl) (pe_ix ix_tup (pv 0) pe_int (fun _ _ => rfl)))
        (pss_cons (ps_set (i := 3) sc_law_is_projection.nd rfl (.inl rfl) (pe_ix ix_tup (pv 0) pe_int (fun _ _ => rfl)))
        (pss_cons (ps_set (i := 4) sc_law_is_projection.nd rfl (.inl rfl) (pe_ix ix_tup (pv 0) pe_int (fun _ _ => rfl)))
        (pss_cons (ps_set (i := 5) sc_law_is_projection.nd rfl (.inl rfl) (pe_tup (pa_cons pe_str (pa_cons pe_str (pa_cons pe_str (pa_cons pe_str (pa_cons pe_str (pa_cons pe_str (pa_cons pe_str (pa_cons pe_str (pa_cons pe_str (pa_cons pe_str pa_nil))))))))))))
        (pss_cons (ps_if (PW.pt (pw_or (pt_cmpR op_notIn_seq (pv 1) (pv 5) (by rfl)) (pw_or (pt_cmpR op_gt (pe_callB call_abs (by rfl) m_abs (by decide +kernel) (pa_cons (pv 2) pa_nil)) pe_int (nomark _)) (pw_or1 (pt_not (pt_chain op_le op_lt (pe_un un_neg pe_int) (pe_ix ix_tup (pv 0) pe_int (fun _ _ => rfl)) pe_int)))))) (pss_one (ps_ret pe_bl)) pss_nil)
        (pss_cons (ps_if (pt_cmpR op_in_seq (pv 1) (pe_tup (pa_cons pe_str (pa_cons pe_str pa_nil))) (by rfl)) (pss_cons (ps_set (i := 6) sc_law_is_projection.nd rfl (.inl rfl) (pe_and (pe_cmpR op_le (pe_un un_neg pe_int) (pv 3) (nomark _)) (pe_and (pe_cmpR op_lt (pv 3) (pv 4) (nomark _)) (pe_and (pe_cmpR op_le (pv 4) pe_int (nomark _)) (pe_one (pe_cmpR op_ge (pe_callB call_abs (by rfl) m_abs (by decide +kernel) (pa_cons (pe_op op_add (pv 3) (pv 4)) pa_nil)) pe_int (nomark _)))))))
        (pss_one (ps_ret (pe_and (pv 6) (pe_one (pe_or (pe_cmpR op_eq (pv 1) pe_str (nomark _)) (pe_one (pe_cmpR op_le (pe_callB call_abs (by rfl) m_abs (by decide +kernel) (pa_cons (pv 2) pa_nil)) pe_int (nomark _))))))))) pss_nil)
        (pss_cons (ps_if (PW.pt (pw_or (pt_cmpR op_ne (pv 4) pe_int (nomark _)) (pw_or1 (PW.pt (pw_and (pt_cmpR op_ne (pv 2) pe_int (nomark _)) (pw_and1 (pt_cmpR op_notIn_seq (pv 1) (pe_tup (pa_cons pe_str (pa_cons pe_str (pa_cons pe_str (pa_cons pe_str pa_nil))))) (by rfl)))))))) (pss_one (ps_ret pe_bl)) pss_nil)
        (pss_cons (ps_if (pt_cmpR op_in_seq (pv 1) (pe_tup (pa_cons pe_str (pa_cons pe_str pa_nil))) (by rfl)) (pss_one (ps_ret (pe_and (pe_cmpR op_le pe_int (pv 3) (nomark _)) (pe_one (pe_cmpR op_le (pv 3) pe_int (nomark _)))))) pss_nil)
        (pss_one (ps_ret (pe_cmpR op_eq (pv 3) pe_int (nomark _))))))))))))), ?_⟩
    rw [isP_eq] at q
    unfold isPL at q
    refine q_asg (ev_op (ev_var rfl) ev_c (rv_ixT tv rfl)) fun H1 e1 => ?_
    refine st_is (σ' := [_, _, _, _, _, _, _]) rfl ?_
    refine q_asg (ev_op (ev_var rfl) ev_c (rv_ixT (ex_t e1 tv) rfl)) fun H2 e2 => ?_
    refine st_is (σ' := [_, _, _, _, _, _, _]) rfl ?_
    refine q_asg (ev_op (ev_var rfl) ev_c (rv_ixT (ex_t (e1.trans e2) tv) rfl)) fun H3 e3 => ?_
    refine st_is (σ' := [_, _, _, _, _, _, _]) rfl ?_
    refine q_asg (ev_op (ev_var rfl) ev_c (rv_ixT (ex_t ((e1.trans e2).trans e3) tv) rfl)) fun H4 e4 => ?_
    refine st_is (σ' := [_, _, _, _, _, _, _]) rfl ?_
    refine q_asgU (eu_tup (vs := NM) (ea_cons ev_c (ea_cons ev_c (ea_cons ev_c (ea_cons ev_c (ea_cons ev_c (ea_cons ev_c (ea_cons ev_c (ea_cons ev_c (ea_cons ev_c (ea_cons ev_c ea_nil)))))))))) (show 10 ≤ 100000 by decide)) fun pn H5 npn e5 hpn => ?_
    refine st_is (σ' := [_, _, _, _, _, _, _]) rfl ?_
    have e05 := (((e1.trans e2).trans e3).trans e4).trans e5
    replace tv := ex_t e05 tv
    refine q_when (et_or (et_test (ev_op (ev_var rfl) (ev_var rfl) (rv_nin (K := K) (st_of hpn) rfl))) fun _ => (et_or (et_test (ev_op (ev_cb (ea_cons (ev_var rfl) ea_nil) rc_abs) ev_c rv_I0)) fun _ => (et_not (et_B (ev_chain (ev_un ev_c ru_neg) (ev_op (ev_var rfl) ev_c (rv_ixT tv rfl)) ev_c rv_I0 rv_I0))))) (fun hb H6 e6 => ?_) (fun hb H6 e6 => ?_)
    · rw [if_pos hb] at q
      exact s_ret ev_c fun H7 e7 => q H7 (e05.trans (e6.trans e7))
    rw [if_neg (by rw [hb]; decide)] at q
    refine q_when (et_test (ev_inT (K := K) (xs := CO) (ev_var rfl) (ea_cons ev_c (ea_cons ev_c ea_nil)) (show 2 ≤ 100000 by decide) rfl)) (fun hb H7 e7 => ?_) (fun hb H7 e7 => ?_)
    · rw [if_pos hb] at q
      refine q_asg (ev_andV (ev_op (ev_un ev_c ru_neg) (ev_var rfl) rv_I0) fun _ => (ev_andV (ev_op (ev_var rfl) (ev_var rfl) rv_I0) fun _ => (ev_andV (ev_op (ev_var rfl) ev_c rv_I0) fun _ => (ev_op (ev_cb (ea_cons (ev_op (ev_var rfl) (ev_var rfl) rv_I0) ea_nil) rc_abs) ev_c rv_I0)))) fun H8 e8 => ?_
      refine st_is (σ' := [_, _, _, _, _, _, _]) rfl ?_
      exact s_ret (ev_andV (ev_var rfl) fun _ => (ev_orV (ev_op (ev_var rfl) ev_c (rv_eq rfl)) fun _ => (ev_op (ev_cb (ea_cons (ev_var rfl) ea_nil) rc_abs) ev_c rv_I0))) fun H9 e9 => q H9 (e05.trans (e6.trans (e7.trans (e8.trans e9))))
    rw [if_neg (by rw [hb]; decide)] at q
    refine q_when (b := (!z0 d || (!z0 a && !inV (.str nm) AZ))) (et_or (et_test (ev_op (ev_var rfl) ev_c (rv_ne rfl))) fun _ => (et_and (et_test (ev_op (ev_var rfl) ev_c (rv_ne rfl))) fun _ => (et_test (ev_ninT (K := K) (xs := AZ) (ev_var rfl) (ea_cons ev_c (ea_cons ev_c (ea_cons ev_c (ea_cons ev_c ea_nil)))) (show 4 ≤ 100000 by decide) rfl)))) (fun hb H8 e8 => ?_) (fun hb H8 e8 => ?_)
    · rw [if_pos hb] at q
      exact s_ret ev_c fun H9 e9 => q H9 (e05.trans (e6.trans (e7.trans (e8.trans e9))))
    rw [if_neg (by rw [hb]; decide)] at q
    refine q_when (et_test (ev_inT (K := K) (xs := WP) (ev_var rfl) (ea_cons ev_c (ea_cons ev_c ea_nil)) (show 2 ≤ 100000 by decide) rfl)) (fun hb H9 e9 => ?_) (fun hb H9 e9 => ?_)
    · rw [if_pos hb] at q
      exact s_ret (ev_andV (ev_op ev_c (ev_var rfl) rv_I0) fun _ => (ev_op (ev_var rfl) ev_c rv_I0)) fun H10 e10 => q H10 (e05.trans (e6.trans (e7.trans (e8.trans (e9.trans e10)))))
    rw [if_neg (by rw [hb]; decide)] at q
    exact s_ret (ev_op (ev_var rfl) ev_c (rv_eq rfl)) fun H10 e10 => q H10 (e05.trans (e6.trans (e7.trans (e8.trans (e9.trans e10)))))
/-! ### the law -/
def spLaw (K : PySem.W.Frag) : Sp := fun vs H Q _ => ∃ (a : Addr) (ns : List Int), vs = [.ref a] ∧ SqL K H a (ns.map V.int) ∧ ns.length ≤ 63 ∧ ∀ H', Q (.bl true) H'
theorem nes {x : V} : (!decide (x = x)) = false := by
  rw [decide_eq_true rfl]
  rfl
def KD : List V := [.str "other", .str "conformal", .str "equal-area", .str "equal-area", .str "other", .str "conformal", .str "other", .str "equal-area", .str "equal-area", .str "conformal"]
theorem kinds10 {k : Nat} {nm : Str} (h : NMs[k]? = some nm) : atI KD (k : Int) = some (.str (kindF nm)) ∧ ∀ m, m < k → NMs[m]? ≠ some nm := by
  have hk : k < 10 := (List.getElem?_eq_some_iff.mp h).1
  match k, hk, h with
  | 0, _, h => cases Option.some.inj h; decide +kernel
  | 1, _, h => cases Option.some.inj h; decide +kernel
  | 2, _, h => cases Option.some.inj h; decide +kernel
  | 3, _, h => cases Option.some.inj h; decide +kernel
  | 4, _, h => cases Option.some.inj h; decide +kernel
  | 5, _, h => cases Option.some.inj h; decide +kernel
  | 6, _, h => cases Option.some.inj h; decide +kernel
  | 7, _, h => cases Option.some.inj h; decide +kernel
  | 8, _, h => cases Option.some.inj h; decide +kernel
  | 9, _, h => cases Option.some.inj h; decide +kernel
theorem names_map : NM = NMs.map V.str := rfl
theorem eu_tupOf {σ : L2.St} {H : Hp} {te : TE} {l : Addr} {xs : List V} (h : Ev te σ H (.ref l)) (hl : SqL K H l xs) : EvU (tCB (fun xs H Q => ∃ p ys, xs = [.ref p] ∧ ((SqL K H p ys ∧ ∀ l, H l = none → Q (.ref l) (upd H l (.tup ys))) ∨ (SqT K H p ys ∧ Q (.ref p) H))) (tCons te tNil)) σ H xs := fun H1 e Q q =>
  h H1 e _ fun H2 e2 => ⟨l, xs, rfl, .inl ⟨ex_l (e.trans e2) hl, fun p hp => q p _ (fresh_back e2 hp) (e2.trans (Ex.new hp)) upd_same⟩⟩
theorem dpN {H : Hp} : ∀ xs : List Str, DpAll K H (xs.map V.str) (xs.map PyData.str)
  | [] => .nil
  | a :: r => .cons (.str a) (dpN r)
theorem shN : SeqAt.shaped (.tuple (NMs.map PyData.str)) = true := by decide +kernel
theorem item4s {i : Int} (h : 0 ≤ i ∧ i < 10) : ∃ nm : Str, atI [V.str "Plate", V.str "", V.str "cone ", V.str "lambert", V.str "albers", V.str "sinus", V.str "stereo", V.str "cone", V.str "mercatorx", V.str "plate"] i = some (.str nm) := by
  have h3 : i = 0 ∨ i = 1 ∨ i = 2 ∨ i = 3 ∨ i = 4 ∨ i = 5 ∨ i = 6 ∨ i = 7 ∨ i = 8 ∨ i = 9 := by omega
  rcases h3 with rfl | rfl | rfl | rfl | rfl | rfl | rfl | rfl | rfl | rfl <;> exact ⟨_, rfl⟩
theorem atI_int : ∀ {xs : List Int} {i : Int}, 0 ≤ i → i < (xs.length : Int) → ∃ z : Int, atI (xs.map V.int) i = some (.int z) := by
  intro xs i h0 h1
  obtain ⟨j, rfl⟩ := Int.eq_ofNat_of_zero_le h0
  exact ⟨xs.getD j 0, atI_cell (by omega)⟩
def St5 (sa : Addr) (l : Addr) (kd : Addr) (n way : Int) (pick : Int) : L2.St → Hp → Prop := fun σ' H' => ∃ (nm : Str) (a b c d : Int), σ' = [some (.ref sa), some (.int n), some (.ref l), some (.int way), some (.int pick), some (.ref kd), none, none] ∧ H' l = some (.lst [.str nm, .int a, .int b, .int c, .int d])
theorem ok_law {f f0 f1 f2 f3 f4 f5 f6 f7 f8 aN aA aC aW aF aE : Addr} {fd fd0 fd1 fd2 fd3 fd4 fd5 fd6 fd7 fd8 : FuncData} (F : Fun K "law" "law" s_law f fd)
    (F_is_latitude : Fun K "is_latitude" "is_latitude" s_is_latitude f0 fd0) (F_is_longitude : Fun K "is_longitude" "is_longitude" s_is_longitude f1 fd1) (F_is_projection : Fun K "is_projection" "is_projection" s_is_projection f2 fd2) (F_kind_of : Fun K "kind_of" "kind_of" s_kind_of f3 fd3) (F_is_latitude_of_cone : Fun K "is_latitude_of_cone" "is_latitude_of_cone" s_is_latitude_of_cone f4 fd4) (F_are_parallels : Fun K "are_parallels" "are_parallels" s_are_parallels f5 fd5) (F_law_cell : Fun K "_law_cell" "_law_cell" s_law_cell f6 fd6) (F_law_projection : Fun K "_law_projection" "_law_projection" s_law_projection f7 fd7) (F_law_is_projection : Fun K "_law_is_projection" "_law_is_projection" s_law_is_projection f8 fd8)
    (b_is_latitude : Binds K fd0 ["angle"] []) (b_is_longitude : Binds K fd1 ["angle"] []) (b_is_projection : Binds K fd2 ["value"] []) (b_kind_of : Binds K fd3 ["projection"] []) (b_is_latitude_of_cone : Binds K fd4 ["name", "lat0"] []) (b_are_parallels : Binds K fd5 ["lat1", "lat2"] []) (b_law_cell : Binds K fd6 ["script", "k"] []) (b_law_projection : Binds K fd7 ["figure"] []) (b_law_is_projection : Binds K fd8 ["value"] [])
    (g_is_latitude : mg "is_latitude" = some (.ref f0)) (g_is_longitude : mg "is_longitude" = some (.ref f1)) (g_is_projection : mg "is_projection" = some (.ref f2)) (g_kind_of : mg "kind_of" = some (.ref f3)) (g_is_latitude_of_cone : mg "is_latitude_of_cone" = some (.ref f4)) (g_are_parallels : mg "are_parallels" = some (.ref f5)) (g_law_cell : mg "_law_cell" = some (.ref f6)) (g_law_projection : mg "_law_projection" = some (.ref f7)) (g_law_is_projection : mg "_law_is_projection" = some (.ref f8))
    {t0 t1 t2 t3 t4 : Tok} (g_DEGREE : mg "DEGREE" = some (.int 10000000 t0)) (g_RIGHT_ANGLE : mg "RIGHT_ANGLE" = some (.int 900000000 t1)) (g_HALF_TURN : mg "HALF_TURN" = some (.int 1800000000 t2)) (g_GREATEST_PARALLEL : mg "GREATEST_PARALLEL" = some (.int 800000000 t3)) (g_GREATEST_OF_CONE : mg "GREATEST_OF_CONE" = some (.int 850000000 t4)) (U : Tups K mg aN aA aC aW aF aE)
    (m_len : mg "len" = none) (m_abs : mg "abs" = none) (m_int : mg "int" = none) (m_list : mg "list" = none) (m_tuple : mg "tuple" = none) (m_bool : mg "bool" = none) (m_isinstance : mg "isinstance" = none) : FnOk P w K mg base CX0 4 f fd ["script"] (spLaw K) := by
  have G_is_projection : FnOk P w K mg base CX0 3 f2 fd2 ["value"] (spIsP K) := ok_isp F_is_projection U F_is_latitude b_is_latitude g_is_latitude F_is_longitude b_is_longitude g_is_longitude F_is_latitude_of_cone b_is_latitude_of_cone g_is_latitude_of_cone F_are_parallels b_are_parallels g_are_parallels g_DEGREE g_RIGHT_ANGLE g_HALF_TURN g_GREATEST_PARALLEL g_GREATEST_OF_CONE m_abs
  have G_kind_of : FnOk P w K mg base CX0 1 f3 fd3 ["projection"] (spKind K) := ok_kind F_kind_of U
  have G_law_cell : FnOk P w K mg base CX0 1 f6 fd6 ["script", "k"] (spCell K) := ok_cell F_law_cell m_len
  have G_law_projection : FnOk P w K mg base CX0 1 f7 fd7 ["figure"] spProj := ok_proj F_law_projection m_abs m_int
  have G_law_is_projection : FnOk P w K mg base CX0 1 f8 fd8 ["value"] (spIsPL K) := ok_ispl F_law_is_projection m_abs
  have g_NAMES := U.gN
  refine F.ok sc_law (fun vs H Q E h => ?_) (fun cdv A outer s H vs Q E hr h => ?_)
  · obtain ⟨a, ns, rfl, _⟩ := h
    rfl
  · obtain ⟨sa, ns, rfl, hS, hl, fin⟩ := h
    refine ⟨_, (pss_cons (ps_set (i := 1) sc_law.nd rfl (.inl rfl) (pe_callB call_abs (by rfl) m_abs (by decide +kernel) (pa_cons (pe_call G_law_cell (hr.mono (by decide)) (by rfl) g_law_cell F_law_cell.kp b_law_cell .nil pass0 (pa_cons (pv 0) (pa_cons pe_int pa_nil))) pa_nil)))
        (pss_cons (ps_set (i := 2) sc_law.nd rfl (.inl rfl) (pe_callTy call_list_of (by rfl) m_list (by decide +kernel) (pa_cons (pe_call G_law_projection (hr.mono (by decide)) (by rfl) g_law_projection F_law_projection.kp b_law_projection .nil pass0 (pa_cons (pe_callB call_abs (by rfl) m_abs (by decide +kernel) (pa_cons (pe_call G_law_cell (hr.mono (by decide)) (by rfl) g_law_cell F_law_cell.kp b_law_cell .nil pass0 (pa_cons (pv 0) (pa_cons pe_int pa_nil))) pa_nil)) pa_nil)) pa_nil)))
        (pss_cons (ps_set (i := 3) sc_law.nd rfl (.inl rfl) (pe_op op_mod (pe_callTy call_int1 (by rfl) m_int (by decide +kernel) (pa_cons (pv 1) pa_nil)) pe_int))
        (pss_cons (ps_set (i := 4) sc_law.nd rfl (.inl rfl) (pe_op op_fdiv (pv 1) pe_int))
        (pss_cons (ps_if (pt_cmpR op_notBl (pe_call G_is_projection (hr.mono (by decide)) (by rfl) g_is_projection F_is_projection.kp b_is_projection .nil pass0 (pa_cons (pe_callTy call_tuple_of (by rfl) m_tuple (by decide +kernel) (pa_cons (pv 2) pa_nil)) pa_nil)) pe_bl (nomark _)) (pss_one (ps_ret pe_bl)) pss_nil)
        (pss_cons (ps_set (i := 5) sc_law.nd rfl (.inl rfl) (pe_lst (pa_cons pe_str (pa_cons pe_str (pa_cons pe_str (pa_cons pe_str (pa_cons pe_str (pa_cons pe_str (pa_cons pe_str (pa_cons pe_str (pa_cons pe_str (pa_cons pe_str pa_nil))))))))))))
        (pss_cons (ps_if (pt_cmpR op_ne (pe_call G_kind_of (hr.mono (by decide)) (by rfl) g_kind_of F_kind_of.kp b_kind_of .nil pass0 (pa_cons (pe_callTy call_tuple_of (by rfl) m_tuple (by decide +kernel) (pa_cons (pv 2) pa_nil)) pa_nil)) (pe_ix ix_list (pv 5) (pe_bm PySem.F.plainAttrs_tuple PySem.F.slot_tuple_index PySem.F.type_tuple_index mt_tup_index (pe_glob (by rfl) g_NAMES (show RelV (.ref _) _ from rfl)) (pa_cons (pe_ix ix_list (pv 2) pe_int (fun _ _ => rfl)) pa_nil)) (fun _ _ => rfl)) (nomark _)) (pss_one (ps_ret pe_bl)) pss_nil)
        (Evl.pss_cut (ps_if (pt_cmpR op_eq (pv 3) pe_int (nomark _)) (pss_one (ps_asg (pe_ix ix_list (pe_lst (pa_cons pe_str (pa_cons pe_str (pa_cons pe_str (pa_cons pe_str (pa_cons pe_str (pa_cons pe_str (pa_cons pe_str (pa_cons pe_str (pa_cons pe_str (pa_cons pe_str pa_nil))))))))))) (pe_op op_mod (pe_callTy call_int1 (by rfl) m_int (by decide +kernel) (pa_cons (pv 4) pa_nil)) pe_int) (fun _ _ => rfl)) (pg_sub (pv 2) pe_int set_list))) pss_nil)
        (Evl.pss_cut (ps_if (pt_cmpR op_eq (pv 3) pe_int (nomark _)) (pss_one (ps_asg (pe_ix ix_list (pe_lst (pa_cons pe_int (pa_cons (pe_un un_neg pe_int) (pa_cons pe_int (pa_cons pe_int (pa_cons pe_int (pa_cons (pe_un un_neg pe_int) (pa_cons pe_int pa_nil)))))))) (pe_op op_mod (pe_callTy call_int1 (by rfl) m_int (by decide +kernel) (pa_cons (pv 4) pa_nil)) pe_int) (fun _ _ => rfl)) (pg_sub (pv 2) pe_int set_list))) pss_nil)
        (Evl.pss_cut (ps_if (pt_cmpR op_eq (pv 3) pe_int (nomark _)) (pss_one (ps_asg (pe_ix ix_list (pe_lst (pa_cons pe_int (pa_cons (pe_un un_neg pe_int) (pa_cons (pe_un un_neg pe_int) (pa_cons pe_int pa_nil))))) (pe_op op_mod (pe_callTy call_int1 (by rfl) m_int (by decide +kernel) (pa_cons (pv 4) pa_nil)) pe_int) (fun _ _ => rfl)) (pg_sub (pv 2) pe_int set_list))) pss_nil)
        (Evl.pss_cut (ps_if (pt_cmpR op_eq (pv 3) pe_int (nomark _)) (pss_one (ps_asg (pe_ix ix_list (pe_lst (pa_cons pe_int (pa_cons pe_int (pa_cons (pe_un un_neg pe_int) (pa_cons (pe_un un_neg pe_int) (pa_cons (pe_un un_neg pe_int) (pa_cons (pe_ix ix_list (pv 2) pe_int (fun _ _ => rfl)) (pa_cons pe_int (pa_cons (pe_un un_neg (pe_ix ix_list (pv 2) pe_int (fun _ _ => rfl))) (pa_cons (pe_op op_sub pe_int (pe_ix ix_list (pv 2) pe_int (fun _ _ => rfl))) pa_nil)))))))))) (pe_op op_mod (pe_callTy call_int1 (by rfl) m_int (by decide +kernel) (pa_cons (pv 4) pa_nil)) pe_int) (fun _ _ => rfl)) (pg_sub (pv 2) pe_int set_list))) pss_nil)
        (Evl.pss_cut (ps_if (pt_cmpR op_eq (pv 3) pe_int (nomark _)) (pss_one (ps_asg (pe_ix ix_list (pe_lst (pa_cons pe_int (pa_cons pe_int (pa_cons pe_int (pa_cons (pe_ix ix_list (pv 2) pe_int (fun _ _ => rfl)) (pa_cons (pe_op op_add (pe_ix ix_list (pv 2) pe_int (fun _ _ => rfl)) pe_int) (pa_cons (pe_un un_neg (pe_ix ix_list (pv 2) pe_int (fun _ _ => rfl))) (pa_cons pe_int (pa_cons (pe_op op_sub pe_int (pe_ix ix_list (pv 2) pe_int (fun _ _ => rfl))) pa_nil))))))))) (pe_op op_mod (pe_callTy call_int1 (by rfl) m_int (by decide +kernel) (pa_cons (pv 4) pa_nil)) pe_int) (fun _ _ => rfl)) (pg_sub (pv 2) pe_int set_list))) pss_nil)
        (pss_cons (ps_set (i := 6) sc_law.nd rfl (.inl rfl) (pe_call G_is_projection (hr.mono (by decide)) (by rfl) g_is_projection F_is_projection.kp b_is_projection .nil pass0 (pa_cons (pe_callTy call_tuple_of (by rfl) m_tuple (by decide +kernel) (pa_cons (pv 2) pa_nil)) pa_nil)))
        (pss_cons (ps_set (i := 7) sc_law.nd rfl (.inl rfl) (pe_tup (pa_cons pe_str (pa_cons pe_str (pa_cons pe_str (pa_cons pe_str (pa_cons pe_str (pa_cons pe_str (pa_cons pe_str (pa_cons pe_str (pa_cons pe_str (pa_cons pe_str pa_nil))))))))))))
        (pss_one (ps_ret (pe_and (pe_callB call_isi (by rfl) m_isinstance (by decide +kernel) (pa_cons (pv 6) (pa_cons (pe_bltn (by rfl) m_bool (by decide +kernel) (show RelV (.ty "bool") _ from rfl)) pa_nil))) (pe_and (pe_cmpR op_eq (pv 6) (pe_call G_law_is_projection (hr.mono (by decide)) (by rfl) g_law_is_projection F_law_is_projection.kp b_law_is_projection .nil pass0 (pa_cons (pe_callTy call_tuple_of (by rfl) m_tuple (by decide +kernel) (pa_cons (pv 2) pa_nil)) pa_nil)) (nomark _)) (pe_one (pe_cmpR (op_eqD hr.units) (pe_glob (by rfl) g_NAMES (show RelV (.ref _) _ from rfl)) (pv 7) (nomark _))))))))))))))))))))), ?_⟩
    refine q_asg (ev_cb (ea_cons (ev_call (z := .int (cellOf ns 0)) (ea_cons (ev_var rfl) (ea_cons ev_c ea_nil)) (cell_is hS 0)) ea_nil) rc_abs) fun H1 e1 => ?_
    refine st_is (σ' := [_, _, _, _, _, _, _, _]) rfl ?_
    replace hS := ex_l e1 hS
    generalize (cellOf ns 0).natAbs = n
    -- value
    refine q_asgP (fun v Hh => ∃ (k : Nat) (nm : Str) (a b c d : Int) (l : Addr), v = .ref l ∧ Hh l = some (.lst [.str nm, .int a, .int b, .int c, .int d]) ∧ NMs[k]? = some nm ∧ isP nm a b c d = true) (fun Q1 k1 => q_listCall (ea_cons (ev_cb (ea_cons (ev_call (z := .int (cellOf ns 1)) (ea_cons (ev_var rfl) (ea_cons ev_c ea_nil)) (cell_is hS 1)) ea_nil) rc_abs) ea_nil) fun H2 e2 => ⟨_, rfl, fun k nm a b c d hnm hp p H3 np e3 h3 => ⟨p, _, rfl, .inr (st_of h3), fun l hl => k1 _ _ ((e2.trans e3).trans (Ex.new hl)) ⟨k, nm, a, b, c, d, l, rfl, upd_same, hnm, hp⟩⟩⟩) fun v H2 e2 hv => ?_
    obtain ⟨k, nm, a, b, c, d, l, rfl, hl2, hnm, hp⟩ := hv
    refine st_is (σ' := [_, _, _, _, _, _, _, _]) rfl ?_
    refine q_asg (ev_op (ev_cb (ea_cons (ev_var rfl) ea_nil) rc_intI) ev_c (rv_I (by decide))) fun H3 e3 => ?_
    refine st_is (σ' := [_, _, _, _, _, _, _, _]) rfl ?_
    refine q_asg (ev_op (ev_var rfl) ev_c (rv_I ⟨by decide, by decide⟩)) fun H4 e4 => ?_
    refine st_is (σ' := [_, _, _, _, _, _, _, _]) rfl ?_
    have hl4 := e4 _ _ (e3 _ _ hl2)
    generalize (n : Int) % 8 = way
    have ispIs : ∀ {p : Addr} {Hh : Hp} {nm : Str} {a b c d : Int}, Hh p = some (.tup [.str nm, .int a, .int b, .int c, .int d]) → SpV (spIsP K) [.ref p] Hh (.bl (isP nm a b c d)) := fun hp H1 e1 Q1 q1 E1 => ⟨_, _, _, _, _, _, rfl, ex_t e1 (st_of hp), q1⟩
    have isplIs : ∀ {p : Addr} {Hh : Hp} {nm : Str} {a b c d : Int}, Hh p = some (.tup [.str nm, .int a, .int b, .int c, .int d]) → SpV (spIsPL K) [.ref p] Hh (.bl (isP nm a b c d)) := fun hp H1 e1 Q1 q1 E1 => ⟨_, _, _, _, _, _, rfl, ex_t e1 (st_of hp), q1⟩
    have kindIs : ∀ {p : Addr} {Hh : Hp} {nm : Str} {a b c d : Int}, Hh p = some (.tup [.str nm, .int a, .int b, .int c, .int d]) → SpV (spKind K) [.ref p] Hh (.str (kindF nm)) := fun hp H1 e1 Q1 q1 E1 => ⟨_, _, _, _, _, _, rfl, ex_t e1 (st_of hp), q1⟩
    refine q_when (b := false) (et_is (et_test (ev_op (ev_callU (z := .bl true) (eu_tupOf (K := K) (ev_var rfl) (sq_of hl4)) ea_nil fun p H5 e5 hp5 => by
      have := ispIs hp5
      rw [hp] at this
      exact this) ev_c rv_notB)) rfl) (fun hb => nomatch hb) fun _ H5 e5 => ?_
    -- kinds
    refine q_asgL (el_lst (vs := KD) (ea_cons ev_c (ea_cons ev_c (ea_cons ev_c (ea_cons ev_c (ea_cons ev_c (ea_cons ev_c (ea_cons ev_c (ea_cons ev_c (ea_cons ev_c (ea_cons ev_c ea_nil)))))))))) (show 10 ≤ 100000 by decide)) fun kd H6 nkd e6 hkd => ?_
    refine st_is (σ' := [_, _, _, _, _, _, _, _]) rfl ?_
    have hl6 := e6 _ _ (e5 _ _ hl4)
    obtain ⟨hk1, hk2⟩ := kinds10 hnm
    refine q_when (b := false) (et_is (et_test (ev_op (ev_callU (z := .str (kindF nm)) (eu_tupOf (K := K) (ev_var rfl) (sq_of hl6)) ea_nil fun p H7 e7 hp7 => kindIs hp7) (ev_op (ev_var rfl) (ev_tidx (z := nm) (j := k) (ys := NMs) (aN := aN) U.tN U.yN (ev_op (ev_var rfl) ev_c (rv_ixL (sq_of (K := K) hl6) rfl)) hnm hk2) (rv_ixL (sq_of (K := K) hkd) hk1)) (rv_ne rfl))) nes) (fun hb => nomatch hb) fun _ H7 e7 => ?_
    have hl7 := e7 _ _ hl6
    obtain ⟨pick, hpick⟩ : ∃ pick : Int, (n : Int) / 8 = pick := ⟨_, rfl⟩
    rw [hpick]
    clear hp hk1 hk2 hnm hl2 hl4 hl6 hkd
    -- way 0
    refine q_cut (M := St5 sa l kd (n : Int) way pick) ?_ fun σ' H' M0 => ?_
    · refine s_when (et_test (ev_op (ev_var rfl) ev_c (rv_eq rfl))) (fun hb H8 e8 => ?_) (fun hb H8 e8 => ⟨nm, a, b, c, d, rfl, e8 _ _ hl7⟩)
      obtain ⟨nm2, hn2⟩ := item4s (i := pick % 10) ⟨Int.emod_nonneg _ (by decide), Int.emod_lt_of_pos _ (by decide)⟩
      exact s_setL (j := 0) (e8 _ _ hl7) (ev_opL1 (el_lst (ea_cons ev_c (ea_cons ev_c (ea_cons ev_c (ea_cons ev_c (ea_cons ev_c (ea_cons ev_c (ea_cons ev_c (ea_cons ev_c (ea_cons ev_c (ea_cons ev_c ea_nil)))))))))) (show 10 ≤ 100000 by decide)) (fun _ _ => ev_op (ev_cb (ea_cons (ev_var rfl) ea_nil) rc_intI) ev_c (rv_I (by decide))) (fun _ _ hp _ => rv_ixL (sq_of hp) hn2)) (ev_var rfl) ev_c (by show 0 < 5; decide) fun H9 e9 => ⟨nm2, a, b, c, d, rfl, upd_same⟩
    obtain ⟨nm, a, b, c, d, rfl, hl8⟩ := M0
    -- way 1
    refine q_cut (M := St5 sa l kd (n : Int) way pick) ?_ fun σ' H'' M1 => ?_
    · refine s_when (et_test (ev_op (ev_var rfl) ev_c (rv_eq rfl))) (fun hb H8 e8 => ?_) (fun hb H8 e8 => ⟨nm, a, b, c, d, rfl, e8 _ _ hl8⟩)
      obtain ⟨z, hz⟩ := atI_int (xs := [900000000, -900000001, 850000000, 850000001, 1, -900000000, 0]) (i := pick % 7) (Int.emod_nonneg _ (by decide)) (Int.emod_lt_of_pos _ (by decide))
      exact s_setL (j := 1) (e8 _ _ hl8) (ev_opL1 (el_lst (ea_cons ev_c (ea_cons (ev_un ev_c ru_neg) (ea_cons ev_c (ea_cons ev_c (ea_cons ev_c (ea_cons (ev_un ev_c ru_neg) (ea_cons ev_c ea_nil))))))) (show 7 ≤ 100000 by decide)) (fun _ _ => ev_op (ev_cb (ea_cons (ev_var rfl) ea_nil) rc_intI) ev_c (rv_I (by decide))) (fun _ _ hp _ => rv_ixL (sq_of hp) hz)) (ev_var rfl) ev_c (by show 1 < 5; decide) fun H9 e9 => ⟨nm, z, b, c, d, rfl, upd_same⟩
    obtain ⟨nm, a, b, c, d, rfl, hl9⟩ := M1
    clear hl8
    -- way 2
    refine q_cut (M := St5 sa l kd (n : Int) way pick) ?_ fun σ' H'' M2 => ?_
    · refine s_when (et_test (ev_op (ev_var rfl) ev_c (rv_eq rfl))) (fun hb H8 e8 => ?_) (fun hb H8 e8 => ⟨nm, a, b, c, d, rfl, e8 _ _ hl9⟩)
      obtain ⟨z, hz⟩ := atI_int (xs := [1800000000, -1800000000, -1800000001, 1799999999]) (i := pick % 4) (Int.emod_nonneg _ (by decide)) (Int.emod_lt_of_pos _ (by decide))
      exact s_setL (j := 2) (e8 _ _ hl9) (ev_opL1 (el_lst (ea_cons ev_c (ea_cons (ev_un ev_c ru_neg) (ea_cons (ev_un ev_c ru_neg) (ea_cons ev_c ea_nil)))) (show 4 ≤ 100000 by decide)) (fun _ _ => ev_op (ev_cb (ea_cons (ev_var rfl) ea_nil) rc_intI) ev_c (rv_I (by decide))) (fun _ _ hp _ => rv_ixL (sq_of hp) hz)) (ev_var rfl) ev_c (by show 2 < 5; decide) fun H9 e9 => ⟨nm, a, z, c, d, rfl, upd_same⟩
    obtain ⟨nm, a, b, c, d, rfl, hl10⟩ := M2
    clear hl9
    -- way 3
    refine q_cut (M := St5 sa l kd (n : Int) way pick) ?_ fun σ' H'' M3 => ?_
    · refine s_when (et_test (ev_op (ev_var rfl) ev_c (rv_eq rfl))) (fun hb H8 e8 => ?_) (fun hb H8 e8 => ⟨nm, a, b, c, d, rfl, e8 _ _ hl10⟩)
      have tl := sq_of (K := K) (e8 _ _ hl10)
      obtain ⟨z, hz⟩ := atI_int (xs := [800000000, 800000001, -1, -800000000, -800000001, d, 0, -d, 10000000 - d]) (i := pick % 9) (Int.emod_nonneg _ (by decide)) (Int.emod_lt_of_pos _ (by decide))
      exact s_setL (j := 3) (e8 _ _ hl10) (ev_opL1 (el_lst (ea_cons ev_c (ea_cons ev_c (ea_cons (ev_un ev_c ru_neg) (ea_cons (ev_un ev_c ru_neg) (ea_cons (ev_un ev_c ru_neg) (ea_cons (ev_op (ev_var rfl) ev_c (rv_ixL tl rfl)) (ea_cons ev_c (ea_cons (ev_un (ev_op (ev_var rfl) ev_c (rv_ixL tl rfl)) ru_neg) (ea_cons (ev_op ev_c (ev_op (ev_var rfl) ev_c (rv_ixL tl rfl)) rv_I0) ea_nil))))))))) (show 9 ≤ 100000 by decide)) (fun _ _ => ev_op (ev_cb (ea_cons (ev_var rfl) ea_nil) rc_intI) ev_c (rv_I (by decide))) (fun _ _ hp _ => rv_ixL (sq_of hp) hz)) (ev_var rfl) ev_c (by show 3 < 5; decide) fun H9 e9 => ⟨nm, a, b, z, d, rfl, upd_same⟩
    obtain ⟨nm, a, b, c, d, rfl, hl11⟩ := M3
    clear hl10
    -- way 4
    refine q_cut (M := St5 sa l kd (n : Int) way pick) ?_ fun σ' H'' M4 => ?_
    · refine s_when (et_test (ev_op (ev_var rfl) ev_c (rv_eq rfl))) (fun hb H8 e8 => ?_) (fun hb H8 e8 => ⟨nm, a, b, c, d, rfl, e8 _ _ hl11⟩)
      have tl := sq_of (K := K) (e8 _ _ hl11)
      obtain ⟨z, hz⟩ := atI_int (xs := [1, 800000000, 800000001, c, c + 1, -c, 0, 9999999 - c]) (i := pick % 8) (Int.emod_nonneg _ (by decide)) (Int.emod_lt_of_pos _ (by decide))
      exact s_setL (j := 4) (e8 _ _ hl11) (ev_opL1 (el_lst (ea_cons ev_c (ea_cons ev_c (ea_cons ev_c (ea_cons (ev_op (ev_var rfl) ev_c (rv_ixL tl rfl)) (ea_cons (ev_op (ev_op (ev_var rfl) ev_c (rv_ixL tl rfl)) ev_c rv_I0) (ea_cons (ev_un (ev_op (ev_var rfl) ev_c (rv_ixL tl rfl)) ru_neg) (ea_cons ev_c (ea_cons (ev_op ev_c (ev_op (ev_var rfl) ev_c (rv_ixL tl rfl)) rv_I0) ea_nil)))))))) (show 8 ≤ 100000 by decide)) (fun _ _ => ev_op (ev_cb (ea_cons (ev_var rfl) ea_nil) rc_intI) ev_c (rv_I (by decide))) (fun _ _ hp _ => rv_ixL (sq_of hp) hz)) (ev_var rfl) ev_c (by show 4 < 5; decide) fun H9 e9 => ⟨nm, a, b, c, z, rfl, upd_same⟩
    obtain ⟨nm, a, b, c, d, rfl, hl12⟩ := M4
    clear hl11
    -- actual
    refine q_asg (v := .bl (isP nm a b c d)) (ev_callU (eu_tupOf (K := K) (ev_var rfl) (sq_of hl12)) ea_nil fun p H8 e8 hp8 => ispIs hp8) fun H8 e8 => ?_
    refine st_is (σ' := [_, _, _, _, _, _, _, _]) rfl ?_
    refine q_asgU (eu_tup (vs := NM) (ea_cons ev_c (ea_cons ev_c (ea_cons ev_c (ea_cons ev_c (ea_cons ev_c (ea_cons ev_c (ea_cons ev_c (ea_cons ev_c (ea_cons ev_c (ea_cons ev_c ea_nil)))))))))) (show 10 ≤ 100000 by decide)) fun pd H9 npd e9 hpd => ?_
    refine st_is (σ' := [_, _, _, _, _, _, _, _]) rfl ?_
    have hl13 := e9 _ _ (e8 _ _ hl12)
    refine s_ret (v := .bl true) (ev_is (ev_andV (ev_cb (ea_cons (ev_var rfl) (ea_cons ev_c ea_nil)) (rc_isiBB (K := K))) fun _ => (ev_andV (ev_op (ev_var rfl) (ev_callU (z := .bl (isP nm a b c d)) (eu_tupOf (K := K) (ev_var rfl) (sq_of hl13)) ea_nil fun p H10 e10 hp10 => isplIs hp10) (rv_eq rfl)) fun _ => (ev_op (ev_gl aN) (ev_var rfl) (rv_eqS (d := .tuple (NMs.map PyData.str)) (.tup (U.tN _) (by rw [names_map]; exact dpN _)) (.tup (st_of hpd) (by rw [names_map]; exact dpN _)) shN)))) (congrArg V.bl (by rw [decide_eq_true rfl]; rfl))) fun H10 _ => fin H10
theorem all_mk {l : PySem.W.OpenLaw} {w : World} {K : PySem.W.Frag} {h : Heap} {mg : Str → Option Value} {fa f0 f1 f2 f3 f4 f5 f6 f7 f8 f9 : Addr} (X : K.In h) (G : h.Ns mainGlobals mg) (hfa : mg "law" = some (.ref fa))
    {od0 an0 od1 an1 od2 an2 od3 an3 od4 an4 od5 an5 od6 an6 od7 an7 od8 an8 od9 an9 : Option Addr} {sl0 sl1 sl2 sl3 sl4 sl5 sl6 sl7 sl8 sl9 : Array (Option Value)} {oc0 kV0 dc0 pm0 cd0 ct0 oc1 kV1 dc1 pm1 cd1 ct1 oc2 kV2 dc2 pm2 cd2 ct2 oc3 kV3 dc3 pm3 cd3 ct3 oc4 kV4 dc4 pm4 cd4 ct4 oc5 kV5 dc5 pm5 cd5 ct5 oc6 kV6 dc6 pm6 cd6 ct6 oc7 kV7 dc7 pm7 cd7 ct7 oc8 kV8 dc8 pm8 cd8 ct8 oc9 kV9 dc9 pm9 cd9 ct9 : Value}
    (a0 : PySem.W.nsIn K mainGlobals "is_latitude" = some (some (.ref f0))) (l0 : K.lookup f0 = some ⟨oc0, od0, .func (PySem.W.fnOf "is_latitude" "is_latitude" (defArgs s_is_latitude) (defBody s_is_latitude) (defScope s_is_latitude) .none kV0 dc0 pm0 an0 cd0 ct0), sl0⟩) (c0 : PySem.W.codeIn K cd0 "is_latitude" = true) (k0 : PySem.W.keepIn K (.ref f0) = true)
    (a1 : PySem.W.nsIn K mainGlobals "is_longitude" = some (some (.ref f1))) (l1 : K.lookup f1 = some ⟨oc1, od1, .func (PySem.W.fnOf "is_longitude" "is_longitude" (defArgs s_is_longitude) (defBody s_is_longitude) (defScope s_is_longitude) .none kV1 dc1 pm1 an1 cd1 ct1), sl1⟩) (c1 : PySem.W.codeIn K cd1 "is_longitude" = true) (k1 : PySem.W.keepIn K (.ref f1) = true)
    (a2 : PySem.W.nsIn K mainGlobals "is_projection" = some (some (.ref f2))) (l2 : K.lookup f2 = some ⟨oc2, od2, .func (PySem.W.fnOf "is_projection" "is_projection" (defArgs s_is_projection) (defBody s_is_projection) (defScope s_is_projection) .none kV2 dc2 pm2 an2 cd2 ct2), sl2⟩) (c2 : PySem.W.codeIn K cd2 "is_projection" = true) (k2 : PySem.W.keepIn K (.ref f2) = true)
    (a3 : PySem.W.nsIn K mainGlobals "kind_of" = some (some (.ref f3))) (l3 : K.lookup f3 = some ⟨oc3, od3, .func (PySem.W.fnOf "kind_of" "kind_of" (defArgs s_kind_of) (defBody s_kind_of) (defScope s_kind_of) .none kV3 dc3 pm3 an3 cd3 ct3), sl3⟩) (c3 : PySem.W.codeIn K cd3 "kind_of" = true) (k3 : PySem.W.keepIn K (.ref f3) = true)
    (a4 : PySem.W.nsIn K mainGlobals "is_latitude_of_cone" = some (some (.ref f4))) (l4 : K.lookup f4 = some ⟨oc4, od4, .func (PySem.W.fnOf "is_latitude_of_cone" "is_latitude_of_cone" (defArgs s_is_latitude_of_cone) (defBody s_is_latitude_of_cone) (defScope s_is_latitude_of_cone) .none kV4 dc4 pm4 an4 cd4 ct4), sl4⟩) (c4 : PySem.W.codeIn K cd4 "is_latitude_of_cone" = true) (k4 : PySem.W.keepIn K (.ref f4) = true)
    (a5 : PySem.W.nsIn K mainGlobals "are_parallels" = some (some (.ref f5))) (l5 : K.lookup f5 = some ⟨oc5, od5, .func (PySem.W.fnOf "are_parallels" "are_parallels" (defArgs s_are_parallels) (defBody s_are_parallels) (defScope s_are_parallels) .none kV5 dc5 pm5 an5 cd5 ct5), sl5⟩) (c5 : PySem.W.codeIn K cd5 "are_parallels" = true) (k5 : PySem.W.keepIn K (.ref f5) = true)
    (a6 : PySem.W.nsIn K mainGlobals "_law_cell" = some (some (.ref f6))) (l6 : K.lookup f6 = some ⟨oc6, od6, .func (PySem.W.fnOf "_law_cell" "_law_cell" (defArgs s_law_cell) (defBody s_law_cell) (defScope s_law_cell) .none kV6 dc6 pm6 an6 cd6 ct6), sl6⟩) (c6 : PySem.W.codeIn K cd6 "_law_cell" = true) (k6 : PySem.W.keepIn K (.ref f6) = true)
    (a7 : PySem.W.nsIn K mainGlobals "_law_projection" = some (some (.ref f7))) (l7 : K.lookup f7 = some ⟨oc7, od7, .func (PySem.W.fnOf "_law_projection" "_law_projection" (defArgs s_law_projection) (defBody s_law_projection) (defScope s_law_projection) .none kV7 dc7 pm7 an7 cd7 ct7), sl7⟩) (c7 : PySem.W.codeIn K cd7 "_law_projection" = true) (k7 : PySem.W.keepIn K (.ref f7) = true)
    (a8 : PySem.W.nsIn K mainGlobals "_law_is_projection" = some (some (.ref f8))) (l8 : K.lookup f8 = some ⟨oc8, od8, .func (PySem.W.fnOf "_law_is_projection" "_law_is_projection" (defArgs s_law_is_projection) (defBody s_law_is_projection) (defScope s_law_is_projection) .none kV8 dc8 pm8 an8 cd8 ct8), sl8⟩) (c8 : PySem.W.codeIn K cd8 "_law_is_projection" = true) (k8 : PySem.W.keepIn K (.ref f8) = true)
    (a9 : PySem.W.nsIn K mainGlobals "law" = some (some (.ref f9))) (l9 : K.lookup f9 = some ⟨oc9, od9, .func (PySem.W.fnOf "law" "law" (defArgs s_law) (defBody s_law) (defScope s_law) .none kV9 dc9 pm9 an9 cd9 ct9), sl9⟩) (c9 : PySem.W.codeIn K cd9 "law" = true) (k9 : PySem.W.keepIn K (.ref f9) = true)
    (z0 : PySem.W.nsIn K mainGlobals "len" = some none)
    (z1 : PySem.W.nsIn K mainGlobals "abs" = some none)
    (z2 : PySem.W.nsIn K mainGlobals "int" = some none)
    (z3 : PySem.W.nsIn K mainGlobals "list" = some none)
    (z4 : PySem.W.nsIn K mainGlobals "tuple" = some none)
    (z5 : PySem.W.nsIn K mainGlobals "bool" = some none)
    (z6 : PySem.W.nsIn K mainGlobals "isinstance" = some none)
    {ti0 ti1 ti2 ti3 ti4 : Tok} (u0 : PySem.W.nsIn K mainGlobals "DEGREE" = some (some (.int 10000000 ti0))) (u1 : PySem.W.nsIn K mainGlobals "RIGHT_ANGLE" = some (some (.int 900000000 ti1))) (u2 : PySem.W.nsIn K mainGlobals "HALF_TURN" = some (some (.int 1800000000 ti2))) (u3 : PySem.W.nsIn K mainGlobals "GREATEST_PARALLEL" = some (some (.int 800000000 ti3))) (u4 : PySem.W.nsIn K mainGlobals "GREATEST_OF_CONE" = some (some (.int 850000000 ti4)))
    {aN aA aC aW aF aE : Addr}
    {wN0 wN1 wN2 wN3 wN4 wN5 wN6 wN7 wN8 wN9 : Tok} {nN : Nat} {slN : Array (Option Value)} (vN : PySem.W.nsIn K mainGlobals "NAMES" = some (some (.ref aN))) (oN : K.lookup aN = some ⟨.type "tuple", none, .seq #[.str "plate" wN0, .str "mercator" wN1, .str "lambert" wN2, .str "sinus" wN3, .str "gnomonic" wN4, .str "stereo" wN5, .str "ortho" wN6, .str "disk" wN7, .str "albers" wN8, .str "cone" wN9] nN, slN⟩)
    {wA0 wA1 wA2 wA3 : Tok} {nA : Nat} {slA : Array (Option Value)} (vA : PySem.W.nsIn K mainGlobals "AZIMUTHAL" = some (some (.ref aA))) (oA : K.lookup aA = some ⟨.type "tuple", none, .seq #[.str "gnomonic" wA0, .str "stereo" wA1, .str "ortho" wA2, .str "disk" wA3] nA, slA⟩)
    {wC0 wC1 : Tok} {nC : Nat} {slC : Array (Option Value)} (vC : PySem.W.nsIn K mainGlobals "CONIC" = some (some (.ref aC))) (oC : K.lookup aC = some ⟨.type "tuple", none, .seq #[.str "albers" wC0, .str "cone" wC1] nC, slC⟩)
    {wW0 wW1 : Tok} {nW : Nat} {slW : Array (Option Value)} (vW : PySem.W.nsIn K mainGlobals "WITH_ONE_PARALLEL" = some (some (.ref aW))) (oW : K.lookup aW = some ⟨.type "tuple", none, .seq #[.str "plate" wW0, .str "lambert" wW1] nW, slW⟩)
    {wF0 wF1 wF2 : Tok} {nF : Nat} {slF : Array (Option Value)} (vF : PySem.W.nsIn K mainGlobals "CONFORMAL" = some (some (.ref aF))) (oF : K.lookup aF = some ⟨.type "tuple", none, .seq #[.str "mercator" wF0, .str "stereo" wF1, .str "cone" wF2] nF, slF⟩)
    {wE0 wE1 wE2 wE3 : Tok} {nE : Nat} {slE : Array (Option Value)} (vE : PySem.W.nsIn K mainGlobals "EQUAL_AREA" = some (some (.ref aE))) (oE : K.lookup aE = some ⟨.type "tuple", none, .seq #[.str "lambert" wE0, .str "sinus" wE1, .str "disk" wE2, .str "albers" wE3] nE, slE⟩)
    : ∃ fd : FuncData, (∀ (s : Shared) (v : Value), BindsTo s fd ⟨[v], []⟩ [("script", v)]) ∧ ∀ base : Heap, K.In base → base.Ns mainGlobals mg → FnOk l.prog w K mg base CX0 4 fa fd ["script"] (spLaw K) := by
  have e := hfa.symm.trans (PySem.W.mg_of X G a9)
  cases e
  have F_is_latitude := fun_mk (st := s_is_latitude) l0 c0 k0
  have F_is_longitude := fun_mk (st := s_is_longitude) l1 c1 k1
  have F_is_projection := fun_mk (st := s_is_projection) l2 c2 k2
  have F_kind_of := fun_mk (st := s_kind_of) l3 c3 k3
  have F_is_latitude_of_cone := fun_mk (st := s_is_latitude_of_cone) l4 c4 k4
  have F_are_parallels := fun_mk (st := s_are_parallels) l5 c5 k5
  have F_law_cell := fun_mk (st := s_law_cell) l6 c6 k6
  have F_law_projection := fun_mk (st := s_law_projection) l7 c7 k7
  have F_law_is_projection := fun_mk (st := s_law_is_projection) l8 c8 k8
  have F_law := fun_mk (st := s_law) l9 c9 k9
  have b_is_latitude := F_is_latitude.binds (ps := ["angle"]) fun _ _ _ _ _ _ us hl => match us, hl with | [_], _ => rfl
  have g_is_latitude := PySem.W.mg_of X G a0
  have b_is_longitude := F_is_longitude.binds (ps := ["angle"]) fun _ _ _ _ _ _ us hl => match us, hl with | [_], _ => rfl
  have g_is_longitude := PySem.W.mg_of X G a1
  have b_is_projection := F_is_projection.binds (ps := ["value"]) fun _ _ _ _ _ _ us hl => match us, hl with | [_], _ => rfl
  have g_is_projection := PySem.W.mg_of X G a2
  have b_kind_of := F_kind_of.binds (ps := ["projection"]) fun _ _ _ _ _ _ us hl => match us, hl with | [_], _ => rfl
  have g_kind_of := PySem.W.mg_of X G a3
  have b_is_latitude_of_cone := F_is_latitude_of_cone.binds (ps := ["name", "lat0"]) fun _ _ _ _ _ _ us hl => match us, hl with | [_, _], _ => rfl
  have g_is_latitude_of_cone := PySem.W.mg_of X G a4
  have b_are_parallels := F_are_parallels.binds (ps := ["lat1", "lat2"]) fun _ _ _ _ _ _ us hl => match us, hl with | [_, _], _ => rfl
  have g_are_parallels := PySem.W.mg_of X G a5
  have b_law_cell := F_law_cell.binds (ps := ["script", "k"]) fun _ _ _ _ _ _ us hl => match us, hl with | [_, _], _ => rfl
  have g_law_cell := PySem.W.mg_of X G a6
  have b_law_projection := F_law_projection.binds (ps := ["figure"]) fun _ _ _ _ _ _ us hl => match us, hl with | [_], _ => rfl
  have g_law_projection := PySem.W.mg_of X G a7
  have b_law_is_projection := F_law_is_projection.binds (ps := ["value"]) fun _ _ _ _ _ _ us hl => match us, hl with | [_], _ => rfl
  have g_law_is_projection := PySem.W.mg_of X G a8
  have m_len := PySem.W.mg_none_of X G z0
  have m_abs := PySem.W.mg_none_of X G z1
  have m_int := PySem.W.mg_none_of X G z2
  have m_list := PySem.W.mg_none_of X G z3
  have m_tuple := PySem.W.mg_none_of X G z4
  have m_bool := PySem.W.mg_none_of X G z5
  have m_isinstance := PySem.W.mg_none_of X G z6
  have sN : ∀ H, SqT K H aN NM := fun H => .inr ⟨_, _, _, oN, rfl, rfl, (show 10 ≤ sizeLine by decide +kernel), (.cons ⟨_, rfl⟩ (.cons ⟨_, rfl⟩ (.cons ⟨_, rfl⟩ (.cons ⟨_, rfl⟩ (.cons ⟨_, rfl⟩ (.cons ⟨_, rfl⟩ (.cons ⟨_, rfl⟩ (.cons ⟨_, rfl⟩ (.cons ⟨_, rfl⟩ (.cons ⟨_, rfl⟩ .nil))))))))))⟩
  have sA : ∀ H, SqT K H aA AZ := fun H => .inr ⟨_, _, _, oA, rfl, rfl, (show 4 ≤ sizeLine by decide +kernel), (.cons ⟨_, rfl⟩ (.cons ⟨_, rfl⟩ (.cons ⟨_, rfl⟩ (.cons ⟨_, rfl⟩ .nil))))⟩
  have sC : ∀ H, SqT K H aC CO := fun H => .inr ⟨_, _, _, oC, rfl, rfl, (show 2 ≤ sizeLine by decide +kernel), (.cons ⟨_, rfl⟩ (.cons ⟨_, rfl⟩ .nil))⟩
  have sW : ∀ H, SqT K H aW WP := fun H => .inr ⟨_, _, _, oW, rfl, rfl, (show 2 ≤ sizeLine by decide +kernel), (.cons ⟨_, rfl⟩ (.cons ⟨_, rfl⟩ .nil))⟩
  have sF : ∀ H, SqT K H aF CF := fun H => .inr ⟨_, _, _, oF, rfl, rfl, (show 3 ≤ sizeLine by decide +kernel), (.cons ⟨_, rfl⟩ (.cons ⟨_, rfl⟩ (.cons ⟨_, rfl⟩ .nil)))⟩
  have sE : ∀ H, SqT K H aE EA := fun H => .inr ⟨_, _, _, oE, rfl, rfl, (show 4 ≤ sizeLine by decide +kernel), (.cons ⟨_, rfl⟩ (.cons ⟨_, rfl⟩ (.cons ⟨_, rfl⟩ (.cons ⟨_, rfl⟩ .nil))))⟩
  have U : Tups K mg aN aA aC aW aF aE := ⟨PySem.W.mg_of X G vN, PySem.W.mg_of X G vA, PySem.W.mg_of X G vC, PySem.W.mg_of X G vW, PySem.W.mg_of X G vF, PySem.W.mg_of X G vE, ⟨_, oN, rfl, rfl⟩, sN, sA, sC, sW, sF, sE⟩
  exact ⟨PySem.W.fnOf "law" "law" (defArgs s_law) (defBody s_law) (defScope s_law) .none kV9 dc9 pm9 an9 cd9 ct9, fun s v => .of_eq rfl, fun base _ _ => ok_law F_law F_is_latitude F_is_longitude F_is_projection F_kind_of F_is_latitude_of_cone F_are_parallels F_law_cell F_law_projection F_law_is_projection b_is_latitude b_is_longitude b_is_projection b_kind_of b_is_latitude_of_cone b_are_parallels b_law_cell b_law_projection b_law_is_projection g_is_latitude g_is_longitude g_is_projection g_kind_of g_is_latitude_of_cone g_are_parallels g_law_cell g_law_projection g_law_is_projection (PySem.W.mg_of X G u0) (PySem.W.mg_of X G u1) (PySem.W.mg_of X G u2) (PySem.W.mg_of X G u3) (PySem.W.mg_of X G u4) U m_len m_abs m_int m_list m_tuple m_bool m_isinstance⟩
end
end K20
open PySem PySem.W PyProof.Rows
set_option maxHeartbeats 0 in
theorem PySem.Challenge.cw_portolan_k20_projections_told_holds : PySem.Challenge.rw_portolan_k20_projections_told.Holds := by
  w_on; o_law; k_head; (case hw => w_witness2)
  k_fill
  refine L2.walk_of (l := PySem.Challenge.rw_portolan_k20_projections_told) (n := 63) (k := 4) (x := "script") (CX := fun _ => L2.CX0) (sp := fun w => K20.spLaw _) rfl (by decide) rfl ⟨rfl, by decide, by decide⟩ (fun w h Y => PySem.W.kIn_of Y) ?F (fun _ _ a ns hl _ hS => ⟨a, ns, rfl, hS, hl, fun _ => rfl⟩) (fun _ _ _ _ _ h => h)
  case F =>
    intro w mg fa h KX G hmg
    refine' K20.all_mk KX G hmg ?a0 ?l0 ?c0 ?k0 ?a1 ?l1 ?c1 ?k1 ?a2 ?l2 ?c2 ?k2 ?a3 ?l3 ?c3 ?k3 ?a4 ?l4 ?c4 ?k4 ?a5 ?l5 ?c5 ?k5 ?a6 ?l6 ?c6 ?k6 ?a7 ?l7 ?c7 ?k7 ?a8 ?l8 ?c8 ?k8 ?a9 ?l9 ?c9 ?k9 ?z0 ?z1 ?z2 ?z3 ?z4 ?z5 ?z6 ?u0 ?u1 ?u2 ?u3 ?u4 ?vN ?oN ?vA ?oA ?vC ?oC ?vW ?oW ?vF ?oF ?vE ?oE
    (case a0 => k_is); (case l0 => k_is); (case c0 => k_is); (case k0 => k_is); (case a1 => k_is); (case l1 => k_is); (case c1 => k_is); (case k1 => k_is); (case a2 => k_is); (case l2 => k_is); (case c2 => k_is); (case k2 => k_is); (case a3 => k_is); (case l3 => k_is); (case c3 => k_is); (case k3 => k_is); (case a4 => k_is); (case l4 => k_is); (case c4 => k_is); (case k4 => k_is); (case a5 => k_is); (case l5 => k_is); (case c5 => k_is); (case k5 => k_is); (case a6 => k_is); (case l6 => k_is); (case c6 => k_is); (case k6 => k_is); (case a7 => k_is); (case l7 => k_is); (case c7 => k_is); (case k7 => k_is); (case a8 => k_is); (case l8 => k_is); (case c8 => k_is); (case k8 => k_is); (case a9 => k_is); (case l9 => k_is); (case c9 => k_is); (case k9 => k_is); (case z0 => k_is); (case z1 => k_is); (case z2 => k_is); (case z3 => k_is); (case z4 => k_is); (case z5 => k_is); (case z6 => k_is); (case u0 => k_is); (case u1 => k_is); (case u2 => k_is); (case u3 => k_is); (case u4 => k_is); (case vN => k_is); (case oN => k_is); (case vA => k_is); (case oA => k_is); (case vC => k_is); (case oC => k_is); (case vW => k_is); (case oW => k_is); (case vF => k_is); (case oF => k_is); (case vE => k_is); (case oE => k_is)

