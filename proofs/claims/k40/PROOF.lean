import PyProof.Rows.All
import Wide.All
import OpenK.AllK
import Wide.FinOn
import HandS.ForMost
import HandS.ForExc
import HandS.ExcIs
import HandS.More
import PyProof.ExcBaseAll.ValueError
import HandS.Evl
import HandS.Wide
import HandS.WideBits
import HandS.Style
import HandS.IsInst
import PyProof.P3Eq
import PySem.Challenge.RW_portolan_k40_points_and_turns
set_option Elab.async false
set_option linter.all false
set_option maxRecDepth 100000
set_option maxHeartbeats 4000000
/-! Own rules over the layer: what a reading evaluates to, for texts that change nothing. -/
namespace Cm
open PySem PySem.Spec PyProof.Rows L2 Evl

theorem ex_app {H H' : Hp} (e : Ex H H') {p : Addr} {o : HO} (h : H p = some o) : H' p = some o := e p o h
/-- a new tuple comes back -/
def RetU (xs : List V) (H : Hp) (Q : VK) : Prop := ∀ p H2, H p = none → Ex H H2 → H2 p = some (.tup xs) → Q (.ref p) H2
def SpU (sp : Sp) (vs : List V) (H : Hp) (xs : List V) : Prop := ∀ H1, Ex H H1 → ∀ Q : VK, (∀ p H2, H1 p = none → Ex H1 H2 → H2 p = some (.tup xs) → Q (.ref p) H2) → ∀ E : XK, sp vs H1 Q E
section
variable {K : PySem.W.Frag} {σ : L2.St} {H H' : Hp} {ta tb tc te tx : TE} {t u : TT} {x y z v w : V} {r r' : R2} {D : Ends} {tz : TS}
/-- the slots written out anew -/
theorem st_is {σ' : L2.St} {ts : TS} (e : σ = σ') (h : ts D σ' H) : ts D σ H := by
  rw [e]
  exact h
theorem RetU.go {xs : List V} {Q : VK} (k : RetU xs H Q) (e : Ex H H') {p : Addr} {H2 : Hp} (hp : H' p = none) (e2 : Ex H' H2) (h : H2 p = some (.tup xs)) : Q (.ref p) H2 := k p H2 (fresh_back e hp) (e.trans e2) h
theorem eu_call {sp : Sp} {dvs vs xs : List V} {E : XK} {ta : TA} (h : EvA ta σ H vs) (hs : SpU sp (vs ++ dvs) H xs) : EvU (tCall sp dvs E ta) σ H xs := fun H1 e Q q =>
  h H1 e _ fun H2 e2 => hs H2 (e.trans e2) Q (fun p H3 hp e3 h3 => q p H3 (fresh_back e2 hp) (e2.trans e3) h3) E
theorem eu_is {xs ys : List V} (h : EvU te σ H xs) (e : xs = ys) : EvU te σ H ys := by
  rw [← e]
  exact h
/-- a call whose first argument is a new tuple -/
theorem ev_callU {sp : Sp} {dvs vs xs : List V} {E : XK} {tr : TA} (h1 : EvU te σ H xs) (h2 : EvA tr σ H vs) (hs : ∀ p H1, Ex H H1 → H1 p = some (.tup xs) → SpV sp (.ref p :: vs ++ dvs) H1 z) : Ev (tCall sp dvs E (tCons te tr)) σ H z := fun H1 e Q q =>
  h1 H1 e _ fun p H2 np e2 hp => h2 H2 (e.trans e2) _ fun H3 e3 => hs p H3 ((e.trans e2).trans e3) (e3 _ _ hp) H3 (Ex.refl H3) Q (fun H4 e4 => q H4 ((e2.trans e3).trans e4)) E
/-- .. whose second argument is a new tuple -/
theorem ev_callVU {sp : Sp} {dvs vs xs : List V} {E : XK} {tr : TA} (h0 : Ev ta σ H x) (h1 : EvU te σ H xs) (h2 : EvA tr σ H vs) (hs : ∀ p H1, Ex H H1 → H1 p = some (.tup xs) → SpV sp (x :: .ref p :: vs ++ dvs) H1 z) : Ev (tCall sp dvs E (tCons ta (tCons te tr))) σ H z := fun H1 e Q q =>
  h0 H1 e _ fun H2 e2 => h1 H2 (e.trans e2) _ fun p H3 np e3 hp => h2 H3 ((e.trans e2).trans e3) _ fun H4 e4 => hs p H4 (((e.trans e2).trans e3).trans e4) (e4 _ _ hp) H4 (Ex.refl H4) Q (fun H5 e5 => q H5 (((e2.trans e3).trans e4).trans e5)) E
theorem ev_chain {b c : Bool} (ha : Ev ta σ H x) (hb : Ev tb σ H y) (hc : Ev tc σ H w) (h1 : RV r x y H (.bl b)) (h2 : RV r' y w H (.bl c)) : Ev (tChain r r' ta tb tc) σ H (.bl (b && c)) := fun H1 e Q q =>
  ha H1 e _ fun H2 e2 => hb H2 (e.trans e2) _ fun H3 e3 => h1 H3 ((e.trans e2).trans e3) _ fun H4 e4 => ⟨b, rfl, by
    cases b with
    | true =>
      show tc σ H4 _
      exact hc H4 (((e.trans e2).trans e3).trans e4) _ fun H5 e5 => h2 H5 ((((e.trans e2).trans e3).trans e4).trans e5) Q fun H6 e6 => q H6 ((((e2.trans e3).trans e4).trans e5).trans e6)
    | false =>
      show Q (.bl false) H4
      exact q H4 ((e2.trans e3).trans e4)⟩
theorem rv_shl {i : Int} {k : Nat} (h : CShl i (k : Int)) : RV (fun x y H Q => ∃ (i : Int) (k : Nat), x = .int i ∧ y = .int (k : Int) ∧ CShl i (k : Int) ∧ Q (.int (i * 2 ^ k)) H) (.int i) (.int (k : Int)) H (.int (i * 2 ^ k)) :=
  fun H1 _ _ q => ⟨i, k, rfl, rfl, h, q H1 (Ex.refl H1)⟩
theorem rv_shr {i : Int} {k : Nat} : RV (fun x y H Q => ∃ (i : Int) (k : Nat), x = .int i ∧ y = .int (k : Int) ∧ Q (.int (i / 2 ^ k)) H) (.int i) (.int (k : Int)) H (.int (i / 2 ^ k)) :=
  fun H1 _ _ q => ⟨i, k, rfl, rfl, q H1 (Ex.refl H1)⟩
theorem rv_isB {a b : Bool} : RV rIsB (.bl a) (.bl b) H (.bl (decide (a = b))) := fun H1 _ _ q => ⟨a, b, rfl, rfl, q H1 (Ex.refl H1)⟩
theorem rv_notB {a b : Bool} : RV rNotB (.bl a) (.bl b) H (.bl (!decide (a = b))) := fun H1 _ _ q => ⟨a, b, rfl, rfl, q H1 (Ex.refl H1)⟩
theorem rv_isN : RV (fun x y H Q => y = .non ∧ Q (.bl (decide (x = .non))) H) x .non H (.bl (decide (x = .non))) := fun H1 _ _ q => ⟨rfl, q H1 (Ex.refl H1)⟩
theorem rv_notN : RV (fun x y H Q => y = .non ∧ Q (.bl (!decide (x = .non))) H) x .non H (.bl (!decide (x = .non))) := fun H1 _ _ q => ⟨rfl, q H1 (Ex.refl H1)⟩
theorem rc_abs {i : Int} : RC (fun xs H Q => ∃ i, xs = [.int i] ∧ Q (.int (if i < 0 then -i else i)) H) [.int i] H (.int (i.natAbs : Int)) := fun H1 _ Q q => ⟨i, rfl, by
  have e : (if i < 0 then -i else i) = (i.natAbs : Int) := by split <;> omega
  rw [e]
  exact q H1 (Ex.refl H1)⟩
theorem rc_max2 {i j : Int} : RC (fun xs H Q => ∃ i j, xs = [.int i, .int j] ∧ Q (.int (if j > i then j else i)) H) [.int i, .int j] H (.int (max i j)) := fun H1 _ Q q => ⟨i, j, rfl, by
  have e : (if j > i then j else i) = max i j := by split <;> omega
  rw [e]
  exact q H1 (Ex.refl H1)⟩
theorem rc_min2 {i j : Int} : RC (fun xs H Q => ∃ i j, xs = [.int i, .int j] ∧ Q (.int (if j < i then j else i)) H) [.int i, .int j] H (.int (min i j)) := fun H1 _ Q q => ⟨i, j, rfl, by
  have e : (if j < i then j else i) = min i j := by split <;> omega
  rw [e]
  exact q H1 (Ex.refl H1)⟩
theorem rc_intB {k : Bool} : RC (fun xs H Q => (∃ i, xs = [.int i] ∧ Q (.int i) H) ∨ ∃ k, xs = [.bl k] ∧ Q (.int (if k then 1 else 0)) H) [.bl k] H (.int (if k then 1 else 0)) := fun H1 _ Q q => Or.inr ⟨k, rfl, q H1 (Ex.refl H1)⟩
theorem rc_intI {i : Int} : RC (fun xs H Q => (∃ i, xs = [.int i] ∧ Q (.int i) H) ∨ ∃ k, xs = [.bl k] ∧ Q (.int (if k then 1 else 0)) H) [.int i] H (.int i) := fun H1 _ Q q => Or.inl ⟨i, rfl, q H1 (Ex.refl H1)⟩
theorem rc_isiT {p : Addr} {xs : List V} (h : H p = some (.tup xs)) : RC (rIsi K) [.ref p, .ty "tuple"] H (.bl true) := fun H1 e _ q =>
  ⟨.ref p, .ty "tuple", .type "tuple", .type "tuple", true, rfl, .ty _, .base (.tup (e _ _ h)), kit_ty (by decide +kernel), q H1 (Ex.refl H1)⟩
theorem rc_isiS {x : Str} : RC (rIsi K) [.str x, .ty "str"] H (.bl true) := fun H1 e _ q =>
  ⟨.str x, .ty "str", .type "str", .type "str", true, rfl, .ty _, .base (.str x), kit_ty (by decide +kernel), q H1 (Ex.refl H1)⟩
theorem rc_lenL {p : Addr} {xs : List V} (h : SqL K H p xs) : RC (fun xs H Q => ∃ x n, xs = [x] ∧ LenV K x H n ∧ Q (.int n) H) [.ref p] H (.int (xs.length : Int)) := fun H1 e _ q =>
  ⟨.ref p, (xs.length : Nat), rfl, .inl ⟨_, ex_l e h, rfl⟩, q H1 (Ex.refl H1)⟩
/-! ### data -/
mutual
theorem dp_mono (e : Ex H H') : ∀ (d : PyData) (v : V), Dp K H v d → Dp K H' v d
  | _, _, .non => .non
  | _, _, .bl b => .bl b
  | _, _, .int i => .int i
  | _, _, .str x => .str x
  | _, _, .lst h a => .lst (ex_l e h) (dps_mono e _ _ a)
  | _, _, .tup h a => .tup (ex_t e h) (dps_mono e _ _ a)
theorem dps_mono (e : Ex H H') : ∀ (ds : List PyData) (vs : List V), DpAll K H vs ds → DpAll K H' vs ds
  | _, _, .nil => .nil
  | _, _, .cons h t => .cons (dp_mono e _ _ h) (dps_mono e _ _ t)
end
theorem dpInts : ∀ (is : List Int), DpAll K H (is.map V.int) (is.map PyData.int)
  | [] => .nil
  | i :: r => .cons (.int i) (dpInts r)
theorem eqvS {d : PyData} (h : SeqAt.shaped d = true) : PyData.eqv d d = true := by
  unfold SeqAt.shaped at h
  rw [Bool.and_eq_true] at h
  exact PySem.SeqAt.eqv_refl d h.1
/-- the same data on both sides -/
theorem rv_neS {d : PyData} (hx : Dp K H x d) (hy : Dp K H y d) (hs : SeqAt.shaped d = true) : RV (rNeD K) x y H (.bl false) := fun H1 e Q q =>
  ⟨d, d, dp_mono e _ _ hx, dp_mono e _ _ hy, hs, hs, by
    rw [eqvS hs]
    exact q H1 (Ex.refl H1)⟩
theorem rv_eqS {d : PyData} (hx : Dp K H x d) (hy : Dp K H y d) (hs : SeqAt.shaped d = true) : RV (rEqD K) x y H (.bl true) := fun H1 e Q q =>
  ⟨d, d, dp_mono e _ _ hx, dp_mono e _ _ hy, hs, hs, by
    rw [eqvS hs]
    exact q H1 (Ex.refl H1)⟩
/-- a pair of ints -/
theorem dp2 {p : Addr} {i j : Int} (h : SqT K H p [.int i, .int j]) : Dp K H (.ref p) (.tuple [.int i, .int j]) := .tup h (.cons (.int i) (.cons (.int j) .nil))
theorem sh2 {i j : Int} : SeqAt.shaped (.tuple [.int i, .int j]) = true := rfl
end
/-! ### numbers -/
/-- a bound that omega does not look into -/
def Bd (k : Nat) (x : Int) : Prop := x.natAbs < 2 ^ k
theorem pow_pos (n : Nat) : (0 : Int) < 2 ^ n := PySem.W.kbt_pos n
theorem pow_abs (n : Nat) : ((2 : Int) ^ n).natAbs = 2 ^ n := by
  rw [Int.natAbs_pow]
  rfl
theorem ab_mono {x : Int} {a b : Nat} (h : x.natAbs < 2 ^ a) (hab : a ≤ b) : x.natAbs < 2 ^ b := Nat.lt_of_lt_of_le h (Nat.pow_le_pow_right (by decide) hab)
theorem ab_pow {n k : Nat} (h : n < k) : ((2 : Int) ^ n).natAbs < 2 ^ k := by
  rw [pow_abs]
  exact Nat.pow_lt_pow_right (by decide) h
theorem ab_shl {x : Int} {a n : Nat} (h : x.natAbs < 2 ^ a) : (x * 2 ^ n).natAbs < 2 ^ (a + n) := by
  rw [Int.natAbs_mul, pow_abs, Nat.pow_add]
  exact Nat.mul_lt_mul_of_pos_right h (Nat.two_pow_pos n)
theorem ab_mul {x y : Int} {a b : Nat} (hx : x.natAbs < 2 ^ a) (hy : y.natAbs < 2 ^ b) : (x * y).natAbs < 2 ^ (a + b) := wide_lt hx hy
theorem ab_add {x y : Int} {a : Nat} (hx : x.natAbs < 2 ^ a) (hy : y.natAbs < 2 ^ a) : (x + y).natAbs < 2 ^ (a + 1) := by
  have e : 2 ^ (a + 1) = 2 ^ a + 2 ^ a := by rw [Nat.pow_succ]; omega
  omega
theorem ab_neg {x : Int} {a : Nat} (hx : x.natAbs < 2 ^ a) : (-x).natAbs < 2 ^ a := by omega
theorem ab_sm {x : Int} {a c : Nat} (h : x.natAbs ≤ c) (hc : c < 2 ^ a) : x.natAbs < 2 ^ a := Nat.lt_of_le_of_lt h hc
theorem fl_le {s q : Int} (hq : 0 < q) : s / q * q ≤ s := Int.ediv_mul_le s (by omega)
theorem fl_lt {s q : Int} (hq : 0 < q) : s < (s / q + 1) * q := by
  rw [Int.add_mul, Int.one_mul]
  exact Int.lt_ediv_add_one_mul_self s hq |> fun h => by rw [Int.add_mul, Int.one_mul] at h; exact h
theorem cl_ge {s q : Int} (hq : 0 < q) : s ≤ -(-s / q) * q := by
  have h := fl_le (s := -s) hq
  rw [Int.neg_mul]
  omega
theorem cl_lt {s q : Int} (hq : 0 < q) : (-(-s / q) - 1) * q < s := by
  have h := fl_lt (s := -s) hq
  rw [Int.sub_mul, Int.one_mul, Int.neg_mul]
  rw [Int.add_mul, Int.one_mul] at h
  omega
theorem ab_div {x q : Int} {a : Nat} (hq : 0 < q) (h : x.natAbs < 2 ^ a) : (x / q).natAbs < 2 ^ a := by
  have h1 : (x / q).natAbs ≤ x.natAbs := by
    by_cases hx : 0 ≤ x
    · have := Int.ediv_le_self q hx
      have := Int.ediv_nonneg hx (Int.le_of_lt hq)
      omega
    · have h2 : x / q < 0 := Int.ediv_neg_of_neg_of_pos (by omega) hq
      have h3 := fl_lt (s := x) hq
      have h4 : (x / q + 1) * q ≤ (x / q + 1) := by
        have h5 : (x / q + 1) * (q - 1) ≤ 0 := Int.mul_nonpos_of_nonpos_of_nonneg (by omega) (by omega)
        rw [Int.mul_sub, Int.mul_one] at h5
        omega
      omega
  omega
theorem mul_le_r {a b q : Int} (h : a ≤ b) (hq : 0 < q) : a * q ≤ b * q := Int.mul_le_mul_of_nonneg_right h (Int.le_of_lt hq)
/-- the ceiling, by one more where the floor is not exact -/
theorem ceil_eq {s q : Int} (hq : 0 < q) : -(-s / q) = s / q + (if (!decide (s / q * q = s)) = true then 1 else 0) := by
  have a1 := fl_le (s := s) hq
  have a2 := fl_lt (s := s) hq
  have b1 := cl_ge (s := s) hq
  have b2 := cl_lt (s := s) hq
  have lt_of : ∀ {u v : Int}, u * q < v * q → u < v := fun h => Int.lt_of_mul_lt_mul_right h (Int.le_of_lt hq)
  have c1 : -(-s / q) - 1 < s / q + 1 := lt_of (Int.lt_trans b2 a2)
  by_cases e : s / q * q = s
  · rw [decide_eq_true e]
    have c2 : -(-s / q) - 1 < s / q := lt_of (by rw [e]; exact b2)
    have c3 : s / q - 1 < -(-s / q) := lt_of (Int.lt_of_lt_of_le (by rw [Int.sub_mul, Int.one_mul, e]; omega) b1)
    show _ = s / q + 0
    omega
  · rw [decide_eq_false e]
    have c3 : s / q < -(-s / q) := lt_of (by omega)
    show _ = s / q + 1
    omega
end Cm


namespace K40
open PySem PySem.Spec PyProof.Rows L2 Evl Cm
def topS (i : Nat) : Stmt := PySem.Challenge.pw_portolan_k40_points_and_turns.main.body.getD i (.Pass ⟨0, 0, 0, 0⟩)
abbrev s_is_point : Stmt := topS 8
theorem sc_is_point : FnScope ["value", "lat", "lon"] ["value"] (defScope s_is_point) := ⟨rfl, rfl, rfl, by decide +kernel, rfl, by decide +kernel, by decide +kernel⟩
abbrev s_is_latitude : Stmt := topS 9
theorem sc_is_latitude : FnScope ["angle"] ["angle"] (defScope s_is_latitude) := ⟨rfl, rfl, rfl, by decide +kernel, rfl, by decide +kernel, by decide +kernel⟩
abbrev s_is_longitude : Stmt := topS 10
theorem sc_is_longitude : FnScope ["angle"] ["angle"] (defScope s_is_longitude) := ⟨rfl, rfl, rfl, by decide +kernel, rfl, by decide +kernel, by decide +kernel⟩
abbrev s_wrapped : Stmt := topS 11
theorem sc_wrapped : FnScope ["angle"] ["angle"] (defScope s_wrapped) := ⟨rfl, rfl, rfl, by decide +kernel, rfl, by decide +kernel, by decide +kernel⟩
abbrev s_made_point : Stmt := topS 12
theorem sc_made_point : FnScope ["lat", "lon"] ["lat", "lon"] (defScope s_made_point) := ⟨rfl, rfl, rfl, by decide +kernel, rfl, by decide +kernel, by decide +kernel⟩
abbrev s_antipode : Stmt := topS 13
theorem sc_antipode : FnScope ["point", "lat", "lon"] ["point"] (defScope s_antipode) := ⟨rfl, rfl, rfl, by decide +kernel, rfl, by decide +kernel, by decide +kernel⟩
abbrev s_law_is_integer : Stmt := topS 15
theorem sc_law_is_integer : FnScope ["actual"] ["actual"] (defScope s_law_is_integer) := ⟨rfl, rfl, rfl, by decide +kernel, rfl, by decide +kernel, by decide +kernel⟩
abbrev s_law_cell : Stmt := topS 16
theorem sc_law_cell : FnScope ["script", "k"] ["script", "k"] (defScope s_law_cell) := ⟨rfl, rfl, rfl, by decide +kernel, rfl, by decide +kernel, by decide +kernel⟩
abbrev s_law_rich : Stmt := topS 17
theorem sc_law_rich : FnScope ["cell", "mixed"] ["cell"] (defScope s_law_rich) := ⟨rfl, rfl, rfl, by decide +kernel, rfl, by decide +kernel, by decide +kernel⟩
abbrev s_law_angle : Stmt := topS 18
theorem sc_law_angle : FnScope ["number", "edge"] ["number"] (defScope s_law_angle) := ⟨rfl, rfl, rfl, by decide +kernel, rfl, by decide +kernel, by decide +kernel⟩
abbrev s_law : Stmt := topS 19
theorem sc_law : FnScope ["script", "lat", "lon", "due", "found", "turned", "point", "e", "other"] ["script"] (defScope s_law) := ⟨rfl, rfl, rfl, by decide +kernel, rfl, by decide +kernel, by decide +kernel⟩
section
variable {P : Program} {w : World} {K : PySem.W.Frag} {mg : Str → Option Value} {base : Heap}
/-! ### errors -/
/-- what the top says of an error class CU below CP -/
structure Errs (K : PySem.W.Frag) (mg : Str → Option Value) (nU : Str) (CU CP : Addr) : Prop where
  gU : mg nU = some (.ref CU)
  gP : mg "PortolanError" = some (.ref CP)
  xU : PySem.W.excIn K CU [.type "ValueError", .type "Exception", .type "BaseException", .type "object"] "ValueError.__new__" = true
  kU : PySem.W.keepIn K (.ref CU) = true
  bU : PySem.W.subIn K (.ref CU) (.type "BaseException") = some true
  tU : PySem.W.typeIn K (.ref CU) = some (.type "type")
  bP : PySem.W.subIn K (.ref CP) (.type "BaseException") = some true
  tP : PySem.W.typeIn K (.ref CP) = some (.type "type")
  iP : PySem.W.isClsIn K CP = true
  sUP : PySem.W.subIn K (.ref CU) (.ref CP) = some true
  ec : ExcC K CU
theorem Errs.caught {nU : Str} {CU CP : Addr} (T : Errs K mg nU CU CP) : PySem.W.exmOne K (.ref CU) (.ref CP) = some true := by
  have e1 : (PySem.W.subIn K (.ref CP) (.type "BaseException") == some true) = true := by rw [T.bP] <;> rfl
  have e2 : ((PySem.W.clsIn K CP).isSome && PySem.W.typeIn K (.ref CP) == some (.type "type")) = true := by
    have h2' : (PySem.W.clsIn K CP).isSome = true := T.iP
    rw [h2', T.tP] <;> rfl
  show (if (PySem.W.subIn K (.ref CP) (.type "BaseException") == some true) = true then (if ((PySem.W.clsIn K CP).isSome && PySem.W.typeIn K (.ref CP) == some (.type "type")) = true then PySem.W.subIn K (.ref CU) (.ref CP) else none) else none) = some true
  rw [if_pos e1, if_pos e2]
  exact T.sUP
/-- a statement whose reading says one thing more -/
theorem pss_if {X : Cx} {φ : Prop} {ss : List Stmt} {t : TS} (h : φ → PSs X ss t) : PSs X ss (fun D σ H => φ ∧ t D σ H) := ⟨fun pins s σ H D I q => (h q.1).run pins s σ H D I q.2⟩
theorem kit_self {CU : Addr} : PySem.W.kitOne K (.ref CU) (.ref CU) = some true := by
  unfold PySem.W.kitOne
  rw [if_pos (beq_self_eq_true _)]
theorem ev_isE {CU a : Addr} {σ : L2.St} {H : Hp} {i : Nat} (h : σ[i]? = some (some (.ref a))) : Ev (tCB (rIsE K CU a) (tCons (tVar i) (tCons (tC (.ref CU)) tNil))) σ H (.bl true) :=
  ev_cb (ea_cons (ev_var h) (ea_cons ev_c ea_nil)) fun H1 e1 Q q => ⟨.ref CU, .ref CU, true, rfl, fun u hu => hu, kit_self, q H1 (Ex.refl _)⟩
theorem q_asgP {σ : L2.St} {H : Hp} {te : TE} {D : Ends} {tz : TS} {i : Nat} (P : V → Hp → Prop) (h : ∀ Q : VK, (∀ v H1, Ex H H1 → P v H1 → Q v H1) → te σ H Q) (k : ∀ v H1, Ex H H1 → P v H1 → tz D (σ.set i (some v)) H1) : tSeq (tAsg te (gName i)) tz D σ H := h _ k
theorem ev_opUV {σ : L2.St} {H : Hp} {ta tb : TE} {r : R2} {xs : List V} {y z : V} (ha : EvU ta σ H xs) (hb : Ev tb σ H y) (hr : ∀ p H1, H1 p = some (.tup xs) → Ex H H1 → RV r (.ref p) y H1 z) : Ev (tOp r ta tb) σ H z := fun H1 e Q q =>
  ha H1 e _ fun p H2 np e2 hp => hb H2 (e.trans e2) _ fun H3 e3 => hr p H3 (e3 _ _ hp) ((e.trans e2).trans e3) H3 (Ex.refl H3) Q fun H4 e4 => q H4 ((e2.trans e3).trans e4)
/-! ### the law's cells -/
theorem ok_cell {f : Addr} {fd : FuncData} (F : Fun K "_law_cell" "_law_cell" s_law_cell f fd) (m_len : mg "len" = none) : FnOk P w K mg base CX0 1 f fd ["script", "k"] (spCell K) := by
  refine F.ok sc_law_cell (fun vs H Q E h => ?_) (fun cdv A outer s H vs Q E hr h => ?_)
  · obtain ⟨l, ns, j, rfl, _⟩ := h
    rfl
  · obtain ⟨l, ns, j, rfl, hs, q⟩ := h
    refine ⟨_, (pss_cons (ps_if (pt_cmpR op_lt (pv 1) (pe_callB call_len (by rfl) m_len (by decide +kernel) (pa_cons (pv 0) pa_nil)) (nomark _)) (pss_one (ps_ret (pe_ix ix_list (pv 0) (pv 1) (fun _ _ => rfl)))) pss_nil)
        (pss_one (ps_ret pe_int))), ?_⟩
    refine ⟨_, rfl, _, rfl, .ref l, ((ns.map V.int).length : Nat), rfl, .inl ⟨_, hs, rfl⟩, _, _, rfl, rfl, _, rfl, ite2 (fun e => ?_) (fun e => ?_)⟩
    · have hj : j < ns.length := by
        have := of_decide_eq_true e
        rw [List.length_map] at this
        omega
      exact ⟨_, rfl, _, rfl, l, _, _, _, rfl, rfl, hs, atI_cell hj, q⟩
    · have hj : ¬ j < ns.length := fun z => e (decide_eq_true (by rw [List.length_map]; omega))
      rw [cell_out hj] at q
      exact q
theorem cell_is {H : Hp} {sa : Addr} {ns : List Int} (hS : SqL K H sa (ns.map V.int)) (j : Nat) : SpV (spCell K) [.ref sa, .int (j : Nat)] H (.int (cellOf ns j)) := fun H1 e1 Q1 q1 E1 => ⟨sa, ns, j, rfl, ex_l e1 hS, q1 H1 (Ex.refl H1)⟩
/-- what _law_rich makes of a cell -/
def rich (c : Int) : Int := if (1000000000000000000 : Int) ≤ (c.natAbs : Int) then (c.natAbs : Int) else
  ((c.natAbs : Int) * 48271 + 7) % 2147483647 * 1000003 * 2147483629 + (((c.natAbs : Int) * 48271 + 7) % 2147483647 * 69621 + (c.natAbs : Int)) % 2147483629 * 1000003 + ((c.natAbs : Int) * 48271 + 7) % 2147483647 / 11
theorem rich_nat (c : Int) : ∃ n : Nat, rich c = (n : Int) := by
  unfold rich
  split
  · exact ⟨_, rfl⟩
  · exact ⟨(((c.natAbs : Int) * 48271 + 7) % 2147483647 * 1000003 * 2147483629 + (((c.natAbs : Int) * 48271 + 7) % 2147483647 * 69621 + (c.natAbs : Int)) % 2147483629 * 1000003 + ((c.natAbs : Int) * 48271 + 7) % 2147483647 / 11).toNat, by omega⟩
def spRich : Sp := fun vs H Q _ => ∃ c : Int, vs = [.int c] ∧ RetV (.int (rich c)) H Q
theorem mulc {x : Int} {c : Int} (h : x.natAbs < 2 ^ 100) (hc : c.natAbs < 2 ^ 100) : CMulX x c := mulx_ok (a := 100) (b := 100) h hc (by decide)
theorem ok_rich {f : Addr} {fd : FuncData} (F : Fun K "_law_rich" "_law_rich" s_law_rich f fd) (m_abs : mg "abs" = none) (m_int : mg "int" = none) : FnOk P w K mg base CX0 1 f fd ["cell"] spRich := by
  refine F.ok sc_law_rich (fun vs H Q E h => ?_) (fun cdv A outer s H vs Q E hr h => ?_)
  · obtain ⟨c, rfl, _⟩ := h
    rfl
  · obtain ⟨c, rfl, q⟩ := h
    refine ⟨_, (pss_cons (ps_set (i := 0) sc_law_rich.nd rfl (.inl rfl) (pe_callB call_abs (by rfl) m_abs (by decide +kernel) (pa_cons (pv 0) pa_nil)))
        (pss_cons (ps_if (pt_cmpR op_ge (pv 0) pe_int (nomark _)) (pss_one (ps_ret (pv 0))) pss_nil)
        (pss_cons (ps_set (i := 1) sc_law_rich.nd rfl (.inl rfl) (pe_op op_mod (pe_callTy call_int1 (by rfl) m_int (by decide +kernel) (pa_cons (pe_op op_add (pe_op op_mulX (pv 0) pe_int) pe_int) pa_nil)) pe_int))
        (pss_one (ps_ret (pe_op op_add (pe_op op_add (pe_op op_mulX (pe_op op_mulX (pv 1) pe_int) pe_int) (pe_op op_mulX (pe_op op_mod (pe_callTy call_int1 (by rfl) m_int (by decide +kernel) (pa_cons (pe_op op_add (pe_op op_mulX (pv 1) pe_int) (pv 0)) pa_nil)) pe_int) pe_int)) (pe_op op_fdiv (pv 1) pe_int))))))), ?_⟩
    refine q_asg (ev_cb (ea_cons (ev_var rfl) ea_nil) rc_abs) fun H1 e1 => ?_
    refine st_is (σ' := [_, _]) rfl ?_
    refine q_when (et_test (ev_op (ev_var rfl) ev_c rv_I0)) (fun hb H2 e2 => ?_) (fun hb H2 e2 => ?_)
    · refine s_ret (ev_var rfl) fun H3 e3 => ?_
      have h3 := q H3 (e1.trans (e2.trans e3))
      unfold rich at h3
      rw [if_pos (of_decide_eq_true hb)] at h3
      exact h3
    · have hlt := of_decide_eq_false hb
      unfold rich at q
      rw [if_neg hlt] at q
      generalize c.natAbs = n at *
      have b1 : (n : Int).natAbs < 2 ^ 100 := Nat.lt_of_lt_of_le (show (n : Int).natAbs < 1000000000000000000 by omega) (by decide +kernel)
      refine q_asg (ev_op (ev_cb (ea_cons (ev_op (ev_op (ev_var rfl) ev_c (rv_I (mulc b1 (by decide +kernel)))) ev_c rv_I0) ea_nil) rc_intI) ev_c (rv_I (by decide))) fun H3 e3 => ?_
      refine st_is (σ' := [_, _]) rfl ?_
      have hm : 0 ≤ ((n : Int) * 48271 + 7) % 2147483647 ∧ ((n : Int) * 48271 + 7) % 2147483647 < 2147483647 := ⟨by omega, by omega⟩
      generalize ((n : Int) * 48271 + 7) % 2147483647 = m at *
      have b2 : m.natAbs < 2 ^ 100 := Nat.lt_of_lt_of_le (show m.natAbs < 2147483647 by omega) (by decide +kernel)
      have b3 : (m * 1000003).natAbs < 2 ^ 100 := Nat.lt_of_lt_of_le (show (m * 1000003).natAbs < 2147483647 * 1000003 by omega) (by decide +kernel)
      have b4 : ((m * 69621 + (n : Int)) % 2147483629).natAbs < 2 ^ 100 := Nat.lt_of_lt_of_le (show ((m * 69621 + (n : Int)) % 2147483629).natAbs < 2147483629 by omega) (by decide +kernel)
      exact s_ret (ev_op (ev_op (ev_op (ev_op (ev_var rfl) ev_c (rv_I (mulc b2 (by decide +kernel)))) ev_c (rv_I (mulc b3 (by decide +kernel)))) (ev_op (ev_op (ev_cb (ea_cons (ev_op (ev_op (ev_var rfl) ev_c (rv_I (mulc b2 (by decide +kernel)))) (ev_var rfl) rv_I0) ea_nil) rc_intI) ev_c (rv_I (by decide))) ev_c (rv_I (mulc b4 (by decide +kernel)))) rv_I0) (ev_op (ev_var rfl) ev_c (rv_I ⟨by decide, by decide⟩)) rv_I0) fun H4 e4 => q H4 (e1.trans (e2.trans (e3.trans e4)))
theorem rich_is {H : Hp} {c : Int} {n : Nat} (h : rich c = (n : Int)) : SpV spRich [.int c] H (.int (n : Int)) := fun H1 e1 Q1 q1 E1 => ⟨c, rfl, by
  rw [h]
  exact q1⟩
/-! ### points -/
def latOk (a : Int) : Bool := decide (-900000000 ≤ a) && decide (a ≤ 900000000)
def lonOk (a : Int) : Bool := decide (-1800000000 ≤ a) && decide (a < 1800000000)
def wrapI (a : Int) : Int := (a + 1800000000) % 3600000000 - 1800000000
def spLat : Sp := fun vs H Q _ => ∃ a : Int, vs = [.int a] ∧ RetV (.bl (latOk a)) H Q
def spLon : Sp := fun vs H Q _ => ∃ a : Int, vs = [.int a] ∧ RetV (.bl (lonOk a)) H Q
theorem ok_lat {f : Addr} {fd : FuncData} (F : Fun K "is_latitude" "is_latitude" s_is_latitude f fd) {t0 : Tok} (g_RIGHT_ANGLE : mg "RIGHT_ANGLE" = some (.int 900000000 t0)) : FnOk P w K mg base CX0 1 f fd ["angle"] spLat := by
  refine F.ok sc_is_latitude (fun vs H Q E h => ?_) (fun cdv A outer s H vs Q E hr h => ?_)
  · obtain ⟨c, rfl, _⟩ := h
    rfl
  · obtain ⟨c, rfl, q⟩ := h
    refine ⟨_, (pss_one (ps_ret (pe_chain op_le op_le (pe_un un_neg (pe_glob (by rfl) g_RIGHT_ANGLE (show RelV (.int 900000000) _ from ⟨_, rfl⟩))) (pv 0) (pe_glob (by rfl) g_RIGHT_ANGLE (show RelV (.int 900000000) _ from ⟨_, rfl⟩))))), ?_⟩
    exact s_ret (ev_chain (ev_un ev_c ru_neg) (ev_var rfl) ev_c rv_I0 rv_I0) q
theorem ok_lon {f : Addr} {fd : FuncData} (F : Fun K "is_longitude" "is_longitude" s_is_longitude f fd) {t0 : Tok} (g_HALF_TURN : mg "HALF_TURN" = some (.int 1800000000 t0)) : FnOk P w K mg base CX0 1 f fd ["angle"] spLon := by
  refine F.ok sc_is_longitude (fun vs H Q E h => ?_) (fun cdv A outer s H vs Q E hr h => ?_)
  · obtain ⟨c, rfl, _⟩ := h
    rfl
  · obtain ⟨c, rfl, q⟩ := h
    refine ⟨_, (pss_one (ps_ret (pe_chain op_le op_lt (pe_un un_neg (pe_glob (by rfl) g_HALF_TURN (show RelV (.int 1800000000) _ from ⟨_, rfl⟩))) (pv 0) (pe_glob (by rfl) g_HALF_TURN (show RelV (.int 1800000000) _ from ⟨_, rfl⟩))))), ?_⟩
    exact s_ret (ev_chain (ev_un ev_c ru_neg) (ev_var rfl) ev_c rv_I0 rv_I0) q
theorem lat_is {H : Hp} {a : Int} : SpV spLat [.int a] H (.bl (latOk a)) := fun H1 e1 Q1 q1 E1 => ⟨a, rfl, q1⟩
theorem lon_is {H : Hp} {a : Int} : SpV spLon [.int a] H (.bl (lonOk a)) := fun H1 e1 Q1 q1 E1 => ⟨a, rfl, q1⟩
def spPoint (K : PySem.W.Frag) : Sp := fun vs H Q _ => ∃ (p : Addr) (a b : Int), vs = [.ref p] ∧ SqT K H p [.int a, .int b] ∧ RetV (.bl (latOk a && lonOk b)) H Q
theorem ok_point {f f0 f1 : Addr} {fd fd0 fd1 : FuncData} (F : Fun K "is_point" "is_point" s_is_point f fd)
    (F_is_latitude : Fun K "is_latitude" "is_latitude" s_is_latitude f0 fd0) (b_is_latitude : Binds K fd0 ["angle"] []) (g_is_latitude : mg "is_latitude" = some (.ref f0))
    (F_is_longitude : Fun K "is_longitude" "is_longitude" s_is_longitude f1 fd1) (b_is_longitude : Binds K fd1 ["angle"] []) (g_is_longitude : mg "is_longitude" = some (.ref f1))
    {t0 t1 : Tok} (g_RIGHT_ANGLE : mg "RIGHT_ANGLE" = some (.int 900000000 t0)) (g_HALF_TURN : mg "HALF_TURN" = some (.int 1800000000 t1)) : FnOk P w K mg base CX0 2 f fd ["value"] (spPoint K) := by
  have G_is_latitude : FnOk P w K mg base CX0 1 f0 fd0 _ spLat := ok_lat F_is_latitude g_RIGHT_ANGLE
  have G_is_longitude : FnOk P w K mg base CX0 1 f1 fd1 _ spLon := ok_lon F_is_longitude g_HALF_TURN
  refine F.ok sc_is_point (fun vs H Q E h => ?_) (fun cdv A outer s H vs Q E hr h => ?_)
  · obtain ⟨p, a, b, rfl, _⟩ := h
    rfl
  · obtain ⟨p, a, b, rfl, t_v, q⟩ := h
    refine ⟨_, (pss_cons (ps_asg (pv 0) (pg_tup rfl (pgs_cons (pg_name (i := 1) sc_is_point.nd rfl (.inl rfl)) (pgs_cons (pg_name (i := 2) sc_is_point.nd rfl (.inl rfl)) pgs_nil))))
        (pss_one (ps_ret (pe_and (pe_call G_is_latitude (hr.mono (by decide)) (by rfl) g_is_latitude F_is_latitude.kp b_is_latitude .nil pass0 (pa_cons (pv 1) pa_nil)) (pe_one (pe_call G_is_longitude (hr.mono (by decide)) (by rfl) g_is_longitude F_is_longitude.kp b_is_longitude .nil pass0 (pa_cons (pv 2) pa_nil))))))), ?_⟩
    refine ⟨_, rfl, p, _, rfl, t_v, rfl, _, _, rfl, _, _, rfl, rfl, ?_⟩
    refine st_is (σ' := [some (.ref p), some (.int a), some (.int b)]) rfl ?_
    exact s_ret (ev_andV (ev_call (ea_cons (ev_var rfl) ea_nil) lat_is) fun _ => ev_call (ea_cons (ev_var rfl) ea_nil) lon_is) q
def spWrapped : Sp := fun vs H Q _ => ∃ a : Int, vs = [.int a] ∧ RetV (.int (wrapI a)) H Q
theorem ok_wrapped {f : Addr} {fd : FuncData} (F : Fun K "wrapped" "wrapped" s_wrapped f fd) {t0 t1 : Tok} (g_HALF_TURN : mg "HALF_TURN" = some (.int 1800000000 t0)) (g_FULL_TURN : mg "FULL_TURN" = some (.int 3600000000 t1)) : FnOk P w K mg base CX0 1 f fd ["angle"] spWrapped := by
  refine F.ok sc_wrapped (fun vs H Q E h => ?_) (fun cdv A outer s H vs Q E hr h => ?_)
  · obtain ⟨c, rfl, _⟩ := h
    rfl
  · obtain ⟨c, rfl, q⟩ := h
    refine ⟨_, (pss_one (ps_ret (pe_op op_sub (pe_op op_mod (pe_op op_add (pv 0) (pe_glob (by rfl) g_HALF_TURN (show RelV (.int 1800000000) _ from ⟨_, rfl⟩))) (pe_glob (by rfl) g_FULL_TURN (show RelV (.int 3600000000) _ from ⟨_, rfl⟩))) (pe_glob (by rfl) g_HALF_TURN (show RelV (.int 1800000000) _ from ⟨_, rfl⟩))))), ?_⟩
    exact s_ret (ev_op (ev_op (ev_op (ev_var rfl) ev_c rv_I0) ev_c (rv_I (by decide))) ev_c rv_I0) q
theorem wrapped_is {H : Hp} {a : Int} : SpV spWrapped [.int a] H (.int (wrapI a)) := fun H1 e1 Q1 q1 E1 => ⟨a, rfl, q1⟩
def spMade (CI : Addr) : Sp := fun vs H Q E => ∃ a b : Int, vs = [.int a, .int b] ∧ (latOk a = false → ∀ H', Ex H H' → E (.ref CI) none H') ∧ (latOk a = true → RetU [.int a, .int (wrapI b)] H Q)
theorem ok_made {f f0 f1 CI CP : Addr} {fd fd0 fd1 : FuncData} (F : Fun K "made_point" "made_point" s_made_point f fd) (T : Errs K mg "InvalidPoint" CI CP)
    (F_is_latitude : Fun K "is_latitude" "is_latitude" s_is_latitude f0 fd0) (b_is_latitude : Binds K fd0 ["angle"] []) (g_is_latitude : mg "is_latitude" = some (.ref f0))
    (F_wrapped : Fun K "wrapped" "wrapped" s_wrapped f1 fd1) (b_wrapped : Binds K fd1 ["angle"] []) (g_wrapped : mg "wrapped" = some (.ref f1))
    {t0 t1 t2 : Tok} (g_RIGHT_ANGLE : mg "RIGHT_ANGLE" = some (.int 900000000 t0)) (g_HALF_TURN : mg "HALF_TURN" = some (.int 1800000000 t1)) (g_FULL_TURN : mg "FULL_TURN" = some (.int 3600000000 t2)) : FnOk P w K mg base (L2.CX P w) 2 f fd ["lat", "lon"] (spMade CI) := by
  obtain ⟨g_InvalidPoint, _, x_InvalidPoint, k_InvalidPoint, b_InvalidPoint, t_InvalidPoint, _, _, _, _, _⟩ := id T
  have G_is_latitude : FnOk P w K mg base CX0 1 f0 fd0 _ spLat := ok_lat F_is_latitude g_RIGHT_ANGLE
  have G_wrapped : FnOk P w K mg base CX0 1 f1 fd1 _ spWrapped := ok_wrapped F_wrapped g_HALF_TURN g_FULL_TURN
  refine F.okX sc_made_point (fun vs H Q E h => ?_) (fun cdv A outer s H vs Q E hr h => ?_)
  · obtain ⟨a, b, rfl, _⟩ := h
    rfl
  · obtain ⟨a, b, rfl, hE, q⟩ := h
    refine ⟨_, (pss_cons (ps_if (pt_not (pt_val (pe_call G_is_latitude (hr.mono (by decide)) (by rfl) g_is_latitude F_is_latitude.kp b_is_latitude .nil pass0 (pa_cons (pv 0) pa_nil)))) (pss_one (ps_raise rfl (takes_of rfl rfl rfl rfl) (pmk_own PySem.F.excBase_ValueError x_InvalidPoint g_InvalidPoint k_InvalidPoint (raises_own b_InvalidPoint t_InvalidPoint) (by rfl)))) pss_nil)
        (pss_one (ps_ret (pe_tup (pa_cons (pv 0) (pa_cons (pe_call G_wrapped (hr.mono (by decide)) (by rfl) g_wrapped F_wrapped.kp b_wrapped .nil pass0 (pa_cons (pv 1) pa_nil)) pa_nil)))))), ?_⟩
    refine q_when (et_not (et_B (ev_call (ea_cons (ev_var rfl) ea_nil) lat_is))) (fun hb H1 e1 => hE (by simpa using hb) H1 e1) (fun hb H1 e1 => ?_)
    replace q := q (by simpa using hb)
    exact s_retU (eu_tup (ea_cons (ev_var rfl) (ea_cons (ev_call (ea_cons (ev_var rfl) ea_nil) wrapped_is) ea_nil)) (show 2 ≤ 100000 by decide)) fun p H2 n e2 h => RetU.go q e1 n e2 h
def spAnti (K : PySem.W.Frag) : Sp := fun vs H Q _ => ∃ (p : Addr) (a b : Int), vs = [.ref p] ∧ SqT K H p [.int a, .int b] ∧ RetU [.int (-a), .int (wrapI (b + 1800000000))] H Q
theorem ok_anti {f f1 : Addr} {fd fd1 : FuncData} (F : Fun K "antipode" "antipode" s_antipode f fd)
    (F_wrapped : Fun K "wrapped" "wrapped" s_wrapped f1 fd1) (b_wrapped : Binds K fd1 ["angle"] []) (g_wrapped : mg "wrapped" = some (.ref f1))
    {t1 t2 : Tok} (g_HALF_TURN : mg "HALF_TURN" = some (.int 1800000000 t1)) (g_FULL_TURN : mg "FULL_TURN" = some (.int 3600000000 t2)) : FnOk P w K mg base CX0 2 f fd ["point"] (spAnti K) := by
  have G_wrapped : FnOk P w K mg base CX0 1 f1 fd1 _ spWrapped := ok_wrapped F_wrapped g_HALF_TURN g_FULL_TURN
  refine F.ok sc_antipode (fun vs H Q E h => ?_) (fun cdv A outer s H vs Q E hr h => ?_)
  · obtain ⟨p, a, b, rfl, _⟩ := h
    rfl
  · obtain ⟨p, a, b, rfl, t_v, q⟩ := h
    refine ⟨_, (pss_cons (ps_asg (pv 0) (pg_tup rfl (pgs_cons (pg_name (i := 1) sc_antipode.nd rfl (.inl rfl)) (pgs_cons (pg_name (i := 2) sc_antipode.nd rfl (.inl rfl)) pgs_nil))))
        (pss_one (ps_ret (pe_tup (pa_cons (pe_un un_neg (pv 1)) (pa_cons (pe_call G_wrapped (hr.mono (by decide)) (by rfl) g_wrapped F_wrapped.kp b_wrapped .nil pass0 (pa_cons (pe_op op_add (pv 2) (pe_glob (by rfl) g_HALF_TURN (show RelV (.int 1800000000) _ from ⟨_, rfl⟩))) pa_nil)) pa_nil)))))), ?_⟩
    refine ⟨_, rfl, p, _, rfl, t_v, rfl, _, _, rfl, _, _, rfl, rfl, ?_⟩
    refine st_is (σ' := [some (.ref p), some (.int a), some (.int b)]) rfl ?_
    exact s_retU (eu_tup (ea_cons (ev_un (ev_var rfl) ru_neg) (ea_cons (ev_call (ea_cons (ev_op (ev_var rfl) ev_c rv_I0) ea_nil) wrapped_is) ea_nil)) (show 2 ≤ 100000 by decide)) q
/-! ### the law's own defs -/
def spInt : Sp := fun vs H Q _ => ∃ i : Int, vs = [.int i] ∧ RetV (.bl true) H Q
theorem rc_isiI {H : Hp} {i : Int} : RC (rIsi K) [.int i, .ty "int"] H (.bl true) := fun H1 e _ q =>
  ⟨.int i, .ty "int", .type "int", .type "int", true, rfl, .ty _, .base (.int i), kit_ty (by decide +kernel), q H1 (Ex.refl H1)⟩
theorem rc_isiIB {H : Hp} {i : Int} : RC (rIsi K) [.int i, .ty "bool"] H (.bl false) := fun H1 e _ q =>
  ⟨.int i, .ty "bool", .type "int", .type "bool", false, rfl, .ty _, .base (.int i), kit_ty (by decide +kernel), q H1 (Ex.refl H1)⟩
theorem rc_isiBB {H : Hp} {b : Bool} : RC (rIsi K) [.bl b, .ty "bool"] H (.bl true) := fun H1 e _ q =>
  ⟨.bl b, .ty "bool", .type "bool", .type "bool", true, rfl, .ty _, .base (.bl b), kit_ty (by decide +kernel), q H1 (Ex.refl H1)⟩
theorem ok_lint {f : Addr} {fd : FuncData} (F : Fun K "_law_is_integer" "_law_is_integer" s_law_is_integer f fd) (m_isinstance : mg "isinstance" = none) (m_int : mg "int" = none) (m_bool : mg "bool" = none) : FnOk P w K mg base CX0 1 f fd ["actual"] spInt := by
  refine F.ok sc_law_is_integer (fun vs H Q E h => ?_) (fun cdv A outer s H vs Q E hr h => ?_)
  · obtain ⟨i, rfl, _⟩ := h
    rfl
  · obtain ⟨i, rfl, q⟩ := h
    refine ⟨_, (pss_one (ps_ret (pe_and (pe_callB call_isi (by rfl) m_isinstance (by decide +kernel) (pa_cons (pv 0) (pa_cons (pe_bltn (by rfl) m_int (by decide +kernel) (show RelV (.ty "int") _ from rfl)) pa_nil))) (pe_one (pe_not (pe_callB call_isi (by rfl) m_isinstance (by decide +kernel) (pa_cons (pv 0) (pa_cons (pe_bltn (by rfl) m_bool (by decide +kernel) (show RelV (.ty "bool") _ from rfl)) pa_nil)))))))), ?_⟩
    exact s_ret (ev_andV (ev_cb (ea_cons (ev_var rfl) (ea_cons ev_c ea_nil)) (rc_isiI (K := K))) fun _ => (ev_notV (ev_cb (ea_cons (ev_var rfl) (ea_cons ev_c ea_nil)) (rc_isiIB (K := K))))) q
theorem int_is {H : Hp} {i : Int} : SpV spInt [.int i] H (.bl true) := fun H1 e1 Q1 q1 E1 => ⟨i, rfl, q1⟩
def spAngle : Sp := fun vs H Q _ => ∃ n : Int, vs = [.int n] ∧ ∀ a : Int, RetV (.int a) H Q
theorem item6 {a b c d e f : Int} {i : Int} (h : 0 ≤ i ∧ i < 6) : ∃ z : Int, atI [V.int a, V.int b, V.int c, V.int d, V.int e, V.int f] i = some (.int z) := by
  have h3 : i = 0 ∨ i = 1 ∨ i = 2 ∨ i = 3 ∨ i = 4 ∨ i = 5 := by omega
  rcases h3 with rfl | rfl | rfl | rfl | rfl | rfl <;> exact ⟨_, rfl⟩
theorem ok_angle {f : Addr} {fd : FuncData} (F : Fun K "_law_angle" "_law_angle" s_law_angle f fd) (m_int : mg "int" = none) : FnOk P w K mg base CX0 1 f fd ["number"] spAngle := by
  refine F.ok sc_law_angle (fun vs H Q E h => ?_) (fun cdv A outer s H vs Q E hr h => ?_)
  · obtain ⟨n, rfl, _⟩ := h
    rfl
  · obtain ⟨n, rfl, q⟩ := h
    refine ⟨_, (pss_cons (ps_set (i := 1) sc_law_angle.nd rfl (.inl rfl) (pe_ix ix_list (pe_lst (pa_cons pe_int (pa_cons pe_int (pa_cons (pe_un un_neg pe_int) (pa_cons pe_int (pa_cons (pe_un un_neg pe_int) (pa_cons pe_int pa_nil))))))) (pe_op op_mod (pe_callTy call_int1 (by rfl) m_int (by decide +kernel) (pa_cons (pe_op op_fdiv (pv 0) pe_int) pa_nil)) pe_int) (fun _ _ => rfl)))
        (pss_cons (ps_if (pt_cmpR op_eq (pe_op op_mod (pe_callTy call_int1 (by rfl) m_int (by decide +kernel) (pa_cons (pv 0) pa_nil)) pe_int) pe_int (nomark _)) (pss_one (ps_ret (pe_op op_sub (pe_op op_add (pv 1) (pe_op op_mod (pe_callTy call_int1 (by rfl) m_int (by decide +kernel) (pa_cons (pe_op op_fdiv (pv 0) pe_int) pa_nil)) pe_int)) pe_int))) pss_nil)
        (pss_one (ps_ret (pe_op op_sub (pe_op op_mod (pe_callTy call_int1 (by rfl) m_int (by decide +kernel) (pa_cons (pe_op op_fdiv (pv 0) pe_int) pa_nil)) pe_int) pe_int))))), ?_⟩
    obtain ⟨z, hz⟩ := item6 (a := 0) (b := 900000000) (c := -900000000) (d := 1800000000) (e := -1800000000) (f := 3600000000) (i := n / 8 % 6) ⟨by omega, by omega⟩
    refine q_asg (ev_opL1 (el_lst (ea_cons ev_c (ea_cons ev_c (ea_cons (ev_un ev_c ru_neg) (ea_cons ev_c (ea_cons (ev_un ev_c ru_neg) (ea_cons ev_c ea_nil)))))) (show 6 ≤ 100000 by decide)) (fun _ _ => (ev_op (ev_cb (ea_cons (ev_op (ev_var rfl) ev_c (rv_I ⟨by decide, by decide⟩)) ea_nil) rc_intI) ev_c (rv_I (by decide)))) (fun _ _ hp _ => rv_ixL (sq_of hp) hz)) fun H1 e1 => ?_
    refine st_is (σ' := [_, _]) rfl ?_
    refine q_when (et_test (ev_op (ev_op (ev_cb (ea_cons (ev_var rfl) ea_nil) rc_intI) ev_c (rv_I (by decide))) ev_c (rv_eq rfl))) (fun hb H2 e2 => ?_) (fun hb H2 e2 => ?_)
    · exact s_ret (ev_op (ev_op (ev_var rfl) (ev_op (ev_cb (ea_cons (ev_op (ev_var rfl) ev_c (rv_I ⟨by decide, by decide⟩)) ea_nil) rc_intI) ev_c (rv_I (by decide))) rv_I0) ev_c rv_I0) fun H3 e3 => q _ H3 (e1.trans (e2.trans e3))
    · exact s_ret (ev_op (ev_op (ev_cb (ea_cons (ev_op (ev_var rfl) ev_c (rv_I ⟨by decide, by decide⟩)) ea_nil) rc_intI) ev_c (rv_I (by decide))) ev_c rv_I0) fun H3 e3 => q _ H3 (e1.trans (e2.trans e3))
/-! ### the law -/
def spLaw (K : PySem.W.Frag) : Sp := fun vs H Q _ => ∃ (a : Addr) (ns : List Int), vs = [.ref a] ∧ SqL K H a (ns.map V.int) ∧ ns.length ≤ 63 ∧ ∀ H', Q (.bl true) H'
theorem nes {x : V} : (!decide (x = x)) = false := by
  rw [decide_eq_true rfl]
  rfl
theorem ok_law {f f0 f1 f2 f3 f4 f5 f6 f7 f8 f9 CI CP : Addr} {fd fd0 fd1 fd2 fd3 fd4 fd5 fd6 fd7 fd8 fd9 : FuncData} (F : Fun K "law" "law" s_law f fd) (T : Errs K mg "InvalidPoint" CI CP)
    (F_is_point : Fun K "is_point" "is_point" s_is_point f0 fd0) (F_is_latitude : Fun K "is_latitude" "is_latitude" s_is_latitude f1 fd1) (F_is_longitude : Fun K "is_longitude" "is_longitude" s_is_longitude f2 fd2) (F_wrapped : Fun K "wrapped" "wrapped" s_wrapped f3 fd3) (F_made_point : Fun K "made_point" "made_point" s_made_point f4 fd4) (F_antipode : Fun K "antipode" "antipode" s_antipode f5 fd5) (F_law_is_integer : Fun K "_law_is_integer" "_law_is_integer" s_law_is_integer f6 fd6) (F_law_cell : Fun K "_law_cell" "_law_cell" s_law_cell f7 fd7) (F_law_rich : Fun K "_law_rich" "_law_rich" s_law_rich f8 fd8) (F_law_angle : Fun K "_law_angle" "_law_angle" s_law_angle f9 fd9)
    (b_is_point : Binds K fd0 ["value"] []) (b_is_latitude : Binds K fd1 ["angle"] []) (b_is_longitude : Binds K fd2 ["angle"] []) (b_wrapped : Binds K fd3 ["angle"] []) (b_made_point : Binds K fd4 ["lat", "lon"] []) (b_antipode : Binds K fd5 ["point"] []) (b_law_is_integer : Binds K fd6 ["actual"] []) (b_law_cell : Binds K fd7 ["script", "k"] []) (b_law_rich : Binds K fd8 ["cell"] []) (b_law_angle : Binds K fd9 ["number"] [])
    (g_is_point : mg "is_point" = some (.ref f0)) (g_is_latitude : mg "is_latitude" = some (.ref f1)) (g_is_longitude : mg "is_longitude" = some (.ref f2)) (g_wrapped : mg "wrapped" = some (.ref f3)) (g_made_point : mg "made_point" = some (.ref f4)) (g_antipode : mg "antipode" = some (.ref f5)) (g_law_is_integer : mg "_law_is_integer" = some (.ref f6)) (g_law_cell : mg "_law_cell" = some (.ref f7)) (g_law_rich : mg "_law_rich" = some (.ref f8)) (g_law_angle : mg "_law_angle" = some (.ref f9))
    {t0 t1 t2 t3 : Tok} (g_DEGREE : mg "DEGREE" = some (.int 10000000 t0)) (g_RIGHT_ANGLE : mg "RIGHT_ANGLE" = some (.int 900000000 t1)) (g_HALF_TURN : mg "HALF_TURN" = some (.int 1800000000 t2)) (g_FULL_TURN : mg "FULL_TURN" = some (.int 3600000000 t3))
    (m_len : mg "len" = none) (m_abs : mg "abs" = none) (m_int : mg "int" = none) (m_bool : mg "bool" = none) (m_tuple : mg "tuple" = none) (m_isinstance : mg "isinstance" = none) : FnOk P w K mg base CX0 3 f fd ["script"] (spLaw K) := by
  have G_is_point : FnOk P w K mg base CX0 2 f0 fd0 ["value"] (spPoint K) := ok_point F_is_point F_is_latitude b_is_latitude g_is_latitude F_is_longitude b_is_longitude g_is_longitude g_RIGHT_ANGLE g_HALF_TURN
  have G_wrapped : FnOk P w K mg base CX0 1 f3 fd3 ["angle"] spWrapped := ok_wrapped F_wrapped g_HALF_TURN g_FULL_TURN
  have G_made_point : FnOk P w K mg base (L2.CX P w) 2 f4 fd4 ["lat", "lon"] (spMade CI) := ok_made F_made_point T F_is_latitude b_is_latitude g_is_latitude F_wrapped b_wrapped g_wrapped g_RIGHT_ANGLE g_HALF_TURN g_FULL_TURN
  have G_antipode : FnOk P w K mg base CX0 2 f5 fd5 ["point"] (spAnti K) := ok_anti F_antipode F_wrapped b_wrapped g_wrapped g_HALF_TURN g_FULL_TURN
  have G_law_is_integer : FnOk P w K mg base CX0 1 f6 fd6 ["actual"] spInt := ok_lint F_law_is_integer m_isinstance m_int m_bool
  have G_law_cell : FnOk P w K mg base CX0 1 f7 fd7 ["script", "k"] (spCell K) := ok_cell F_law_cell m_len
  have G_law_rich : FnOk P w K mg base CX0 1 f8 fd8 ["cell"] spRich := ok_rich F_law_rich m_abs m_int
  have G_law_angle : FnOk P w K mg base CX0 1 f9 fd9 ["number"] spAngle := ok_angle F_law_angle m_int
  refine F.ok sc_law (fun vs H Q E h => ?_) (fun cdv A outer s H vs Q E hr h => ?_)
  · obtain ⟨a, ns, rfl, _⟩ := h
    rfl
  · obtain ⟨sa, ns, rfl, hS, hl, fin⟩ := h
    refine ⟨_, (pss_cons (ps_set (i := 1) sc_law.nd rfl (.inl rfl) (pe_call G_law_angle (hr.mono (by decide)) (by rfl) g_law_angle F_law_angle.kp b_law_angle .nil pass0 (pa_cons (pe_call G_law_rich (hr.mono (by decide)) (by rfl) g_law_rich F_law_rich.kp b_law_rich .nil pass0 (pa_cons (pe_call G_law_cell (hr.mono (by decide)) (by rfl) g_law_cell F_law_cell.kp b_law_cell .nil pass0 (pa_cons (pv 0) (pa_cons pe_int pa_nil))) pa_nil)) pa_nil)))
        (pss_cons (ps_set (i := 2) sc_law.nd rfl (.inl rfl) (pe_call G_law_angle (hr.mono (by decide)) (by rfl) g_law_angle F_law_angle.kp b_law_angle .nil pass0 (pa_cons (pe_call G_law_rich (hr.mono (by decide)) (by rfl) g_law_rich F_law_rich.kp b_law_rich .nil pass0 (pa_cons (pe_call G_law_cell (hr.mono (by decide)) (by rfl) g_law_cell F_law_cell.kp b_law_cell .nil pass0 (pa_cons (pv 0) (pa_cons pe_int pa_nil))) pa_nil)) pa_nil)))
        (pss_cons (ps_if (pt_cmpR op_ne (pe_glob (by rfl) g_DEGREE (show RelV (.int 10000000) _ from ⟨_, rfl⟩)) pe_int (nomark _)) (pss_one (ps_ret pe_bl)) pss_nil)
        (pss_cons (ps_set (i := 3) sc_law.nd rfl (.inl rfl) (pe_and (pe_chain op_le op_le (pe_un un_neg pe_int) (pv 1) pe_int) (pe_one (pe_chain op_le op_lt (pe_un un_neg pe_int) (pv 2) pe_int))))
        (pss_cons (ps_set (i := 4) sc_law.nd rfl (.inl rfl) (pe_call G_is_point (hr.mono (by decide)) (by rfl) g_is_point F_is_point.kp b_is_point .nil pass0 (pa_cons (pe_tup (pa_cons (pv 1) (pa_cons (pv 2) pa_nil))) pa_nil)))
        (pss_cons (ps_if (PW.pt (pw_or (pt_not (pt_val (pe_callB call_isi (by rfl) m_isinstance (by decide +kernel) (pa_cons (pv 4) (pa_cons (pe_bltn (by rfl) m_bool (by decide +kernel) (show RelV (.ty "bool") _ from rfl)) pa_nil))))) (pw_or1 (pt_cmpR op_ne (pv 4) (pv 3) (nomark _))))) (pss_one (ps_ret pe_bl)) pss_nil)
        (pss_cons (ps_set (i := 5) sc_law.nd rfl (.inl rfl) (pe_call G_wrapped (hr.mono (by decide)) (by rfl) g_wrapped F_wrapped.kp b_wrapped .nil pass0 (pa_cons (pv 2) pa_nil)))
        (pss_cons (ps_if (PW.pt (pw_or (pt_not (pt_val (pe_call G_law_is_integer (hr.mono (by decide)) (by rfl) g_law_is_integer F_law_is_integer.kp b_law_is_integer .nil pass0 (pa_cons (pv 5) pa_nil)))) (pw_or (pt_not (pt_chain op_le op_lt (pe_un un_neg pe_int) (pv 5) pe_int)) (pw_or1 (pt_cmpR op_ne (pe_op op_mod (pe_callTy call_int1 (by rfl) m_int (by decide +kernel) (pa_cons (pe_op op_sub (pv 2) (pv 5)) pa_nil)) pe_int) pe_int (nomark _)))))) (pss_one (ps_ret pe_bl)) pss_nil)
        (pss_cons (ps_try_as (i := 7) (tb := fun W => tAsg (tCallS (spMade CI) (WE W) (tCons (tVar 1) (tCons (tVar 2) tNil))) (gName 6))
        (ts := fun a cls d => fun D σ H => (cls = .ref CI ∧ d = none) ∧ tRet (tAndV (tCB (rIsE K CI a) (tCons (tVar 7) (tCons (tC (.ref CI)) tNil))) (tNotV (tChain (rI0 fun i j => .bl (decide (i ≤ j))) (rI0 fun i j => .bl (decide (i ≤ j))) (tUn (rU fun i => .int (-i)) (tC (.int 900000000))) (tVar 1) (tC (.int 900000000))))) D σ H) (Wout := fun _ _ _ _ => False) rfl rfl sc_law.nd rfl rfl ⟨rfl, by decide, Or.inl T.gP⟩ takes0
        (fun W pn xe tk _ => pss_one (ps_set (i := 6) sc_law.nd rfl (.inl rfl) (pe_callS G_made_point (hr.mono (by decide)) (by rfl) g_made_point F_made_point.kp b_made_point (fun σ => passAt tk σ) (pa_cons (pv 1) (pa_cons (pv 2) pa_nil)))))
        (fun a oe cls d pn hz hf => pss_if fun hcls => by
          obtain ⟨rfl, rfl⟩ := hcls
          exact pss_one (ps_ret (pe_and (pe_callB (call_isE T.ec hz hf) (by rfl) m_isinstance (by decide +kernel) (pa_cons (pv 7) (pa_cons (pe_glob (by rfl) T.gU (show RelV (.ref CI) _ from rfl)) pa_nil))) (pe_one (pe_not (pe_chain op_le op_le (pe_un un_neg pe_int) (pv 1) pe_int)))))))
        (pss_cons (ps_if (PW.pt (pw_or (pt_not (pt_val (pe_callB call_isi (by rfl) m_isinstance (by decide +kernel) (pa_cons (pv 6) (pa_cons (pe_bltn (by rfl) m_tuple (by decide +kernel) (show RelV (.ty "tuple") _ from rfl)) pa_nil))))) (pw_or (pt_cmpR (op_neD hr.units) (pv 6) (pe_tup (pa_cons (pv 1) (pa_cons (pv 5) pa_nil))) (nomark _)) (pw_or1 (pt_not (pt_chain op_le op_le (pe_un un_neg pe_int) (pv 1) pe_int)))))) (pss_one (ps_ret pe_bl)) pss_nil)
        (pss_cons (ps_set (i := 8) sc_law.nd rfl (.inl rfl) (pe_call G_antipode (hr.mono (by decide)) (by rfl) g_antipode F_antipode.kp b_antipode .nil pass0 (pa_cons (pv 6) pa_nil)))
        (pss_cons (ps_if (PW.pt (pw_or (pt_cmpR op_ne (pe_ix ix_tup (pv 8) pe_int (fun _ _ => rfl)) (pe_op op_sub pe_int (pv 1)) (nomark _)) (pw_or (pt_cmpR op_ne (pe_op op_mod (pe_callTy call_int1 (by rfl) m_int (by decide +kernel) (pa_cons (pe_op op_sub (pe_ix ix_tup (pv 8) pe_int (fun _ _ => rfl)) (pv 5)) pa_nil)) pe_int) pe_int (nomark _)) (pw_or1 (pt_not (pt_val (pe_call G_is_point (hr.mono (by decide)) (by rfl) g_is_point F_is_point.kp b_is_point .nil pass0 (pa_cons (pv 8) pa_nil)))))))) (pss_one (ps_ret pe_bl)) pss_nil)
        (pss_one (ps_ret (pe_cmpR (op_eqD hr.units) (pe_call G_antipode (hr.mono (by decide)) (by rfl) g_antipode F_antipode.kp b_antipode .nil pass0 (pa_cons (pv 8) pa_nil)) (pv 6) (nomark _)))))))))))))))), ?_⟩
    obtain ⟨n0, hn0⟩ := rich_nat (cellOf ns 0)
    obtain ⟨n1, hn1⟩ := rich_nat (cellOf ns 1)
    -- lat, lon
    refine q_asgP (fun v _ => ∃ a : Int, v = .int a) (fun Q1 k1 => ea_cons (ev_call (z := .int (n0 : Int)) (ea_cons (ev_call (z := .int (cellOf ns 0)) (ea_cons (ev_var rfl) (ea_cons ev_c ea_nil)) (cell_is hS 0)) ea_nil) (rich_is hn0)) ea_nil _ (Ex.refl _) _ fun H1 e1 => ⟨_, rfl, fun a H2 e2 => k1 _ _ (e1.trans e2) ⟨a, rfl⟩⟩) fun v H1 e1 hv => ?_
    obtain ⟨lat, rfl⟩ := hv
    refine st_is (σ' := [_, _, _, _, _, _, _, _, _]) rfl ?_
    replace hS := ex_l e1 hS
    refine q_asgP (fun v _ => ∃ a : Int, v = .int a) (fun Q1 k1 => ea_cons (ev_call (z := .int (n1 : Int)) (ea_cons (ev_call (z := .int (cellOf ns 1)) (ea_cons (ev_var rfl) (ea_cons ev_c ea_nil)) (cell_is hS 1)) ea_nil) (rich_is hn1)) ea_nil _ (Ex.refl _) _ fun H1 e1 => ⟨_, rfl, fun a H2 e2 => k1 _ _ (e1.trans e2) ⟨a, rfl⟩⟩) fun v H2 e2 hv => ?_
    obtain ⟨lon, rfl⟩ := hv
    refine st_is (σ' := [_, _, _, _, _, _, _, _, _]) rfl ?_
    clear hn0 hn1 hS
    refine q_when (b := false) (et_is (et_test (ev_op ev_c ev_c (rv_ne rfl))) nes) (fun hb => nomatch hb) fun _ H3 e3 => ?_
    -- due, found
    refine q_asg (v := .bl (latOk lat && lonOk lon)) (ev_andV (ev_chain (ev_un ev_c ru_neg) (ev_var rfl) ev_c rv_I0 rv_I0) fun _ => (ev_chain (ev_un ev_c ru_neg) (ev_var rfl) ev_c rv_I0 rv_I0)) fun H4 e4 => ?_
    refine st_is (σ' := [_, _, _, _, _, _, _, _, _]) rfl ?_
    have ptIs : ∀ {p : Addr} {Hh : Hp} {a b : Int}, Hh p = some (.tup [.int a, .int b]) → SpV (spPoint K) [.ref p] Hh (.bl (latOk a && lonOk b)) := fun hp H1 e1 Q1 q1 E1 => ⟨_, _, _, rfl, ex_t e1 (st_of hp), q1⟩
    refine q_asg (v := .bl (latOk lat && lonOk lon)) (ev_callU (eu_tup (ea_cons (ev_var rfl) (ea_cons (ev_var rfl) ea_nil)) (show 2 ≤ 100000 by decide)) ea_nil fun p H1 e1 hp => ptIs hp) fun H5 e5 => ?_
    refine st_is (σ' := [_, _, _, _, _, _, _, _, _]) rfl ?_
    refine q_when (b := false) (et_is (et_or (a := false) (et_is (et_not (et_B (ev_cb (ea_cons (ev_var rfl) (ea_cons ev_c ea_nil)) (rc_isiBB (K := K))))) rfl) fun _ => (et_is (et_test (ev_op (ev_var rfl) (ev_var rfl) (rv_ne rfl))) nes)) rfl) (fun hb => nomatch hb) fun _ H6 e6 => ?_
    -- turned
    refine q_asg (v := .int (wrapI lon)) (ev_call (ea_cons (ev_var rfl) ea_nil) wrapped_is) fun H7 e7 => ?_
    refine st_is (σ' := [_, _, _, _, _, _, _, _, _]) rfl ?_
    have ht : -1800000000 ≤ wrapI lon ∧ wrapI lon < 1800000000 ∧ (lon - wrapI lon) % 3600000000 = 0 := by
      unfold wrapI
      omega
    obtain ⟨ht1, ht2, ht3⟩ := ht
    have h1 : ((decide ((-1800000000 : Int) ≤ wrapI lon)) && (decide (wrapI lon < 1800000000))) = true := by
      rw [decide_eq_true ht1, decide_eq_true ht2]
      rfl
    refine q_when (b := false) (et_is (et_or (a := false) (et_is (et_not (et_B (ev_call (ea_cons (ev_var rfl) ea_nil) int_is))) rfl) fun _ => (et_is (et_or (a := false) (et_is (et_not (et_B (ev_chain (ev_un ev_c ru_neg) (ev_var rfl) ev_c rv_I0 rv_I0))) (by rw [h1]; rfl)) fun _ => (et_is (et_test (ev_op (ev_op (ev_cb (ea_cons (ev_op (ev_var rfl) (ev_var rfl) rv_I0) ea_nil) rc_intI) ev_c (rv_I (by decide))) ev_c (rv_ne rfl))) (b := false) (by rw [ht3]; exact nes))) rfl)) rfl) (fun hb => nomatch hb) fun _ H8 e8 => ?_
    clear h1
    -- point
    refine ⟨_, rfl, _, rfl, lat, lon, rfl, fun hf H9 e9 => ⟨true, T.caught, fun _ a0 _ => ⟨⟨rfl, rfl⟩, ?_⟩, fun q => nomatch q⟩, fun hlat p H9 n9 e9 h9 => ?_⟩
    · refine s_ret (v := .bl true) (ev_is (ev_andV (ev_isE (K := K) (CU := CI) rfl) fun _ => ev_notV (ev_chain (ev_un ev_c ru_neg) (ev_var rfl) ev_c rv_I0 rv_I0)) (congrArg V.bl ?_)) fun H10 e10 => fin H10
      show (true && !(latOk lat)) = true
      rw [hf]
      rfl
    refine st_is (σ' := [some (.ref sa), some (.int lat), some (.int lon), some (.bl (latOk lat && lonOk lon)), some (.bl (latOk lat && lonOk lon)), some (.int (wrapI lon)), some (.ref p), none, none]) rfl ?_
    have tp : SqT K H9 p [.int lat, .int (wrapI lon)] := st_of h9
    refine q_when (b := false) (et_is (et_or (a := false) (et_is (et_not (et_B (ev_cb (ea_cons (ev_var rfl) (ea_cons ev_c ea_nil)) (rc_isiT (K := K) h9)))) rfl) fun _ => (et_is (et_or (a := false) (et_test (ev_opU (ev_var rfl) (eu_tup (ea_cons (ev_var rfl) (ea_cons (ev_var rfl) ea_nil)) (show 2 ≤ 100000 by decide)) (fun p1 H1 h1 e1 => rv_neS (dp2 (ex_t e1 tp)) (dp2 (st_of h1)) sh2))) fun _ => (et_is (et_not (et_B (ev_chain (ev_un ev_c ru_neg) (ev_var rfl) ev_c rv_I0 rv_I0))) (b := false) (show (!(latOk lat)) = false by rw [hlat]; rfl))) rfl)) rfl) (fun hb => nomatch hb) fun _ H10 e10 => ?_
    replace tp := ex_t e10 tp
    -- other
    have antiIs : ∀ {p : Addr} {Hh : Hp} {a b : Int}, SqT K Hh p [.int a, .int b] → SpU (spAnti K) [.ref p] Hh [.int (-a), .int (wrapI (b + 1800000000))] := fun hp H1 e1 Q1 q1 E1 => ⟨_, _, _, rfl, ex_t e1 hp, q1⟩
    refine q_asgU (eu_call (ea_cons (ev_var rfl) ea_nil) (antiIs tp)) fun o H11 n11 e11 t_o => ?_
    refine st_is (σ' := [_, _, _, _, _, _, _, _, _]) rfl ?_
    replace tp := ex_t e11 tp
    have to : SqT K H11 o [.int (-lat), .int (wrapI (wrapI lon + 1800000000))] := st_of t_o
    have h2 : (wrapI (wrapI lon + 1800000000) - wrapI lon) % 3600000000 = 1800000000 := by
      unfold wrapI at *
      omega
    have h3 : (latOk (-lat) && lonOk (wrapI (wrapI lon + 1800000000))) = true := by
      unfold latOk lonOk wrapI at *
      simp only [Bool.and_eq_true, decide_eq_true_eq] at *
      omega
    refine q_when (b := false) (et_is (et_or (a := false) (et_is (et_test (ev_op (ev_op (ev_var rfl) ev_c (rv_ixT to rfl)) (ev_op ev_c (ev_var rfl) rv_I0) (rv_ne rfl))) (by rw [Int.zero_sub]; exact nes)) fun _ => (et_is (et_or (a := false) (et_is (et_test (ev_op (ev_op (ev_cb (ea_cons (ev_op (ev_op (ev_var rfl) ev_c (rv_ixT to rfl)) (ev_var rfl) rv_I0) ea_nil) rc_intI) ev_c (rv_I (by decide))) ev_c (rv_ne rfl))) (by rw [h2]; exact nes)) fun _ => (et_is (et_not (et_B (ev_call (z := .bl true) (ea_cons (ev_var rfl) ea_nil) (by have := ptIs t_o; rw [h3] at this; exact this)))) (b := false) rfl)) rfl)) rfl) (fun hb => nomatch hb) fun _ H12 e12 => ?_
    have h4 : wrapI (wrapI (wrapI lon + 1800000000) + 1800000000) = wrapI lon := by
      unfold wrapI
      omega
    have tA := antiIs (ex_t e12 to)
    rw [h4, Int.neg_neg] at tA
    exact s_ret (ev_opUV (eu_call (ea_cons (ev_var rfl) ea_nil) tA) (ev_var rfl) (fun p1 H1 h1 e1 => rv_eqS (dp2 (st_of h1)) (dp2 (ex_t (e12.trans e1) tp)) sh2)) fun H13 e13 => fin H13
theorem all_mk {l : PySem.W.OpenLaw} {w : World} {K : PySem.W.Frag} {h : Heap} {mg : Str → Option Value} {fa f0 f1 f2 f3 f4 f5 f6 f7 f8 f9 f10 : Addr} (X : K.In h) (G : h.Ns mainGlobals mg) (hfa : mg "law" = some (.ref fa))
    {od0 an0 od1 an1 od2 an2 od3 an3 od4 an4 od5 an5 od6 an6 od7 an7 od8 an8 od9 an9 od10 an10 : Option Addr} {sl0 sl1 sl2 sl3 sl4 sl5 sl6 sl7 sl8 sl9 sl10 : Array (Option Value)} {oc0 kV0 dc0 pm0 cd0 ct0 oc1 kV1 dc1 pm1 cd1 ct1 oc2 kV2 dc2 pm2 cd2 ct2 oc3 kV3 dc3 pm3 cd3 ct3 oc4 kV4 dc4 pm4 cd4 ct4 oc5 kV5 dc5 pm5 cd5 ct5 oc6 kV6 dc6 pm6 cd6 ct6 oc7 kV7 dc7 pm7 cd7 ct7 oc8 kV8 dc8 pm8 cd8 ct8 oc9 kV9 dc9 pm9 cd9 ct9 oc10 kV10 dc10 pm10 cd10 ct10 : Value}
    (a0 : PySem.W.nsIn K mainGlobals "is_point" = some (some (.ref f0))) (l0 : K.lookup f0 = some ⟨oc0, od0, .func (PySem.W.fnOf "is_point" "is_point" (defArgs s_is_point) (defBody s_is_point) (defScope s_is_point) .none kV0 dc0 pm0 an0 cd0 ct0), sl0⟩) (c0 : PySem.W.codeIn K cd0 "is_point" = true) (k0 : PySem.W.keepIn K (.ref f0) = true)
    (a1 : PySem.W.nsIn K mainGlobals "is_latitude" = some (some (.ref f1))) (l1 : K.lookup f1 = some ⟨oc1, od1, .func (PySem.W.fnOf "is_latitude" "is_latitude" (defArgs s_is_latitude) (defBody s_is_latitude) (defScope s_is_latitude) .none kV1 dc1 pm1 an1 cd1 ct1), sl1⟩) (c1 : PySem.W.codeIn K cd1 "is_latitude" = true) (k1 : PySem.W.keepIn K (.ref f1) = true)
    (a2 : PySem.W.nsIn K mainGlobals "is_longitude" = some (some (.ref f2))) (l2 : K.lookup f2 = some ⟨oc2, od2, .func (PySem.W.fnOf "is_longitude" "is_longitude" (defArgs s_is_longitude) (defBody s_is_longitude) (defScope s_is_longitude) .none kV2 dc2 pm2 an2 cd2 ct2), sl2⟩) (c2 : PySem.W.codeIn K cd2 "is_longitude" = true) (k2 : PySem.W.keepIn K (.ref f2) = true)
    (a3 : PySem.W.nsIn K mainGlobals "wrapped" = some (some (.ref f3))) (l3 : K.lookup f3 = some ⟨oc3, od3, .func (PySem.W.fnOf "wrapped" "wrapped" (defArgs s_wrapped) (defBody s_wrapped) (defScope s_wrapped) .none kV3 dc3 pm3 an3 cd3 ct3), sl3⟩) (c3 : PySem.W.codeIn K cd3 "wrapped" = true) (k3 : PySem.W.keepIn K (.ref f3) = true)
    (a4 : PySem.W.nsIn K mainGlobals "made_point" = some (some (.ref f4))) (l4 : K.lookup f4 = some ⟨oc4, od4, .func (PySem.W.fnOf "made_point" "made_point" (defArgs s_made_point) (defBody s_made_point) (defScope s_made_point) .none kV4 dc4 pm4 an4 cd4 ct4), sl4⟩) (c4 : PySem.W.codeIn K cd4 "made_point" = true) (k4 : PySem.W.keepIn K (.ref f4) = true)
    (a5 : PySem.W.nsIn K mainGlobals "antipode" = some (some (.ref f5))) (l5 : K.lookup f5 = some ⟨oc5, od5, .func (PySem.W.fnOf "antipode" "antipode" (defArgs s_antipode) (defBody s_antipode) (defScope s_antipode) .none kV5 dc5 pm5 an5 cd5 ct5), sl5⟩) (c5 : PySem.W.codeIn K cd5 "antipode" = true) (k5 : PySem.W.keepIn K (.ref f5) = true)
    (a6 : PySem.W.nsIn K mainGlobals "_law_is_integer" = some (some (.ref f6))) (l6 : K.lookup f6 = some ⟨oc6, od6, .func (PySem.W.fnOf "_law_is_integer" "_law_is_integer" (defArgs s_law_is_integer) (defBody s_law_is_integer) (defScope s_law_is_integer) .none kV6 dc6 pm6 an6 cd6 ct6), sl6⟩) (c6 : PySem.W.codeIn K cd6 "_law_is_integer" = true) (k6 : PySem.W.keepIn K (.ref f6) = true)
    (a7 : PySem.W.nsIn K mainGlobals "_law_cell" = some (some (.ref f7))) (l7 : K.lookup f7 = some ⟨oc7, od7, .func (PySem.W.fnOf "_law_cell" "_law_cell" (defArgs s_law_cell) (defBody s_law_cell) (defScope s_law_cell) .none kV7 dc7 pm7 an7 cd7 ct7), sl7⟩) (c7 : PySem.W.codeIn K cd7 "_law_cell" = true) (k7 : PySem.W.keepIn K (.ref f7) = true)
    (a8 : PySem.W.nsIn K mainGlobals "_law_rich" = some (some (.ref f8))) (l8 : K.lookup f8 = some ⟨oc8, od8, .func (PySem.W.fnOf "_law_rich" "_law_rich" (defArgs s_law_rich) (defBody s_law_rich) (defScope s_law_rich) .none kV8 dc8 pm8 an8 cd8 ct8), sl8⟩) (c8 : PySem.W.codeIn K cd8 "_law_rich" = true) (k8 : PySem.W.keepIn K (.ref f8) = true)
    (a9 : PySem.W.nsIn K mainGlobals "_law_angle" = some (some (.ref f9))) (l9 : K.lookup f9 = some ⟨oc9, od9, .func (PySem.W.fnOf "_law_angle" "_law_angle" (defArgs s_law_angle) (defBody s_law_angle) (defScope s_law_angle) .none kV9 dc9 pm9 an9 cd9 ct9), sl9⟩) (c9 : PySem.W.codeIn K cd9 "_law_angle" = true) (k9 : PySem.W.keepIn K (.ref f9) = true)
    (a10 : PySem.W.nsIn K mainGlobals "law" = some (some (.ref f10))) (l10 : K.lookup f10 = some ⟨oc10, od10, .func (PySem.W.fnOf "law" "law" (defArgs s_law) (defBody s_law) (defScope s_law) .none kV10 dc10 pm10 an10 cd10 ct10), sl10⟩) (c10 : PySem.W.codeIn K cd10 "law" = true) (k10 : PySem.W.keepIn K (.ref f10) = true)
    (z0 : PySem.W.nsIn K mainGlobals "len" = some none)
    (z1 : PySem.W.nsIn K mainGlobals "abs" = some none)
    (z2 : PySem.W.nsIn K mainGlobals "int" = some none)
    (z3 : PySem.W.nsIn K mainGlobals "bool" = some none)
    (z4 : PySem.W.nsIn K mainGlobals "tuple" = some none)
    (z5 : PySem.W.nsIn K mainGlobals "isinstance" = some none)
    {ti0 ti1 ti2 ti3 : Tok} (u0 : PySem.W.nsIn K mainGlobals "DEGREE" = some (some (.int 10000000 ti0))) (u1 : PySem.W.nsIn K mainGlobals "RIGHT_ANGLE" = some (some (.int 900000000 ti1))) (u2 : PySem.W.nsIn K mainGlobals "HALF_TURN" = some (some (.int 1800000000 ti2))) (u3 : PySem.W.nsIn K mainGlobals "FULL_TURN" = some (some (.int 3600000000 ti3)))
    {CP : Addr} (uP : PySem.W.nsIn K mainGlobals "PortolanError" = some (some (.ref CP))) (bP : PySem.W.subIn K (.ref CP) (.type "BaseException") = some true) (tP : PySem.W.typeIn K (.ref CP) = some (.type "type")) (iP : PySem.W.isClsIn K CP = true)
    {CE0 : Addr} (uE0 : PySem.W.nsIn K mainGlobals "InvalidPoint" = some (some (.ref CE0)))
    (xE0 : PySem.W.excIn K CE0 [.type "ValueError", .type "Exception", .type "BaseException", .type "object"] "ValueError.__new__" = true) (kE0 : PySem.W.keepIn K (.ref CE0) = true) (bE0 : PySem.W.subIn K (.ref CE0) (.type "BaseException") = some true) (tE0 : PySem.W.typeIn K (.ref CE0) = some (.type "type")) (sE0 : PySem.W.subIn K (.ref CE0) (.ref CP) = some true)
    (exa0 : PySem.W.findIn K (.ref CE0) "__getattribute__" = some (some (.builtin "BaseException.__getattribute__"))) (exb0 : PySem.W.findIn K (.ref CE0) "__getattr__" = some none) (exc0 : PySem.W.hasDictIn K CE0 = true) (exd0 : PySem.W.findIn K (.ref CE0) "__class__" = some (some (.builtin "object.__class__")))
    (exe0 : PySem.W.specialIn K (.builtin "object.__class__") "__get__" = some (some (.builtin "getset_descriptor.__get__"))) (exf0 : PySem.W.takesIn K (.builtin "object.__class__") = some true) (exg0 : PySem.W.mroIn K CE0 (.type "object") = some true)
    : ∃ fd : FuncData, (∀ (s : Shared) (v : Value), BindsTo s fd ⟨[v], []⟩ [("script", v)]) ∧ ∀ base : Heap, K.In base → base.Ns mainGlobals mg → FnOk l.prog w K mg base CX0 3 fa fd ["script"] (spLaw K) := by
  have e := hfa.symm.trans (PySem.W.mg_of X G a10)
  cases e
  have F_is_point := fun_mk (st := s_is_point) l0 c0 k0
  have F_is_latitude := fun_mk (st := s_is_latitude) l1 c1 k1
  have F_is_longitude := fun_mk (st := s_is_longitude) l2 c2 k2
  have F_wrapped := fun_mk (st := s_wrapped) l3 c3 k3
  have F_made_point := fun_mk (st := s_made_point) l4 c4 k4
  have F_antipode := fun_mk (st := s_antipode) l5 c5 k5
  have F_law_is_integer := fun_mk (st := s_law_is_integer) l6 c6 k6
  have F_law_cell := fun_mk (st := s_law_cell) l7 c7 k7
  have F_law_rich := fun_mk (st := s_law_rich) l8 c8 k8
  have F_law_angle := fun_mk (st := s_law_angle) l9 c9 k9
  have F_law := fun_mk (st := s_law) l10 c10 k10
  have b_is_point := F_is_point.binds (ps := ["value"]) fun _ _ _ _ _ _ us hl => match us, hl with | [_], _ => rfl
  have g_is_point := PySem.W.mg_of X G a0
  have b_is_latitude := F_is_latitude.binds (ps := ["angle"]) fun _ _ _ _ _ _ us hl => match us, hl with | [_], _ => rfl
  have g_is_latitude := PySem.W.mg_of X G a1
  have b_is_longitude := F_is_longitude.binds (ps := ["angle"]) fun _ _ _ _ _ _ us hl => match us, hl with | [_], _ => rfl
  have g_is_longitude := PySem.W.mg_of X G a2
  have b_wrapped := F_wrapped.binds (ps := ["angle"]) fun _ _ _ _ _ _ us hl => match us, hl with | [_], _ => rfl
  have g_wrapped := PySem.W.mg_of X G a3
  have b_made_point := F_made_point.binds (ps := ["lat", "lon"]) fun _ _ _ _ _ _ us hl => match us, hl with | [_, _], _ => rfl
  have g_made_point := PySem.W.mg_of X G a4
  have b_antipode := F_antipode.binds (ps := ["point"]) fun _ _ _ _ _ _ us hl => match us, hl with | [_], _ => rfl
  have g_antipode := PySem.W.mg_of X G a5
  have b_law_is_integer := F_law_is_integer.binds (ps := ["actual"]) fun _ _ _ _ _ _ us hl => match us, hl with | [_], _ => rfl
  have g_law_is_integer := PySem.W.mg_of X G a6
  have b_law_cell := F_law_cell.binds (ps := ["script", "k"]) fun _ _ _ _ _ _ us hl => match us, hl with | [_, _], _ => rfl
  have g_law_cell := PySem.W.mg_of X G a7
  have b_law_rich := F_law_rich.binds (ps := ["cell"]) fun _ _ _ _ _ _ us hl => match us, hl with | [_], _ => rfl
  have g_law_rich := PySem.W.mg_of X G a8
  have b_law_angle := F_law_angle.binds (ps := ["number"]) fun _ _ _ _ _ _ us hl => match us, hl with | [_], _ => rfl
  have g_law_angle := PySem.W.mg_of X G a9
  have m_len := PySem.W.mg_none_of X G z0
  have m_abs := PySem.W.mg_none_of X G z1
  have m_int := PySem.W.mg_none_of X G z2
  have m_bool := PySem.W.mg_none_of X G z3
  have m_tuple := PySem.W.mg_none_of X G z4
  have m_isinstance := PySem.W.mg_none_of X G z5
  have T0 : Errs K mg "InvalidPoint" CE0 CP := ⟨PySem.W.mg_of X G uE0, PySem.W.mg_of X G uP, xE0, kE0, bE0, tE0, bP, tP, iP, sE0, ⟨exa0, exb0, bE0, exc0, exd0, exe0, exf0, exg0⟩⟩
  exact ⟨PySem.W.fnOf "law" "law" (defArgs s_law) (defBody s_law) (defScope s_law) .none kV10 dc10 pm10 an10 cd10 ct10, fun s v => .of_eq rfl, fun base _ _ => ok_law F_law T0 F_is_point F_is_latitude F_is_longitude F_wrapped F_made_point F_antipode F_law_is_integer F_law_cell F_law_rich F_law_angle b_is_point b_is_latitude b_is_longitude b_wrapped b_made_point b_antipode b_law_is_integer b_law_cell b_law_rich b_law_angle g_is_point g_is_latitude g_is_longitude g_wrapped g_made_point g_antipode g_law_is_integer g_law_cell g_law_rich g_law_angle (PySem.W.mg_of X G u0) (PySem.W.mg_of X G u1) (PySem.W.mg_of X G u2) (PySem.W.mg_of X G u3) m_len m_abs m_int m_bool m_tuple m_isinstance⟩
end
end K40
open PySem PySem.W PyProof.Rows
set_option maxHeartbeats 0 in
theorem PySem.Challenge.cw_portolan_k40_points_and_turns_holds : PySem.Challenge.rw_portolan_k40_points_and_turns.Holds := by
  w_on; o_law; k_head; (case hw => w_witness2)
  k_fill
  refine L2.walk_of (l := PySem.Challenge.rw_portolan_k40_points_and_turns) (n := 63) (k := 3) (x := "script") (CX := fun _ => L2.CX0) (sp := fun w => K40.spLaw _) rfl (by decide) rfl ⟨rfl, by decide, by decide⟩ (fun w h Y => PySem.W.kIn_of Y) ?F (fun _ _ a ns hl _ hS => ⟨a, ns, rfl, hS, hl, fun _ => rfl⟩) (fun _ _ _ _ _ h => h)
  case F =>
    intro w mg fa h KX G hmg
    refine' K40.all_mk KX G hmg ?a0 ?l0 ?c0 ?k0 ?a1 ?l1 ?c1 ?k1 ?a2 ?l2 ?c2 ?k2 ?a3 ?l3 ?c3 ?k3 ?a4 ?l4 ?c4 ?k4 ?a5 ?l5 ?c5 ?k5 ?a6 ?l6 ?c6 ?k6 ?a7 ?l7 ?c7 ?k7 ?a8 ?l8 ?c8 ?k8 ?a9 ?l9 ?c9 ?k9 ?a10 ?l10 ?c10 ?k10 ?z0 ?z1 ?z2 ?z3 ?z4 ?z5 ?u0 ?u1 ?u2 ?u3 ?uP ?bP ?tP ?iP ?uE0 ?xE0 ?kE0 ?bE0 ?tE0 ?sE0 ?exa0 ?exb0 ?exc0 ?exd0 ?exe0 ?exf0 ?exg0
    (case a0 => k_is); (case l0 => k_is); (case c0 => k_is); (case k0 => k_is); (case a1 => k_is); (case l1 => k_is); (case c1 => k_is); (case k1 => k_is); (case a2 => k_is); (case l2 => k_is); (case c2 => k_is); (case k2 => k_is); (case a3 => k_is); (case l3 => k_is); (case c3 => k_is); (case k3 => k_is); (case a4 => k_is); (case l4 => k_is); (case c4 => k_is); (case k4 => k_is); (case a5 => k_is); (case l5 => k_is); (case c5 => k_is); (case k5 => k_is); (case a6 => k_is); (case l6 => k_is); (case c6 => k_is); (case k6 => k_is); (case a7 => k_is); (case l7 => k_is); (case c7 => k_is); (case k7 => k_is); (case a8 => k_is); (case l8 => k_is); (case c8 => k_is); (case k8 => k_is); (case a9 => k_is); (case l9 => k_is); (case c9 => k_is); (case k9 => k_is); (case a10 => k_is); (case l10 => k_is); (case c10 => k_is); (case k10 => k_is); (case z0 => k_is); (case z1 => k_is); (case z2 => k_is); (case z3 => k_is); (case z4 => k_is); (case z5 => k_is); (case u0 => k_is); (case u1 => k_is); (case u2 => k_is); (case u3 => k_is); (case uP => k_is); (case bP => k_is); (case tP => k_is); (case iP => k_is); (case uE0 => k_is); (case xE0 => k_exc); (case kE0 => k_is); (case bE0 => k_is); (case tE0 => k_is); (case sE0 => k_is); (case exa0 => k_is); (case exb0 => k_is); (case exc0 => k_is); (case exd0 => k_is); (case exe0 => k_is); (case exf0 => k_is); (case exg0 => k_is)

