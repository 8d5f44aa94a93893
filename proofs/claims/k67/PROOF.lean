import PyProof.Rows.All
import Wide.All
import OpenK.AllK
import Wide.FinOn
import HandS.ForMost
import HandS.ForExc
import HandS.Flt
import HandS.Style
import HandS.TupSets
import HandS.SortRule
import HandS.ExcIs
import HandS.More
import HandS.EndBits
import PyProof.ExcBaseAll.ValueError
import HandS.Evl
import HandS.Wide
import HandS.WideBits
import HandS.IsInst
import PyProof.P3Eq
import HandS.Gcd
import PyProof.MaxThree
import Flt.RightSqrt
import KE.KMathG
import HandS.Codes
import HandS.StrMore
import HandS.Text
import KE.IntTextLaws
import PyProof.Rows.StrAscii
import HandS.Walk
import HandS.Deep
import HandS.Zip
import HandS.RevRange
import HandS.FStr
import KE.KDictZip
import KE.KTurns
import PyProof.ListNew
import HandS.List
import PyProof.MinMaxWalk
import PyProof.WalkInts
import PySem.Challenge.RW_portolan_k67_hulls_of_points
set_option Elab.async false
set_option linter.all false
set_option maxRecDepth 100000
set_option maxHeartbeats 4000000
/-! Own rules over the layer: what a reading evaluates to, for texts that change nothing. -/
namespace Cm
open PySem PySem.Spec PyProof.Rows L2 Evl

theorem ex_app {H H' : Hp} (e : Ex H H') {p : Addr} {o : HO} (h : H p = some o) : H' p = some o := e p o h
/-- a new tuple comes back -/
def RetU (xs : List V) (H : Hp) (Q : VK) : Prop := ∀ p H2, H p = none → Ex H H2 → H2 p = some (.tup xs) → Q (.ref p) H2
def SpU (sp : Sp) (vs : List V) (H : Hp) (xs : List V) : Prop := ∀ H1, Ex H H1 → ∀ Q : VK, (∀ p H2, H1 p = none → Ex H1 H2 → H2 p = some (.tup xs) → Q (.ref p) H2) → ∀ E : XK, sp vs H1 Q E
section
variable {K : PySem.W.Frag} {σ : L2.St} {H H' : Hp} {ta tb tc te tx : TE} {t u : TT} {x y z v w : V} {r r' : R2} {D : Ends} {tz : TS}
/-- the slots written out anew -/
theorem st_is {σ' : L2.St} {ts : TS} (e : σ = σ') (h : ts D σ' H) : ts D σ H := by
  rw [e]
  exact h
theorem RetU.go {xs : List V} {Q : VK} (k : RetU xs H Q) (e : Ex H H') {p : Addr} {H2 : Hp} (hp : H' p = none) (e2 : Ex H' H2) (h : H2 p = some (.tup xs)) : Q (.ref p) H2 := k p H2 (fresh_back e hp) (e.trans e2) h
theorem eu_call {sp : Sp} {dvs vs xs : List V} {E : XK} {ta : TA} (h : EvA ta σ H vs) (hs : SpU sp (vs ++ dvs) H xs) : EvU (tCall sp dvs E ta) σ H xs := fun H1 e Q q =>
  h H1 e _ fun H2 e2 => hs H2 (e.trans e2) Q (fun p H3 hp e3 h3 => q p H3 (fresh_back e2 hp) (e2.trans e3) h3) E
theorem eu_is {xs ys : List V} (h : EvU te σ H xs) (e : xs = ys) : EvU te σ H ys := by
  rw [← e]
  exact h
/-- a call whose first argument is a new tuple -/
theorem ev_callU {sp : Sp} {dvs vs xs : List V} {E : XK} {tr : TA} (h1 : EvU te σ H xs) (h2 : EvA tr σ H vs) (hs : ∀ p H1, Ex H H1 → H1 p = some (.tup xs) → SpV sp (.ref p :: vs ++ dvs) H1 z) : Ev (tCall sp dvs E (tCons te tr)) σ H z := fun H1 e Q q =>
  h1 H1 e _ fun p H2 np e2 hp => h2 H2 (e.trans e2) _ fun H3 e3 => hs p H3 ((e.trans e2).trans e3) (e3 _ _ hp) H3 (Ex.refl H3) Q (fun H4 e4 => q H4 ((e2.trans e3).trans e4)) E
/-- .. whose second argument is a new tuple -/
theorem ev_callVU {sp : Sp} {dvs vs xs : List V} {E : XK} {tr : TA} (h0 : Ev ta σ H x) (h1 : EvU te σ H xs) (h2 : EvA tr σ H vs) (hs : ∀ p H1, Ex H H1 → H1 p = some (.tup xs) → SpV sp (x :: .ref p :: vs ++ dvs) H1 z) : Ev (tCall sp dvs E (tCons ta (tCons te tr))) σ H z := fun H1 e Q q =>
  h0 H1 e _ fun H2 e2 => h1 H2 (e.trans e2) _ fun p H3 np e3 hp => h2 H3 ((e.trans e2).trans e3) _ fun H4 e4 => hs p H4 (((e.trans e2).trans e3).trans e4) (e4 _ _ hp) H4 (Ex.refl H4) Q (fun H5 e5 => q H5 (((e2.trans e3).trans e4).trans e5)) E
theorem ev_chain {b c : Bool} (ha : Ev ta σ H x) (hb : Ev tb σ H y) (hc : Ev tc σ H w) (h1 : RV r x y H (.bl b)) (h2 : RV r' y w H (.bl c)) : Ev (tChain r r' ta tb tc) σ H (.bl (b && c)) := fun H1 e Q q =>
  ha H1 e _ fun H2 e2 => hb H2 (e.trans e2) _ fun H3 e3 => h1 H3 ((e.trans e2).trans e3) _ fun H4 e4 => ⟨b, rfl, by
    cases b with
    | true =>
      show tc σ H4 _
      exact hc H4 (((e.trans e2).trans e3).trans e4) _ fun H5 e5 => h2 H5 ((((e.trans e2).trans e3).trans e4).trans e5) Q fun H6 e6 => q H6 ((((e2.trans e3).trans e4).trans e5).trans e6)
    | false =>
      show Q (.bl false) H4
      exact q H4 ((e2.trans e3).trans e4)⟩
theorem rv_shl {i : Int} {k : Nat} (h : CShl i (k : Int)) : RV (fun x y H Q => ∃ (i : Int) (k : Nat), x = .int i ∧ y = .int (k : Int) ∧ CShl i (k : Int) ∧ Q (.int (i * 2 ^ k)) H) (.int i) (.int (k : Int)) H (.int (i * 2 ^ k)) :=
  fun H1 _ _ q => ⟨i, k, rfl, rfl, h, q H1 (Ex.refl H1)⟩
theorem rv_shr {i : Int} {k : Nat} : RV (fun x y H Q => ∃ (i : Int) (k : Nat), x = .int i ∧ y = .int (k : Int) ∧ Q (.int (i / 2 ^ k)) H) (.int i) (.int (k : Int)) H (.int (i / 2 ^ k)) :=
  fun H1 _ _ q => ⟨i, k, rfl, rfl, q H1 (Ex.refl H1)⟩
theorem rv_isB {a b : Bool} : RV rIsB (.bl a) (.bl b) H (.bl (decide (a = b))) := fun H1 _ _ q => ⟨a, b, rfl, rfl, q H1 (Ex.refl H1)⟩
theorem rv_notB {a b : Bool} : RV rNotB (.bl a) (.bl b) H (.bl (!decide (a = b))) := fun H1 _ _ q => ⟨a, b, rfl, rfl, q H1 (Ex.refl H1)⟩
theorem rv_isN : RV (fun x y H Q => y = .non ∧ Q (.bl (decide (x = .non))) H) x .non H (.bl (decide (x = .non))) := fun H1 _ _ q => ⟨rfl, q H1 (Ex.refl H1)⟩
theorem rv_notN : RV (fun x y H Q => y = .non ∧ Q (.bl (!decide (x = .non))) H) x .non H (.bl (!decide (x = .non))) := fun H1 _ _ q => ⟨rfl, q H1 (Ex.refl H1)⟩
theorem rc_abs {i : Int} : RC (fun xs H Q => ∃ i, xs = [.int i] ∧ Q (.int (if i < 0 then -i else i)) H) [.int i] H (.int (i.natAbs : Int)) := fun H1 _ Q q => ⟨i, rfl, by
  have e : (if i < 0 then -i else i) = (i.natAbs : Int) := by split <;> omega
  rw [e]
  exact q H1 (Ex.refl H1)⟩
theorem rc_max2 {i j : Int} : RC (fun xs H Q => ∃ i j, xs = [.int i, .int j] ∧ Q (.int (if j > i then j else i)) H) [.int i, .int j] H (.int (max i j)) := fun H1 _ Q q => ⟨i, j, rfl, by
  have e : (if j > i then j else i) = max i j := by split <;> omega
  rw [e]
  exact q H1 (Ex.refl H1)⟩
theorem rc_min2 {i j : Int} : RC (fun xs H Q => ∃ i j, xs = [.int i, .int j] ∧ Q (.int (if j < i then j else i)) H) [.int i, .int j] H (.int (min i j)) := fun H1 _ Q q => ⟨i, j, rfl, by
  have e : (if j < i then j else i) = min i j := by split <;> omega
  rw [e]
  exact q H1 (Ex.refl H1)⟩
theorem rc_intB {k : Bool} : RC (fun xs H Q => (∃ i, xs = [.int i] ∧ Q (.int i) H) ∨ ∃ k, xs = [.bl k] ∧ Q (.int (if k then 1 else 0)) H) [.bl k] H (.int (if k then 1 else 0)) := fun H1 _ Q q => Or.inr ⟨k, rfl, q H1 (Ex.refl H1)⟩
theorem rc_intI {i : Int} : RC (fun xs H Q => (∃ i, xs = [.int i] ∧ Q (.int i) H) ∨ ∃ k, xs = [.bl k] ∧ Q (.int (if k then 1 else 0)) H) [.int i] H (.int i) := fun H1 _ Q q => Or.inl ⟨i, rfl, q H1 (Ex.refl H1)⟩
theorem rc_isiT {p : Addr} {xs : List V} (h : H p = some (.tup xs)) : RC (rIsi K) [.ref p, .ty "tuple"] H (.bl true) := fun H1 e _ q =>
  ⟨.ref p, .ty "tuple", .type "tuple", .type "tuple", true, rfl, .ty _, .base (.tup (e _ _ h)), kit_ty (by decide +kernel), q H1 (Ex.refl H1)⟩
theorem rc_isiS {x : Str} : RC (rIsi K) [.str x, .ty "str"] H (.bl true) := fun H1 e _ q =>
  ⟨.str x, .ty "str", .type "str", .type "str", true, rfl, .ty _, .base (.str x), kit_ty (by decide +kernel), q H1 (Ex.refl H1)⟩
theorem rc_lenL {p : Addr} {xs : List V} (h : SqL K H p xs) : RC (fun xs H Q => ∃ x n, xs = [x] ∧ LenV K x H n ∧ Q (.int n) H) [.ref p] H (.int (xs.length : Int)) := fun H1 e _ q =>
  ⟨.ref p, (xs.length : Nat), rfl, .inl ⟨_, ex_l e h, rfl⟩, q H1 (Ex.refl H1)⟩
/-! ### data -/
mutual
theorem dp_mono (e : Ex H H') : ∀ (d : PyData) (v : V), Dp K H v d → Dp K H' v d
  | _, _, .non => .non
  | _, _, .bl b => .bl b
  | _, _, .int i => .int i
  | _, _, .str x => .str x
  | _, _, .lst h a => .lst (ex_l e h) (dps_mono e _ _ a)
  | _, _, .tup h a => .tup (ex_t e h) (dps_mono e _ _ a)
theorem dps_mono (e : Ex H H') : ∀ (ds : List PyData) (vs : List V), DpAll K H vs ds → DpAll K H' vs ds
  | _, _, .nil => .nil
  | _, _, .cons h t => .cons (dp_mono e _ _ h) (dps_mono e _ _ t)
end
theorem dpInts : ∀ (is : List Int), DpAll K H (is.map V.int) (is.map PyData.int)
  | [] => .nil
  | i :: r => .cons (.int i) (dpInts r)
theorem eqvS {d : PyData} (h : SeqAt.shaped d = true) : PyData.eqv d d = true := by
  unfold SeqAt.shaped at h
  rw [Bool.and_eq_true] at h
  exact PySem.SeqAt.eqv_refl d h.1
/-- the same data on both sides -/
theorem rv_neS {d : PyData} (hx : Dp K H x d) (hy : Dp K H y d) (hs : SeqAt.shaped d = true) : RV (rNeD K) x y H (.bl false) := fun H1 e Q q =>
  ⟨d, d, dp_mono e _ _ hx, dp_mono e _ _ hy, hs, hs, by
    rw [eqvS hs]
    exact q H1 (Ex.refl H1)⟩
theorem rv_eqS {d : PyData} (hx : Dp K H x d) (hy : Dp K H y d) (hs : SeqAt.shaped d = true) : RV (rEqD K) x y H (.bl true) := fun H1 e Q q =>
  ⟨d, d, dp_mono e _ _ hx, dp_mono e _ _ hy, hs, hs, by
    rw [eqvS hs]
    exact q H1 (Ex.refl H1)⟩
/-- a pair of ints -/
theorem dp2 {p : Addr} {i j : Int} (h : SqT K H p [.int i, .int j]) : Dp K H (.ref p) (.tuple [.int i, .int j]) := .tup h (.cons (.int i) (.cons (.int j) .nil))
theorem sh2 {i j : Int} : SeqAt.shaped (.tuple [.int i, .int j]) = true := rfl
end
/-! ### numbers -/
/-- a bound that omega does not look into -/
def Bd (k : Nat) (x : Int) : Prop := x.natAbs < 2 ^ k
theorem pow_pos (n : Nat) : (0 : Int) < 2 ^ n := PySem.W.kbt_pos n
theorem pow_abs (n : Nat) : ((2 : Int) ^ n).natAbs = 2 ^ n := by
  rw [Int.natAbs_pow]
  rfl
theorem ab_mono {x : Int} {a b : Nat} (h : x.natAbs < 2 ^ a) (hab : a ≤ b) : x.natAbs < 2 ^ b := Nat.lt_of_lt_of_le h (Nat.pow_le_pow_right (by decide) hab)
theorem ab_pow {n k : Nat} (h : n < k) : ((2 : Int) ^ n).natAbs < 2 ^ k := by
  rw [pow_abs]
  exact Nat.pow_lt_pow_right (by decide) h
theorem ab_shl {x : Int} {a n : Nat} (h : x.natAbs < 2 ^ a) : (x * 2 ^ n).natAbs < 2 ^ (a + n) := by
  rw [Int.natAbs_mul, pow_abs, Nat.pow_add]
  exact Nat.mul_lt_mul_of_pos_right h (Nat.two_pow_pos n)
theorem ab_mul {x y : Int} {a b : Nat} (hx : x.natAbs < 2 ^ a) (hy : y.natAbs < 2 ^ b) : (x * y).natAbs < 2 ^ (a + b) := wide_lt hx hy
theorem ab_add {x y : Int} {a : Nat} (hx : x.natAbs < 2 ^ a) (hy : y.natAbs < 2 ^ a) : (x + y).natAbs < 2 ^ (a + 1) := by
  have e : 2 ^ (a + 1) = 2 ^ a + 2 ^ a := by rw [Nat.pow_succ]; omega
  omega
theorem ab_neg {x : Int} {a : Nat} (hx : x.natAbs < 2 ^ a) : (-x).natAbs < 2 ^ a := by omega
theorem ab_sm {x : Int} {a c : Nat} (h : x.natAbs ≤ c) (hc : c < 2 ^ a) : x.natAbs < 2 ^ a := Nat.lt_of_le_of_lt h hc
theorem fl_le {s q : Int} (hq : 0 < q) : s / q * q ≤ s := Int.ediv_mul_le s (by omega)
theorem fl_lt {s q : Int} (hq : 0 < q) : s < (s / q + 1) * q := by
  rw [Int.add_mul, Int.one_mul]
  exact Int.lt_ediv_add_one_mul_self s hq |> fun h => by rw [Int.add_mul, Int.one_mul] at h; exact h
theorem cl_ge {s q : Int} (hq : 0 < q) : s ≤ -(-s / q) * q := by
  have h := fl_le (s := -s) hq
  rw [Int.neg_mul]
  omega
theorem cl_lt {s q : Int} (hq : 0 < q) : (-(-s / q) - 1) * q < s := by
  have h := fl_lt (s := -s) hq
  rw [Int.sub_mul, Int.one_mul, Int.neg_mul]
  rw [Int.add_mul, Int.one_mul] at h
  omega
theorem ab_div {x q : Int} {a : Nat} (hq : 0 < q) (h : x.natAbs < 2 ^ a) : (x / q).natAbs < 2 ^ a := by
  have h1 : (x / q).natAbs ≤ x.natAbs := by
    by_cases hx : 0 ≤ x
    · have := Int.ediv_le_self q hx
      have := Int.ediv_nonneg hx (Int.le_of_lt hq)
      omega
    · have h2 : x / q < 0 := Int.ediv_neg_of_neg_of_pos (by omega) hq
      have h3 := fl_lt (s := x) hq
      have h4 : (x / q + 1) * q ≤ (x / q + 1) := by
        have h5 : (x / q + 1) * (q - 1) ≤ 0 := Int.mul_nonpos_of_nonpos_of_nonneg (by omega) (by omega)
        rw [Int.mul_sub, Int.mul_one] at h5
        omega
      omega
  omega
theorem mul_le_r {a b q : Int} (h : a ≤ b) (hq : 0 < q) : a * q ≤ b * q := Int.mul_le_mul_of_nonneg_right h (Int.le_of_lt hq)
/-- the ceiling, by one more where the floor is not exact -/
theorem ceil_eq {s q : Int} (hq : 0 < q) : -(-s / q) = s / q + (if (!decide (s / q * q = s)) = true then 1 else 0) := by
  have a1 := fl_le (s := s) hq
  have a2 := fl_lt (s := s) hq
  have b1 := cl_ge (s := s) hq
  have b2 := cl_lt (s := s) hq
  have lt_of : ∀ {u v : Int}, u * q < v * q → u < v := fun h => Int.lt_of_mul_lt_mul_right h (Int.le_of_lt hq)
  have c1 : -(-s / q) - 1 < s / q + 1 := lt_of (Int.lt_trans b2 a2)
  by_cases e : s / q * q = s
  · rw [decide_eq_true e]
    have c2 : -(-s / q) - 1 < s / q := lt_of (by rw [e]; exact b2)
    have c3 : s / q - 1 < -(-s / q) := lt_of (Int.lt_of_lt_of_le (by rw [Int.sub_mul, Int.one_mul, e]; omega) b1)
    show _ = s / q + 0
    omega
  · rw [decide_eq_false e]
    have c3 : s / q < -(-s / q) := lt_of (by omega)
    show _ = s / q + 1
    omega
end Cm

/-! Own rules: min and max of four ints, isqrt, // by any divisor. -/
namespace Mi
open PySem PySem.Spec PyProof.Rows L2 Evl Cm
theorem args_min4 (a b c d : Value) : argsOk "min" ⟨[a, b, c, d], []⟩ := by unfold argsOk; kernel_rfl
theorem args_max4 (a b c d : Value) : argsOk "max" ⟨[a, b, c, d], []⟩ := by unfold argsOk; kernel_rfl
section
variable {prog : Program} {w : World} {A : Around} {E : Value → Shared → Prop} {s : Shared}
theorem call_min_four {a b c d : Value} {Q : Value → Shared → Prop}
    (h : wpAny (model prog w) A.in1 (pyIter (.ref s.heap.objs.size)) (fun it s₂ => ∃ I fp wr n P St bt, it = .ref I ∧ Walks prog w A.in1 I fp wr n P St ∧ St 0 s₂.heap ∧ (∀ b ∈ fp, b < s₂.heap.objs.size) ∧ 0 < n ∧ CmpOf prog w A.in1 .Lt P bt ∧
      ∀ v h' tk, P (argBest bt (n - 1)) v → (∀ b o, b ∉ wr → s₂.heap.get? b = some o → h'.get? b = some o) → Q v { s₂ with heap := h', toks := tk }) E
      { s with heap := s.heap.push { cls := .type "tuple", data := .seq #[a, b, c, d] } }) :
    wpAny (model prog w) A (call (.builtin "min") [a, b, c, d]) Q E s := by
  have hname : (toString "min" ++ toString ".loop" : String) = "min.loop" := by decide
  refine call_function_tree F.kind_min F.plain_min F.entry_min (args_min4 _ _ _ _) ?_
  show wpAny _ A.in1 (Builtin.Builtins.bindParams "min" ["key", "default"] 0 ⟨[], []⟩ >>= _) _ _ s
  refine wpAny_bind (wpAny_of_eq (show Builtin.Builtins.bindParams "min" ["key", "default"] 0 ⟨[], []⟩ = pure [none, none] from rfl) ?_)
  show wpAny _ A.in1 (newTuple [a, b, c, d] >>= _) _ _ s
  refine wpAny_bind (wpAny_newObj_type ?_)
  refine wpAny_bind (wpAny_mono h (fun it s₂ h₂ => ?_) fun _ _ e => e)
  obtain ⟨I, fp, wr, n, P, St, bt, rfl, W, hst, hfp, hn, hcmp, hQ⟩ := h₂
  refine wpAny_bind (wpAny_newObj_type ?_)
  have hSf : s₂.heap.objs.size ∉ fp := fun hm => Nat.lt_irrefl _ (hfp _ hm)
  rw [hname]
  refine wpAny_pure ⟨plainId_quiet F.plain_min_loop _, codeAny_min_loop_first W bt hcmp s₂.heap.objs.size hSf hn (W.frame _ _ _ hst fun b _ o e => Heap.get?_push_of_some _ e) (Heap.get?_push_size _ rfl) fun v h' tk hP hk => ?_⟩
  exact hQ v h' tk hP fun b o hbw e => hk b o hbw (Nat.ne_of_lt (Heap.lt_size e)) (Heap.get?_push_of_some _ e)
theorem call_max_four {a b c d : Value} {Q : Value → Shared → Prop}
    (h : wpAny (model prog w) A.in1 (pyIter (.ref s.heap.objs.size)) (fun it s₂ => ∃ I fp wr n P St bt, it = .ref I ∧ Walks prog w A.in1 I fp wr n P St ∧ St 0 s₂.heap ∧ (∀ b ∈ fp, b < s₂.heap.objs.size) ∧ 0 < n ∧ CmpOf prog w A.in1 .Gt P bt ∧
      ∀ v h' tk, P (argBest bt (n - 1)) v → (∀ b o, b ∉ wr → s₂.heap.get? b = some o → h'.get? b = some o) → Q v { s₂ with heap := h', toks := tk }) E
      { s with heap := s.heap.push { cls := .type "tuple", data := .seq #[a, b, c, d] } }) :
    wpAny (model prog w) A (call (.builtin "max") [a, b, c, d]) Q E s := by
  have hname : (toString "max" ++ toString ".loop" : String) = "max.loop" := by decide
  refine call_function_tree F.kind_max F.plain_max F.entry_max (args_max4 _ _ _ _) ?_
  show wpAny _ A.in1 (Builtin.Builtins.bindParams "max" ["key", "default"] 0 ⟨[], []⟩ >>= _) _ _ s
  refine wpAny_bind (wpAny_of_eq (show Builtin.Builtins.bindParams "max" ["key", "default"] 0 ⟨[], []⟩ = pure [none, none] from rfl) ?_)
  show wpAny _ A.in1 (newTuple [a, b, c, d] >>= _) _ _ s
  refine wpAny_bind (wpAny_newObj_type ?_)
  refine wpAny_bind (wpAny_mono h (fun it s₂ h₂ => ?_) fun _ _ e => e)
  obtain ⟨I, fp, wr, n, P, St, bt, rfl, W, hst, hfp, hn, hcmp, hQ⟩ := h₂
  refine wpAny_bind (wpAny_newObj_type ?_)
  have hSf : s₂.heap.objs.size ∉ fp := fun hm => Nat.lt_irrefl _ (hfp _ hm)
  rw [hname]
  refine wpAny_pure ⟨plainId_quiet F.plain_max_loop _, codeAny_max_loop_first W bt hcmp s₂.heap.objs.size hSf hn (W.frame _ _ _ hst fun b _ o e => Heap.get?_push_of_some _ e) (Heap.get?_push_size _ rfl) fun v h' tk hP hk => ?_⟩
  exact hQ v h' tk hP fun b o hbw e => hk b o hbw (Nat.ne_of_lt (Heap.lt_size e)) (Heap.get?_push_of_some _ e)
theorem min4 {a b c d : Int} {t u x y : Tok} {Q : Value → Shared → Prop} (hh : A.handled = none)
    (h : ∀ h' tk t', (∀ z o, s.heap.get? z = some o → h'.get? z = some o) → Q (.int (min (min a b) (min c d)) t') { s with heap := h', toks := tk }) :
    wpAny (model prog w) A (call (.builtin "min") [.int a t, .int b u, .int c x, .int d y]) Q E s := by
  have hT : (s.heap.push { cls := .type "tuple", data := .seq #[.int a t, .int b u, .int c x, .int d y] }).IsTuple s.heap.objs.size (intItems #[(a, t), (b, u), (c, x), (d, y)]) := ⟨_, Heap.get?_push_size _ rfl, rfl, 0, by simp [intItems]⟩
  refine call_min_four (wpAny_pyIter_tuple hT ?_)
  have hsz : (s.heap.push { cls := .type "tuple", data := .seq #[.int a t, .int b u, .int c x, .int d y] }).objs.size = s.heap.objs.size + 1 := Heap.size_push ..
  refine ⟨_, [_, s.heap.objs.size], [_], _, _, _, _, rfl, Walks.tuple (A := A.in1) hh _ s.heap.objs.size (by rw [hsz]; exact Nat.ne_of_lt (Nat.lt_succ_self _)) (intItems #[(a, t), (b, u), (c, x), (d, y)]),
    ⟨⟨_, Heap.get?_push_size _ rfl, rfl, rfl⟩, hT.push _⟩, fun z hz => ?_, by simp [intItems], CmpOf.ints_lt (numAt #[(a, t), (b, u), (c, x), (d, y)]) (fun _ _ => intItems_at), fun v h' tk hP hk => ?_⟩
  · show z < ((s.heap.push _).push _).objs.size
    rw [Heap.size_push, hsz]
    rcases List.mem_cons.mp hz with rfl | hz
    · rw [hsz]; exact Nat.lt_succ_self _
    · rcases List.mem_cons.mp hz with rfl | hz
      · exact Nat.lt_succ_of_lt (Nat.lt_succ_self _)
      · cases hz
  · have hold : ∀ z o, s.heap.get? z = some o → h'.get? z = some o := fun z o e => by
      refine hk z o (fun hm => ?_) (Heap.get?_push_of_some _ (Heap.get?_push_of_some _ e))
      rcases List.mem_cons.mp hm with e1 | hm
      · have := Heap.lt_size e; rw [e1, hsz] at this; exact Nat.lt_irrefl _ (Nat.lt_of_succ_lt this)
      · cases hm
    have hs4 : (intItems #[(a, t), (b, u), (c, x), (d, y)]).size - 1 = 3 := by simp [intItems]
    rw [hs4] at hP
    obtain ⟨t', rfl⟩ := intItems_at hP
    obtain ⟨h1, h2⟩ := argBest_lt (numAt #[(a, t), (b, u), (c, x), (d, y)]) 3
    have n0 : numAt #[(a, t), (b, u), (c, x), (d, y)] 0 = a := rfl
    have n1 : numAt #[(a, t), (b, u), (c, x), (d, y)] 1 = b := rfl
    have n2 : numAt #[(a, t), (b, u), (c, x), (d, y)] 2 = c := rfl
    have n3 : numAt #[(a, t), (b, u), (c, x), (d, y)] 3 = d := rfl
    have m0 := h2 0 (by omega)
    have m1 := h2 1 (by omega)
    have m2 := h2 2 (by omega)
    have m3 := h2 3 (by omega)
    rw [n0] at m0
    rw [n1] at m1
    rw [n2] at m2
    rw [n3] at m3
    generalize hB : argBest (fun i j => decide (numAt #[(a, t), (b, u), (c, x), (d, y)] i < numAt #[(a, t), (b, u), (c, x), (d, y)] j)) 3 = B at *
    have hv : numAt #[(a, t), (b, u), (c, x), (d, y)] B = min (min a b) (min c d) := by
      have h4 : B = 0 ∨ B = 1 ∨ B = 2 ∨ B = 3 := by omega
      rcases h4 with z | z | z | z
      · rw [z, n0] at m0 m1 m2 m3 ⊢; omega
      · rw [z, n1] at m0 m1 m2 m3 ⊢; omega
      · rw [z, n2] at m0 m1 m2 m3 ⊢; omega
      · rw [z, n3] at m0 m1 m2 m3 ⊢; omega
    rw [hv]
    exact h h' tk t' hold
theorem max4 {a b c d : Int} {t u x y : Tok} {Q : Value → Shared → Prop} (hh : A.handled = none)
    (h : ∀ h' tk t', (∀ z o, s.heap.get? z = some o → h'.get? z = some o) → Q (.int (max (max a b) (max c d)) t') { s with heap := h', toks := tk }) :
    wpAny (model prog w) A (call (.builtin "max") [.int a t, .int b u, .int c x, .int d y]) Q E s := by
  have hT : (s.heap.push { cls := .type "tuple", data := .seq #[.int a t, .int b u, .int c x, .int d y] }).IsTuple s.heap.objs.size (intItems #[(a, t), (b, u), (c, x), (d, y)]) := ⟨_, Heap.get?_push_size _ rfl, rfl, 0, by simp [intItems]⟩
  refine call_max_four (wpAny_pyIter_tuple hT ?_)
  have hsz : (s.heap.push { cls := .type "tuple", data := .seq #[.int a t, .int b u, .int c x, .int d y] }).objs.size = s.heap.objs.size + 1 := Heap.size_push ..
  refine ⟨_, [_, s.heap.objs.size], [_], _, _, _, _, rfl, Walks.tuple (A := A.in1) hh _ s.heap.objs.size (by rw [hsz]; exact Nat.ne_of_lt (Nat.lt_succ_self _)) (intItems #[(a, t), (b, u), (c, x), (d, y)]),
    ⟨⟨_, Heap.get?_push_size _ rfl, rfl, rfl⟩, hT.push _⟩, fun z hz => ?_, by simp [intItems], CmpOf.ints_gt (numAt #[(a, t), (b, u), (c, x), (d, y)]) (fun _ _ => intItems_at), fun v h' tk hP hk => ?_⟩
  · show z < ((s.heap.push _).push _).objs.size
    rw [Heap.size_push, hsz]
    rcases List.mem_cons.mp hz with rfl | hz
    · rw [hsz]; exact Nat.lt_succ_self _
    · rcases List.mem_cons.mp hz with rfl | hz
      · exact Nat.lt_succ_of_lt (Nat.lt_succ_self _)
      · cases hz
  · have hold : ∀ z o, s.heap.get? z = some o → h'.get? z = some o := fun z o e => by
      refine hk z o (fun hm => ?_) (Heap.get?_push_of_some _ (Heap.get?_push_of_some _ e))
      rcases List.mem_cons.mp hm with e1 | hm
      · have := Heap.lt_size e; rw [e1, hsz] at this; exact Nat.lt_irrefl _ (Nat.lt_of_succ_lt this)
      · cases hm
    have hs4 : (intItems #[(a, t), (b, u), (c, x), (d, y)]).size - 1 = 3 := by simp [intItems]
    rw [hs4] at hP
    obtain ⟨t', rfl⟩ := intItems_at hP
    obtain ⟨h1, h2⟩ := argBest_gt (numAt #[(a, t), (b, u), (c, x), (d, y)]) 3
    have n0 : numAt #[(a, t), (b, u), (c, x), (d, y)] 0 = a := rfl
    have n1 : numAt #[(a, t), (b, u), (c, x), (d, y)] 1 = b := rfl
    have n2 : numAt #[(a, t), (b, u), (c, x), (d, y)] 2 = c := rfl
    have n3 : numAt #[(a, t), (b, u), (c, x), (d, y)] 3 = d := rfl
    have m0 := h2 0 (by omega)
    have m1 := h2 1 (by omega)
    have m2 := h2 2 (by omega)
    have m3 := h2 3 (by omega)
    rw [n0] at m0
    rw [n1] at m1
    rw [n2] at m2
    rw [n3] at m3
    generalize hB : argBest (fun i j => decide (numAt #[(a, t), (b, u), (c, x), (d, y)] i > numAt #[(a, t), (b, u), (c, x), (d, y)] j)) 3 = B at *
    have hv : numAt #[(a, t), (b, u), (c, x), (d, y)] B = max (max a b) (max c d) := by
      have h4 : B = 0 ∨ B = 1 ∨ B = 2 ∨ B = 3 := by omega
      rcases h4 with z | z | z | z
      · rw [z, n0] at m0 m1 m2 m3 ⊢; omega
      · rw [z, n1] at m0 m1 m2 m3 ⊢; omega
      · rw [z, n2] at m0 m1 m2 m3 ⊢; omega
      · rw [z, n3] at m0 m1 m2 m3 ⊢; omega
    rw [hv]
    exact h h' tk t' hold
end
theorem vals4 {x y z v : V} {us : List Value} (r : Vals [x, y, z, v] us) : ∃ u1 u2 u3 u4, us = [u1, u2, u3, u4] ∧ RelV x u1 ∧ RelV y u2 ∧ RelV z u3 ∧ RelV v u4 := by
  cases r with
  | cons r1 r =>
    cases r with
    | cons r2 r =>
      cases r with
      | cons r3 r =>
        cases r with
        | cons r4 r =>
          cases r
          exact ⟨_, _, _, _, rfl, r1, r2, r3, r4⟩
section
variable {X : Cx}
def rMin4 : List V → Hp → VK → Prop := fun xs H Q => ∃ i j k l, xs = [.int i, .int j, .int k, .int l] ∧ Q (.int (min (min i j) (min k l))) H
def rMax4 : List V → Hp → VK → Prop := fun xs H Q => ∃ i j k l, xs = [.int i, .int j, .int k, .int l] ∧ Q (.int (max (max i j) (max k l))) H
theorem call_min4 (hc : X.calm = true) : CallR X (.builtin "min") rMin4 := by
  intro pins s σ H xs us Q I r h
  obtain ⟨i, j, k, l, rfl, q⟩ := h
  obtain ⟨u1, u2, u3, u4, rfl, ⟨t1, rfl⟩, ⟨t2, rfl⟩, ⟨t3, rfl⟩, ⟨t4, rfl⟩⟩ := vals4 r
  exact min4 (I.ok.hd hc) fun h' tk t' k => ⟨.int _, H, I.kept k, ⟨_, rfl⟩, q⟩
theorem call_max4 (hc : X.calm = true) : CallR X (.builtin "max") rMax4 := by
  intro pins s σ H xs us Q I r h
  obtain ⟨i, j, k, l, rfl, q⟩ := h
  obtain ⟨u1, u2, u3, u4, rfl, ⟨t1, rfl⟩, ⟨t2, rfl⟩, ⟨t3, rfl⟩, ⟨t4, rfl⟩⟩ := vals4 r
  exact max4 (I.ok.hd hc) fun h' tk t' k => ⟨.int _, H, I.kept k, ⟨_, rfl⟩, q⟩
/-- isqrt of a number below 2 ^ 4000 -/
def rSqrt : List V → Hp → VK → Prop := fun xs H Q => ∃ i : Int, xs = [.int i] ∧ 0 ≤ i ∧ Bd 4000 i ∧ ∀ r : Nat, (r : Int) * r ≤ i → i < ((r : Int) + 1) * ((r : Int) + 1) → Q (.int (r : Int)) H
theorem call_sqrt : CallR X (.builtin "math.isqrt") rSqrt := by
  intro pins s σ H xs us Q I r h
  obtain ⟨i, rfl, h0, hb, q⟩ := h
  obtain ⟨u1, rfl, ⟨t1, rfl⟩⟩ := vals1 r
  obtain ⟨n, rfl⟩ := Int.eq_ofNat_of_zero_le h0
  have hl : n.log2 ≤ 3999 := PySem.W.mg_log (show n < 2 ^ (3999 + 1) from hb)
  have hs := PySem.Float64.isqrt_spec n
  have qq := q (Float64.isqrt n) (by have := hs.1; exact_mod_cast this) (by have := hs.2; exact_mod_cast this)
  exact call_function_meets PySem.W.MGF.kind_isqrt PySem.W.MGF.plain_isqrt PySem.W.MGF.entry_isqrt (PySem.W.MGF.args_isqrt _) (PySem.W.mg_run_isqrt (n : Int) t1 (by omega) (by rw [Int.toNat_natCast]; omega) (by rw [Int.toNat_natCast]; omega)).meets ⟨.int _, H, I.tok _, ⟨_, rfl⟩, qq⟩
/-- // by a divisor that is not 0 and below 2 ^ 9000 -/
def CDivA (_ j : Int) : Prop := j ≠ 0 ∧ j.natAbs.log2 < 9000
theorem op_fdivA : OpR X (binaryOp .FloorDiv) (rI CDivA fun i j => .int (i.fdiv j)) := opI fun i j _ _ _ _ _ hc q => floordiv_int hc.1 q (.inl (PyProof.noPylong_of_log2 hc.2))
end
section
variable {H : Hp} {K : PySem.W.Frag}
theorem rc_min4 {i j k l : Int} : RC rMin4 [.int i, .int j, .int k, .int l] H (.int (min (min i j) (min k l))) := fun H1 _ _ q => ⟨i, j, k, l, rfl, q H1 (Ex.refl _)⟩
theorem rc_max4 {i j k l : Int} : RC rMax4 [.int i, .int j, .int k, .int l] H (.int (max (max i j) (max k l))) := fun H1 _ _ q => ⟨i, j, k, l, rfl, q H1 (Ex.refl _)⟩
end
end Mi

/-! Own data: the digits of a number. -/
namespace Dg
open PySem PySem.Builtin PySem.Builtin.Str SX TL
/-- the last k digits -/
def pad : Nat → Nat → List Nat
  | 0, _ => []
  | k + 1, n => pad k (n / 10) ++ [48 + n % 10]
theorem pad_len : ∀ k n, (pad k n).length = k
  | 0, _ => rfl
  | k + 1, n => by
    show (pad k (n / 10) ++ [48 + n % 10]).length = k + 1
    rw [List.length_append, pad_len k]
    rfl
theorem pow_div (n k : Nat) : n / 10 / 10 ^ k = n / 10 ^ (k + 1) := by
  rw [Nat.div_div_eq_div_mul, Nat.pow_succ, Nat.mul_comm]
theorem lt_pow {n k : Nat} (h : n < 10 ^ (k + 1)) : n / 10 < 10 ^ k := by
  rw [Nat.pow_succ] at h
  exact Nat.div_lt_of_lt_mul (by rw [Nat.mul_comm]; exact h)
theorem num_split : ∀ k n, 10 ^ k ≤ n → numL n = numL (n / 10 ^ k) ++ pad k n
  | 0, n, _ => by
    show numL n = numL (n / 1) ++ []
    rw [Nat.div_one, List.append_nil]
  | k + 1, n, h => by
    have h1 : 10 ^ k * 10 ≤ n := by
      rw [← Nat.pow_succ]
      exact h
    have h0 : 0 < 10 ^ k := Nat.pow_pos (by decide)
    have h2 : 10 ^ k ≤ n / 10 := (Nat.le_div_iff_mul_le (by decide)).mpr h1
    rw [numL_step (by omega), num_split k (n / 10) h2, pow_div, List.append_assoc]
    rfl
theorem pad_zero : ∀ k, pad k 0 = List.replicate k 48
  | 0 => rfl
  | k + 1 => by
    show pad k 0 ++ [48] = _
    rw [pad_zero k, List.replicate_succ']
theorem num_len : ∀ k n, n < 10 ^ (k + 1) → (numL n).length ≤ k + 1
  | 0, n, h => by
    rw [numL_lt (by omega)]
    exact Nat.le_refl _
  | k + 1, n, h => by
    by_cases h1 : n < 10
    · rw [numL_lt h1]
      show 1 ≤ k + 1 + 1
      omega
    · rw [numL_step (by omega), List.length_append]
      have := num_len k (n / 10) (lt_pow h)
      show (numL (n / 10)).length + 1 ≤ k + 1 + 1
      omega
theorem num_pad : ∀ k n, n < 10 ^ (k + 1) → List.replicate (k + 1 - (numL n).length) 48 ++ numL n = pad (k + 1) n
  | 0, n, h => by
    have h1 : n < 10 := by omega
    rw [numL_lt h1]
    show [] ++ [48 + n] = [] ++ [48 + n % 10]
    rw [Nat.mod_eq_of_lt h1]
  | k + 1, n, h => by
    by_cases h1 : n < 10
    · rw [numL_lt h1]
      show List.replicate (k + 1) 48 ++ [48 + n] = pad (k + 1) (n / 10) ++ [48 + n % 10]
      rw [Nat.mod_eq_of_lt h1, Nat.div_eq_of_lt h1, pad_zero]
    · have ih := num_pad k (n / 10) (lt_pow h)
      rw [numL_step (by omega), List.length_append]
      show List.replicate (k + 1 + 1 - ((numL (n / 10)).length + 1)) 48 ++ (numL (n / 10) ++ [48 + n % 10]) = pad (k + 1) (n / 10) ++ [48 + n % 10]
      rw [← ih, ← List.append_assoc, show k + 1 + 1 - ((numL (n / 10)).length + 1) = k + 1 - (numL (n / 10)).length by omega]
theorem pad_cons : ∀ k n, n < 10 ^ k → pad (k + 1) n = 48 :: pad k n
  | 0, n, h => by
    have h1 : n = 0 := by
      have : (10 : Nat) ^ 0 = 1 := rfl
      omega
    subst h1
    rfl
  | k + 1, n, h => by
    show pad (k + 1) (n / 10) ++ [48 + n % 10] = 48 :: (pad k (n / 10) ++ [48 + n % 10])
    rw [pad_cons k (n / 10) (lt_pow h)]
    rfl
theorem pad_front : ∀ k n, pad (k + 1) n = (48 + n / 10 ^ k % 10) :: pad k n
  | 0, n => by
    show [] ++ [48 + n % 10] = [48 + n / 1 % 10]
    rw [Nat.div_one]
    rfl
  | k + 1, n => by
    show pad (k + 1) (n / 10) ++ [48 + n % 10] = _ :: (pad k (n / 10) ++ [48 + n % 10])
    rw [pad_front k (n / 10), pow_div]
    rfl
theorem pad_mod : ∀ k n, pad k (n % 10 ^ k) = pad k n
  | 0, _ => rfl
  | k + 1, n => by
    have e : n % 10 ^ (k + 1) = n % 10 + 10 * (n / 10 % 10 ^ k) := by
      rw [Nat.pow_succ, Nat.mul_comm, Nat.mod_mul]
    show pad k (n % 10 ^ (k + 1) / 10) ++ [48 + n % 10 ^ (k + 1) % 10] = pad k (n / 10) ++ [48 + n % 10]
    rw [e, show (n % 10 + 10 * (n / 10 % 10 ^ k)) / 10 = n / 10 % 10 ^ k by omega, show (n % 10 + 10 * (n / 10 % 10 ^ k)) % 10 = n % 10 by omega, pad_mod k]
theorem num_head (n : Nat) : ∃ c r, numL n = c :: r ∧ 48 ≤ c ∧ c ≤ 57 := by
  cases h : numL n with
  | nil => exact absurd h (numL_ne n)
  | cons c r =>
    have h2 := numL_digits n c (by rw [h]; exact List.mem_cons_self ..)
    exact ⟨c, r, rfl, h2⟩
theorem zfill_long {n m : Nat} (h : m ≤ (numL n).length) : Txt.zfill (S (numL n)) (m : Int) = S (numL n) := by
  unfold Txt.zfill
  rw [S_len, if_pos (by omega)]
theorem zfill_short {n m : Nat} (h : (numL n).length < m) : Txt.zfill (S (numL n)) (m : Int) = S (List.replicate (m - (numL n).length) 48 ++ numL n) := by
  unfold Txt.zfill
  rw [S_len, if_neg (by omega), Int.toNat_natCast]
  obtain ⟨c, r, hc, h1, h2⟩ := num_head n
  refine TL.ext_tl ?_
  have e : (S (numL n)).cps[0]? = some c := by
    show (numL n).toArray[0]? = some c
    rw [hc]
    rfl
  have e2 : zfilled (S (numL n)) (m - (numL n).length) = padded (S (numL n)) (m - (numL n).length) 0 48 := by
    unfold zfilled
    rw [e]
    split
    · rename_i z
      cases Option.some.inj z
      omega
    · rename_i z
      cases Option.some.inj z
      omega
    · rfl
  rw [e2]
  show (padded (S (numL n)) (m - (numL n).length) 0 48).cps.toList = _
  rw [PyProof.Rows.padded_list]
  simp
/-- a number with fewer than m digits, filled -/
theorem zfill_num {n m : Nat} (hm : 1 ≤ m) (h : n < 10 ^ m) : Txt.zfill (S (numL n)) (m : Int) = S (pad m n) := by
  obtain ⟨k, rfl⟩ : ∃ k, m = k + 1 := ⟨m - 1, by omega⟩
  rw [← num_pad k n h]
  by_cases hl : k + 1 ≤ (numL n).length
  · rw [zfill_long hl, show k + 1 - (numL n).length = 0 by omega]
    rfl
  · exact zfill_short (by omega)
/-- .. to one digit more than its places -/
theorem zfill_places (n p : Nat) : Txt.zfill (S (numL n)) ((p + 1 : Nat) : Int) = S (numL (n / 10 ^ p) ++ pad p n) := by
  by_cases h : 10 ^ p ≤ n
  · have e := num_split p n h
    have h1 : p + 1 ≤ (numL n).length := by
      rw [e, List.length_append, pad_len]
      have := List.length_pos_iff.mpr (numL_ne (n / 10 ^ p))
      omega
    rw [zfill_long h1, ← e]
  · have h0 : n < 10 ^ p := by omega
    have h1 : n < 10 ^ (p + 1) := by
      rw [Nat.pow_succ]
      omega
    rw [zfill_num (by omega) h1, pad_cons p n h0, Nat.div_eq_of_lt h0, numL_lt (by decide)]
    rfl
theorem joinL_nil : ∀ ps : List (List Nat), joinL [] ps = ps.flatten
  | [] => rfl
  | [p] => by
    show p = p ++ []
    rw [List.append_nil]
  | p :: q :: r => by
    show p ++ ([] ++ joinL [] (q :: r)) = p ++ (q :: r).flatten
    rw [joinL_nil (q :: r)]
    rfl
theorem join_nil (ps : List (List Nat)) : Txt.join (S []) (ps.map S) = S ps.flatten := by rw [join_S, joinL_nil]
theorem slice_to_neg {a b : List Nat} (h : 0 < b.length) : Txt.slice (S (a ++ b)) none (some (-(b.length : Int))) = S a := by
  have e := beq_iff_eq.mp (PyProof.Rows.slice_closes_to_neg (x := S (a ++ b)) (j := -(b.length : Int)) (k := (a.length : Int)) (by omega) (by rw [S_len, List.length_append]; omega) (by rw [S_len, List.length_append]; omega))
  refine e.trans (TL.ext_tl ?_)
  show ((a ++ b).drop (0 : Int).toNat).take ((a.length : Int) - 0).toNat = a
  rw [show (0 : Int).toNat = 0 from rfl, List.drop_zero, show ((a.length : Int) - 0).toNat = a.length by omega, List.take_left]
theorem slice_from_neg {a b : List Nat} (h : 0 < b.length) : Txt.slice (S (a ++ b)) (some (-(b.length : Int))) none = S b := by
  have e := beq_iff_eq.mp (PyProof.Rows.slice_closes_from_neg (x := S (a ++ b)) (i := -(b.length : Int)) (a := (a.length : Int)) (b := ((a ++ b).length : Int)) (by omega) (by rw [S_len, List.length_append]; omega) (by rw [S_len, List.length_append]; omega) (by rw [S_len]))
  refine e.trans (TL.ext_tl ?_)
  show ((a ++ b).drop (a.length : Int).toNat).take (((a ++ b).length : Int) - (a.length : Int)).toNat = b
  rw [Int.toNat_natCast, List.drop_left, List.take_of_length_le (by rw [List.length_append]; omega)]
end Dg

/-! Own data: whole numbers as texts, there and back. -/
namespace Tx
open PySem PySem.Builtin PySem.Builtin.Str SX TL Dg
/-- a whole number's signs -/
def intL (i : Int) : List Nat := if i < 0 then 45 :: numL i.natAbs else numL i.natAbs
theorem intL_neg (n : Nat) : intL (-((n + 1 : Nat) : Int)) = 45 :: numL (n + 1) := by
  unfold intL
  rw [if_pos (by omega), Int.natAbs_neg, Int.natAbs_natCast]
theorem intL_nat (n : Nat) : intL (n : Int) = numL n := by
  unfold intL
  rw [if_neg (by omega), Int.natAbs_natCast]
theorem str_cons (s : String) : Str.ofString ("-" ++ s) = S (45 :: (Str.ofString s).cps.toList) := by
  refine TL.ext_tl ?_
  show (Str.ofString ("-" ++ s)).cps.toList = _
  simp [Str.ofString_eq_toList]
theorem int_text (i : Int) : Str.ofString (toString i) = S (intL i) := by
  cases i with
  | ofNat n =>
    rw [show (Int.ofNat n) = (n : Int) from rfl, intL_nat]
    exact num_S n
  | negSucc n =>
    have h := num_S (n + 1)
    rw [show (Int.negSucc n) = -((n + 1 : Nat) : Int) from rfl, intL_neg]
    show Str.ofString ("-" ++ Nat.repr (n + 1)) = _
    rw [str_cons]
    have e : (Str.ofString (Nat.repr (n + 1))).cps.toList = numL (n + 1) := congrArg (fun x : Str => x.cps.toList) h
    rw [e]
theorem num_all (n : Nat) : ∀ c ∈ numL n, 48 ≤ c ∧ c ≤ 57 := numL_digits n
theorem ascii_num (n : Nat) : Txt.isascii (S (numL n)) = true := by
  show (numL n).toArray.all (· < 128) = true
  rw [← Array.all_toList]
  exact List.all_eq_true.mpr fun c hc => decide_eq_true (by have := num_all n c hc; omega)
theorem digit_num (n : Nat) : Txt.isdigit (S (numL n)) = true := by
  show (decide ((S (numL n)).length > 0) && (numL n).toArray.all Unicode.isDigit) = true
  rw [S_len, decide_eq_true (List.length_pos_iff.mpr (numL_ne n)), Bool.true_and, ← Array.all_toList]
  refine List.all_eq_true.mpr fun c hc => ?_
  have h := num_all n c hc
  have : ∀ c, c < 58 → 48 ≤ c → Unicode.isDigit c = true := by decide +kernel
  exact this c (by omega) h.1
theorem starts1 (c : Nat) (a : List Nat) (d : Nat) : Txt.startswith (S (d :: a)) (S [c]) = decide (d = c) := by
  unfold Txt.startswith
  rw [S_len, S_len, decide_eq_true (by simp), Bool.true_and]
  simp [subAt, S_len]
  exact Bool.eq_iff_iff.mpr (by simp)
theorem head_ge (n : Nat) (h : 0 < n) : ∃ d q, numL n = (49 + d) :: q := by
  induction n using Nat.strongRecOn with
  | ind n ih =>
    by_cases h10 : n < 10
    · exact ⟨n - 1, [], by rw [numL_lt h10]; exact congrArg (fun z => [z]) (by omega)⟩
    · obtain ⟨d, q, e⟩ := ih (n / 10) (by omega) (by omega)
      exact ⟨d, q ++ [48 + n % 10], by rw [numL_step (by omega), e]; rfl⟩
theorem head0 {n : Nat} {r : List Nat} {c : Nat} (h : numL n = c :: r) (h0 : c = 48) : n = 0 := by
  by_cases hn : 0 < n
  · obtain ⟨d, q, e⟩ := head_ge n hn
    rw [e] at h
    have := (List.cons.inj h).1
    omega
  · omega
/-- read back -/
theorem int_back {i : Int} (h : (intL i).length ≤ 4300) : intText? (S (intL i)) = some i := by
  by_cases hi : i < 0
  · have e : intL i = 45 :: numL i.natAbs := by
      unfold intL
      rw [if_pos hi]
    rw [e] at h ⊢
    have h2 := PySem.intText_neg (x := S (45 :: numL i.natAbs)) (cs := numL i.natAbs) rfl (numL_digits _) (numL_ne _) (by rw [S_len]; exact h)
    rw [h2]
    have h3 : NumText.digitsVal (numL i.natAbs) = i.natAbs := PySem.W.KIN.val_back i.natAbs
    rw [h3]
    exact congrArg some (by omega)
  · obtain ⟨n, rfl⟩ := Int.eq_ofNat_of_zero_le (show 0 ≤ i by omega)
    rw [intL_nat] at h ⊢
    rw [← num_S]
    exact int_num h
end Tx

/-! Own data: areas of polygons by their corners, bits of tiles. -/
namespace Pg
abbrev Pt := Int × Int
def cr (p q : Pt) : Int := p.2 * q.1 - q.2 * p.1
theorem cr_anti (p q : Pt) : cr p q + cr q p = 0 := by
  unfold cr
  omega
def path : List Pt → Int
  | [] => 0
  | [_] => 0
  | a :: b :: r => cr a b + path (b :: r)
theorem path_join : ∀ (l : List Pt) (m : Pt) (r : List Pt), path (l ++ m :: r) = path (l ++ [m]) + path (m :: r)
  | [], m, r => by
    show path (m :: r) = path [m] + path (m :: r)
    show path (m :: r) = 0 + path (m :: r)
    omega
  | [a], m, r => by
    show cr a m + path (m :: r) = (cr a m + path [m]) + path (m :: r)
    show cr a m + path (m :: r) = (cr a m + 0) + path (m :: r)
    omega
  | a :: b :: l, m, r => by
    have := path_join (b :: l) m r
    show cr a b + path ((b :: l) ++ m :: r) = (cr a b + path ((b :: l) ++ [m])) + path (m :: r)
    omega
def area2 : List Pt → Int
  | [] => 0
  | a :: r => path (a :: r ++ [a])
theorem area_rot (l m : List Pt) : area2 (l ++ m) = area2 (m ++ l) := by
  cases l with
  | nil => rw [List.nil_append, List.append_nil]
  | cons a l =>
    cases m with
    | nil => rw [List.nil_append, List.append_nil]
    | cons b m =>
      have e1 : area2 ((a :: l) ++ b :: m) = path ((a :: l) ++ b :: (m ++ [a])) := by
        show path (((a :: l) ++ b :: m) ++ [a]) = _
        rw [List.append_assoc]
        rfl
      have e2 : area2 ((b :: m) ++ a :: l) = path ((b :: m) ++ a :: (l ++ [b])) := by
        show path (((b :: m) ++ a :: l) ++ [b]) = _
        rw [List.append_assoc]
        rfl
      rw [e1, e2, path_join, path_join (b :: m)]
      show path ((a :: l) ++ [b]) + path ((b :: m) ++ [a]) = path ((b :: m) ++ [a]) + path ((a :: l) ++ [b])
      omega
theorem area_two (A M Z : List Pt) (p q : Pt) : area2 (p :: M ++ [q]) + area2 (q :: (Z ++ A) ++ [p]) = area2 (A ++ (p :: M ++ q :: Z)) := by
  rw [area_rot A]
  have e1 : area2 (p :: M ++ [q]) = path (p :: M ++ [q]) + cr q p := by
    show path ((p :: M ++ [q]) ++ [p]) = _
    rw [List.append_assoc]
    show path (p :: M ++ q :: [p]) = _
    rw [path_join]
    show path (p :: M ++ [q]) + (cr q p + path [p]) = _
    show path (p :: M ++ [q]) + (cr q p + 0) = _
    omega
  have e2 : area2 (q :: (Z ++ A) ++ [p]) = path (q :: (Z ++ A) ++ [p]) + cr p q := by
    show path ((q :: (Z ++ A) ++ [p]) ++ [q]) = _
    rw [List.append_assoc]
    show path (q :: (Z ++ A) ++ p :: [q]) = _
    rw [path_join]
    show path (q :: (Z ++ A) ++ [p]) + (cr p q + path [q]) = _
    show path (q :: (Z ++ A) ++ [p]) + (cr p q + 0) = _
    omega
  have e3 : area2 ((p :: M ++ q :: Z) ++ A) = path (p :: M ++ [q]) + path (q :: (Z ++ A) ++ [p]) := by
    show path (((p :: M ++ q :: Z) ++ A) ++ [p]) = _
    rw [List.append_assoc, List.append_assoc]
    show path (p :: M ++ q :: (Z ++ (A ++ [p]))) = _
    rw [path_join, ← List.append_assoc]
    rfl
  rw [e1, e2, e3]
  have := cr_anti p q
  omega
/-- by the indexes of the two corners -/
theorem area_halves (c : List Pt) {i k : Nat} (h : i < k) (hk : k < c.length) : area2 ((c.drop i).take (k - i + 1)) + area2 (c.drop k ++ c.take (i + 1)) = area2 c := by
  have hi : i < c.length := by omega
  have hc : c = c.take i ++ (c[i] :: ((c.drop (i + 1)).take (k - i - 1)) ++ c[k] :: c.drop (k + 1)) := by
    have e1 : c.drop i = c[i] :: c.drop (i + 1) := List.drop_eq_getElem_cons hi
    have e2 : c.drop k = c[k] :: c.drop (k + 1) := List.drop_eq_getElem_cons hk
    have e3 : c.drop (i + 1) = (c.drop (i + 1)).take (k - i - 1) ++ c.drop k := by
      have := (List.take_append_drop (k - i - 1) (c.drop (i + 1))).symm
      rw [List.drop_drop, show i + 1 + (k - i - 1) = k by omega] at this
      exact this
    calc c = c.take i ++ c.drop i := (List.take_append_drop i c).symm
      _ = _ := by
        rw [e1]
        conv => lhs; rw [e3, e2]
        rfl
  have h1 : (c.drop i).take (k - i + 1) = c[i] :: ((c.drop (i + 1)).take (k - i - 1)) ++ [c[k]] := by
    rw [List.drop_eq_getElem_cons hi, List.take_succ_cons]
    have e : k - i = (k - i - 1) + 1 := by omega
    conv => lhs; rw [e]
    rw [List.take_add_one, List.getElem?_drop, show i + 1 + (k - i - 1) = k by omega, List.getElem?_eq_getElem hk]
    rfl
  have h2 : c.drop k ++ c.take (i + 1) = c[k] :: (c.drop (k + 1) ++ c.take i) ++ [c[i]] := by
    rw [List.drop_eq_getElem_cons hk, List.take_add_one, List.getElem?_eq_getElem hi]
    show c[k] :: c.drop (k + 1) ++ (c.take i ++ [c[i]]) = _
    rw [← List.append_assoc]
    rfl
  rw [h1, h2]
  conv => rhs; rw [hc]
  exact area_two _ _ _ _ _
def side (p q r : Pt) : Int := (q.2 - p.2) * (r.1 - p.1) - (q.1 - p.1) * (r.2 - p.2)
theorem side_cr (p q r : Pt) : side p q r = cr p q + cr q r + cr r p := by
  unfold side cr
  simp only [Int.sub_mul, Int.mul_sub]
  have a1 := Int.mul_comm q.1 r.2
  have a2 := Int.mul_comm q.1 p.2
  have a3 := Int.mul_comm p.1 r.2
  have a4 := Int.mul_comm p.1 p.2
  have a5 := Int.mul_comm r.1 p.2
  have a6 := Int.mul_comm r.1 q.2
  have a7 := Int.mul_comm p.1 q.2
  omega
def fan (a : Pt) : List Pt → Int
  | [] => 0
  | [_] => 0
  | b :: c :: r => side a b c + fan a (c :: r)
theorem fan_area (a : Pt) : ∀ (b : Pt) (r : List Pt), fan a (b :: r) = area2 (a :: b :: r)
  | b, [] => by
    have := cr_anti a b
    show 0 = cr a b + (cr b a + 0)
    omega
  | b, c :: r => by
    have e := fan_area a c r
    have e2 : area2 (a :: c :: r) = cr a c + path (c :: r ++ [a]) := rfl
    have e3 : area2 (a :: b :: c :: r) = cr a b + (cr b c + path (c :: r ++ [a])) := rfl
    have := cr_anti a c
    rw [e3]
    show side a b c + fan a (c :: r) = _
    rw [e, e2, side_cr]
    omega
/-! ### bits -/
def join (ds : List Nat) : Nat := ds.foldl (fun a d => 2 * a + d) 0
theorem join_from (a : Nat) : ∀ ds : List Nat, ds.foldl (fun a d => 2 * a + d) a = a * 2 ^ ds.length + join ds
  | [] => by simp [join]
  | d :: r => by
    show r.foldl _ (2 * a + d) = _
    rw [join_from (2 * a + d) r]
    have e : join (d :: r) = d * 2 ^ r.length + join r := by
      show r.foldl _ (2 * 0 + d) = _
      rw [Nat.mul_zero, Nat.zero_add]
      exact join_from d r
    rw [e, List.length_cons, Nat.pow_succ, Nat.add_mul, Nat.mul_comm 2 a, Nat.mul_assoc, Nat.mul_comm 2]
    omega
theorem join_snoc (ds : List Nat) (d : Nat) : join (ds ++ [d]) = 2 * join ds + d := by
  unfold join
  rw [List.foldl_append]
  rfl
theorem join_lt : ∀ {ds : List Nat}, (∀ d ∈ ds, d < 2) → join ds < 2 ^ ds.length := by
  intro ds
  induction ds with
  | nil => exact fun _ => by decide
  | cons d r ih =>
    intro h
    have e : join (d :: r) = d * 2 ^ r.length + join r := by
      show r.foldl _ (2 * 0 + d) = _
      rw [Nat.mul_zero, Nat.zero_add]
      exact join_from d r
    have h1 := ih fun x hx => h x (List.mem_cons_of_mem _ hx)
    have h2 := h d (List.mem_cons_self ..)
    rw [e, List.length_cons, Nat.pow_succ]
    have h3 : d = 0 ∨ d = 1 := by omega
    rcases h3 with rfl | rfl
    · omega
    · omega
/-- the z lowest bits, the highest first -/
def bits (x : Nat) : Nat → List Nat
  | 0 => []
  | z + 1 => bits (x / 2) z ++ [x % 2]
theorem bits_len : ∀ (z x : Nat), (bits x z).length = z
  | 0, x => rfl
  | z + 1, x => by
    show (bits (x / 2) z ++ [x % 2]).length = _
    rw [List.length_append, bits_len z]
    rfl
theorem bits_lt : ∀ (z x : Nat), ∀ d ∈ bits x z, d < 2
  | 0, x, d, h => absurd h (List.not_mem_nil)
  | z + 1, x, d, h => by
    rcases List.mem_append.mp h with h | h
    · exact bits_lt z _ d h
    · rw [List.mem_singleton] at h
      omega
theorem join_bits : ∀ (z x : Nat), x < 2 ^ z → join (bits x z) = x
  | 0, x, h => by
    have : x = 0 := by
      rw [Nat.pow_zero] at h
      omega
    rw [this]
    rfl
  | z + 1, x, h => by
    show join (bits (x / 2) z ++ [x % 2]) = x
    rw [Nat.pow_succ] at h
    rw [join_snoc, join_bits z (x / 2) (by omega)]
    omega
theorem bits_join : ∀ (z : Nat) (ds : List Nat), ds.length = z → (∀ d ∈ ds, d < 2) → bits (join ds) z = ds
  | 0, ds, h, _ => by
    rw [List.length_eq_zero_iff.mp h]
    rfl
  | z + 1, ds, h, hd => by
    have hne : ds ≠ [] := fun e => by rw [e] at h; cases h
    obtain ⟨l, d, rfl⟩ : ∃ l d, ds = l ++ [d] := ⟨ds.dropLast, ds.getLast hne, (List.dropLast_concat_getLast hne).symm⟩
    rw [List.length_append, List.length_singleton] at h
    have h1 := hd d (by simp)
    have h2 := bits_join z l (by omega) fun x hx => hd x (List.mem_append_left _ hx)
    rw [join_snoc]
    show bits ((2 * join l + d) / 2) z ++ [(2 * join l + d) % 2] = _
    rw [show (2 * join l + d) / 2 = join l by omega, show (2 * join l + d) % 2 = d by omega, h2]
theorem bits_at : ∀ (z x k : Nat), k < z → (bits x z)[k]? = some (x / 2 ^ (z - 1 - k) % 2)
  | 0, x, k, h => absurd h (Nat.not_lt_zero _)
  | z + 1, x, k, h => by
    show (bits (x / 2) z ++ [x % 2])[k]? = _
    by_cases e : k < z
    · rw [List.getElem?_append_left (by rw [bits_len]; exact e), bits_at z (x / 2) k e, Nat.div_div_eq_div_mul, ← Nat.pow_succ']
      rw [show (z - 1 - k).succ = z + 1 - 1 - k by omega]
    · have e2 : k = z := by omega
      subst e2
      rw [List.getElem?_append_right (by rw [bits_len]; exact Nat.le_refl _), bits_len, Nat.sub_self]
      rw [show k + 1 - 1 - k = 0 by omega, Nat.pow_zero, Nat.div_one]
      rfl
end Pg

/-! Own data: places and polygons: the same answer by two rays. -/
set_option maxHeartbeats 1000000
namespace Wh
abbrev Pt := Int × Int
def side (p q r : Pt) : Int := (q.2 - p.2) * (r.1 - p.1) - (q.1 - p.1) * (r.2 - p.2)
/-- on the side, as the law says it -/
def onL (p q r : Pt) : Bool := decide (side p q r = 0) && (decide ((r.1 - p.1) * (r.1 - q.1) ≤ 0) && decide ((r.2 - p.2) * (r.2 - q.2) ≤ 0))
/-- .. as the program says it -/
def onP (a b c : Pt) : Bool := decide (side a b c = 0) && ((decide (min a.1 b.1 ≤ c.1) && decide (c.1 ≤ max a.1 b.1)) && (decide (min a.2 b.2 ≤ c.2) && decide (c.2 ≤ max a.2 b.2)))
/-- crossed by the way to the east -/
def exP (a b c : Pt) : Bool := (!decide (decide (a.1 > c.1) = decide (b.1 > c.1))) && decide (decide (side a b c > 0) = decide (b.1 > a.1))
/-- crossed by the way to the north: q first, then p -/
def noL (q p c : Pt) : Bool := (!decide (decide (p.2 ≤ c.2) = decide (q.2 ≤ c.2))) && decide ((if p.2 > q.2 then side q p c else side p q c) < 0)
def quad (a c : Pt) : Bool := decide (a.1 > c.1) && decide (a.2 > c.2)
theorem between {x a b : Int} : (x - a) * (x - b) ≤ 0 ↔ min a b ≤ x ∧ x ≤ max a b := by
  constructor
  · intro h
    by_cases h1 : x < a
    · by_cases h2 : x < b
      · have := Int.mul_pos_of_neg_of_neg (show x - a < 0 by omega) (show x - b < 0 by omega)
        omega
      · omega
    · by_cases h2 : b < x
      · by_cases h3 : x = a
        · omega
        · have := Int.mul_pos (show 0 < x - a by omega) (show 0 < x - b by omega)
          omega
      · omega
  · intro h
    by_cases h1 : a ≤ x
    · by_cases h2 : x ≤ b
      · have := Int.mul_nonneg (show 0 ≤ x - a by omega) (show 0 ≤ b - x by omega)
        have e : (x - a) * (b - x) = -((x - a) * (x - b)) := by grind
        omega
      · have e : x - a = 0 := by omega
        rw [e]
        simp
    · have := Int.mul_nonneg (show 0 ≤ a - x by omega) (show 0 ≤ x - b by omega)
      have e : (a - x) * (x - b) = -((x - a) * (x - b)) := by grind
      omega
theorem side_swap (p q r : Pt) : side q p r = -side p q r := by
  unfold side
  grind
theorem on_same (a b c : Pt) : onL b a c = onP a b c := by
  unfold onL onP
  rw [side_swap]
  have e1 : decide ((c.1 - b.1) * (c.1 - a.1) ≤ 0) = (decide (min a.1 b.1 ≤ c.1) && decide (c.1 ≤ max a.1 b.1)) := by
    rw [← Bool.decide_and]
    exact decide_eq_decide.mpr (by rw [Int.mul_comm]; exact between)
  have e2 : decide ((c.2 - b.2) * (c.2 - a.2) ≤ 0) = (decide (min a.2 b.2 ≤ c.2) && decide (c.2 ≤ max a.2 b.2)) := by
    rw [← Bool.decide_and]
    exact decide_eq_decide.mpr (by rw [Int.mul_comm]; exact between)
  rw [e1, e2]
  congr 1
  exact decide_eq_decide.mpr (by omega)
theorem s1 {a0 a1 b0 b1 : Int} (h1 : 0 < a0) (h2 : b0 ≤ 0) (h3 : 0 < a1) (h4 : 0 < b1) : a1 * b0 - b1 * a0 < 0 := by
  have := Int.mul_nonpos_of_nonneg_of_nonpos (show 0 ≤ a1 by omega) h2
  have := Int.mul_pos h4 h1
  omega
theorem s2 {a0 a1 b0 b1 : Int} (h1 : 0 < a0) (h2 : b0 ≤ 0) (h3 : a1 ≤ 0) (h4 : b1 ≤ 0) (h : ¬ (a1 * b0 - b1 * a0 = 0 ∧ (a1 = 0 ∨ b1 = 0))) : 0 < a1 * b0 - b1 * a0 := by
  have k1 := Int.mul_nonneg_of_nonpos_of_nonpos h3 h2
  have k2 := Int.mul_nonpos_of_nonpos_of_nonneg h4 (show 0 ≤ a0 by omega)
  by_cases hz : b1 = 0
  · subst hz
    omega
  · have := Int.mul_neg_of_neg_of_pos (show b1 < 0 by omega) h1
    omega
/-- the same two ways, for a place at the origin -/
theorem quarter0 (a0 a1 b0 b1 s : Int) (hs : s = a1 * b0 - b1 * a0) (h : ¬ (s = 0 ∧ (min a0 b0 ≤ 0 ∧ 0 ≤ max a0 b0) ∧ (min a1 b1 ≤ 0 ∧ 0 ≤ max a1 b1))) :
    ((decide (0 < a0) && decide (0 < a1)) ^^ (decide (0 < b0) && decide (0 < b1))) = (((decide (0 < a0) ^^ decide (0 < b0)) && decide (decide (0 < s) = decide (b0 > a0))) ^^ ((decide (0 < a1) ^^ decide (0 < b1)) && decide ((if b1 > a1 then s else -s) < 0))) := by
  by_cases p1 : 0 < a0
  · by_cases p2 : 0 < b0
    · by_cases p3 : 0 < a1 <;> by_cases p4 : 0 < b1
      · simp [p1, p2, p3, p4]
      · have k := s1 p3 (show b1 ≤ 0 by omega) p1 p2
        have e : 0 < s := by rw [hs, Int.mul_comm a1, Int.mul_comm b1]; omega
        have q : ¬ b1 > a1 := by omega
        simp [p1, p2, p3, p4, q, e]
      · have k := s1 p4 (show a1 ≤ 0 by omega) p2 p1
        have e : s < 0 := by rw [hs, Int.mul_comm a1, Int.mul_comm b1]; omega
        have q : b1 > a1 := by omega
        simp [p1, p2, p3, p4, q, e]
      · simp [p1, p2, p3, p4]
    · have q0 : ¬ b0 > a0 := by omega
      by_cases p3 : 0 < a1 <;> by_cases p4 : 0 < b1
      · have k := s1 p1 (show b0 ≤ 0 by omega) p3 p4
        have e : ¬ 0 < s := by omega
        simp [p1, p2, p3, p4, q0, e]
      · have q : ¬ b1 > a1 := by omega
        by_cases e : 0 < s
        · simp [p1, p2, p3, p4, q0, q, e]
        · simp [p1, p2, p3, p4, q0, q, e]
      · have q : b1 > a1 := by omega
        have e0 : s ≠ 0 := fun z => h ⟨z, by omega, by omega⟩
        by_cases e : 0 < s
        · have e2 : ¬ s < 0 := by omega
          simp [p1, p2, p3, p4, q0, q, e, e2]
        · have e2 : s < 0 := by omega
          simp [p1, p2, p3, p4, q0, q, e, e2]
      · have k := s2 p1 (show b0 ≤ 0 by omega) (show a1 ≤ 0 by omega) (show b1 ≤ 0 by omega) fun z => h ⟨by omega, by omega, by omega⟩
        have e : 0 < s := by omega
        simp [p1, p2, p3, p4, q0, e]
  · by_cases p2 : 0 < b0
    · have q0 : b0 > a0 := by omega
      by_cases p3 : 0 < a1 <;> by_cases p4 : 0 < b1
      · have k := s1 p2 (show a0 ≤ 0 by omega) p4 p3
        have e : 0 < s := by omega
        simp [p1, p2, p3, p4, q0, e]
      · have q : ¬ b1 > a1 := by omega
        have e0 : s ≠ 0 := fun z => h ⟨z, by omega, by omega⟩
        by_cases e : 0 < s
        · simp [p1, p2, p3, p4, q0, q, e]
        · simp [p1, p2, p3, p4, q0, q, e]
      · have q : b1 > a1 := by omega
        have e0 : s = 0 ∨ s ≠ 0 := by omega
        by_cases e : 0 < s
        · have e2 : ¬ s < 0 := by omega
          simp [p1, p2, p3, p4, q0, q, e, e2]
        · have e2 : s < 0 := by
            by_cases z : s = 0
            · exact absurd ⟨z, by omega, by omega⟩ h
            · omega
          simp [p1, p2, p3, p4, q0, q, e, e2]
      · have k := s2 p2 (show a0 ≤ 0 by omega) (show b1 ≤ 0 by omega) (show a1 ≤ 0 by omega) fun z => h ⟨by omega, by omega, by omega⟩
        have e : ¬ 0 < s := by omega
        simp [p1, p2, p3, p4, q0, e]
    · by_cases p3 : 0 < a1 <;> by_cases p4 : 0 < b1
      · simp [p1, p2, p3, p4]
      · have q : ¬ b1 > a1 := by omega
        have k := s2 p3 (show b1 ≤ 0 by omega) (show a0 ≤ 0 by omega) (show b0 ≤ 0 by omega) fun z => h ⟨by rw [Int.mul_comm a0, Int.mul_comm b0] at z; omega, by omega, by omega⟩
        have e : s < 0 := by rw [hs, Int.mul_comm a1, Int.mul_comm b1]; omega
        have e2 : ¬ 0 < s := by omega
        simp [p1, p2, p3, p4, q, e2]
      · have q : b1 > a1 := by omega
        have k := s2 p4 (show a1 ≤ 0 by omega) (show b0 ≤ 0 by omega) (show a0 ≤ 0 by omega) fun z => h ⟨by rw [Int.mul_comm a0, Int.mul_comm b0] at z; omega, by omega, by omega⟩
        have e : 0 < s := by rw [hs, Int.mul_comm a1, Int.mul_comm b1]; omega
        have e2 : ¬ s < 0 := by omega
        simp [p1, p2, p3, p4, q, e2]
      · simp [p1, p2, p3, p4]
/-- one side: in and out of the quarter to the north-east -/
theorem quarter (a b c : Pt) (h : onP a b c = false) : (quad a c ^^ quad b c) = (exP a b c ^^ noL a b c) := by
  have k := quarter0 (a.1 - c.1) (a.2 - c.2) (b.1 - c.1) (b.2 - c.2) (side a b c) (by unfold side; grind) fun z => by
    have : onP a b c = true := by
      unfold onP
      simp only [Bool.and_eq_true, decide_eq_true_eq]
      omega
    rw [h] at this
    cases this
  unfold quad exP noL
  rw [side_swap a b]
  have d : ∀ {x y : Int}, decide (0 < x - y) = decide (x > y) := fun {x y} => decide_eq_decide.mpr (by omega)
  have d2 : ∀ {x y : Int}, decide (x - c.2 > y - c.2) = decide (x > y) := fun {x y} => decide_eq_decide.mpr (by omega)
  rw [d, d, d, d] at k
  rw [k]
  congr 1
  · congr 1
    exact decide_eq_decide.mpr (by rw [show decide (b.1 - c.1 > a.1 - c.1) = decide (b.1 > a.1) from decide_eq_decide.mpr (by omega)])
  · congr 1
    · have e : ∀ x : Int, decide (x ≤ c.2) = !decide (x > c.2) := fun x => by
        by_cases z : x > c.2
        · rw [decide_eq_true z, decide_eq_false (by omega)]; rfl
        · rw [decide_eq_false z, decide_eq_true (by omega)]; rfl
      rw [e, e]
      cases decide (a.2 > c.2) <;> cases decide (b.2 > c.2) <;> rfl
    · by_cases z : b.2 > a.2
      · rw [if_pos z, if_pos (by omega)]
      · rw [if_neg z, if_neg (by omega)]
/-! ### all sides -/
def acc (op : Bool → Bool → Bool) (f : Pt × Pt → Bool) (l : List (Pt × Pt)) : Bool := l.foldl (fun b s => op b (f s)) false
theorem acc_snoc (op : Bool → Bool → Bool) (f : Pt × Pt → Bool) (l : List (Pt × Pt)) (s : Pt × Pt) : acc op f (l ++ [s]) = op (acc op f l) (f s) := by
  unfold acc
  rw [List.foldl_append]
  rfl
structure Op (op : Bool → Bool → Bool) : Prop where
  c : ∀ x y, op x y = op y x
  a : ∀ x y z, op (op x y) z = op x (op y z)
  z : ∀ x, op x false = x
theorem op_xor : Op (· ^^ ·) := ⟨by decide, by decide, by decide⟩
theorem op_or : Op (· || ·) := ⟨by decide, by decide, by decide⟩
def sides (ps : List Pt) : List (Pt × Pt) := ps.zip (ps.drop 1 ++ ps.take 1)
def backs (z : Pt) (ps : List Pt) : List (Pt × Pt) := ps.zip (z :: ps)
/-- the pairs of neighbors of a list -/
def steps : List Pt → List (Pt × Pt)
  | a :: b :: r => (a, b) :: steps (b :: r)
  | _ => []
theorem zip_steps : ∀ (a : Pt) (r : List Pt) (z : Pt), (a :: r).zip (r ++ [z]) = steps (a :: r ++ [z])
  | a, [], z => rfl
  | a, b :: r, z => by
    show (a, b) :: (b :: r).zip (r ++ [z]) = (a, b) :: steps (b :: r ++ [z])
    rw [zip_steps b r z]
theorem sides_steps (a : Pt) (r : List Pt) : sides (a :: r) = steps (a :: r ++ [a]) := zip_steps a r a
section
variable {op : Bool → Bool → Bool} (h : Op op)
include h
theorem acc_from (f : Pt × Pt → Bool) : ∀ (l : List (Pt × Pt)) (b : Bool), l.foldl (fun b s => op b (f s)) b = op b (acc op f l)
  | [], b => (h.z b).symm
  | s :: l, b => by
    show l.foldl _ (op b (f s)) = op b (l.foldl _ (op false (f s)))
    rw [acc_from f l, acc_from f l (op false (f s)), h.c false, h.z, h.a]
theorem acc_cons (f : Pt × Pt → Bool) (s : Pt × Pt) (l : List (Pt × Pt)) : acc op f (s :: l) = op (f s) (acc op f l) := by
  show l.foldl _ (op false (f s)) = _
  rw [acc_from h, h.c false, h.z]
theorem backs_steps (f : Pt × Pt → Bool) : ∀ (z : Pt) (r : List Pt), acc op (fun s => f (s.2, s.1)) (backs z r) = acc op f (steps (z :: r))
  | z, [] => rfl
  | z, a :: r => by
    show acc op _ ((a, z) :: backs a r) = acc op f ((z, a) :: steps (a :: r))
    rw [acc_cons h, acc_cons h, backs_steps f a r]
theorem acc_steps (f : Pt × Pt → Bool) : ∀ (l : List Pt) (z a : Pt), acc op f (steps (l ++ [z, a])) = op (acc op f (steps (l ++ [z]))) (f (z, a))
  | [], z, a => by
    show acc op f [(z, a)] = op (acc op f []) (f (z, a))
    rw [acc_cons h, h.c]
  | [b], z, a => by
    show acc op f [(b, z), (z, a)] = op (acc op f [(b, z)]) (f (z, a))
    rw [acc_cons h, acc_cons h, acc_cons h, show acc op f [] = false from rfl, h.z, h.z]
  | b :: c :: l, z, a => by
    show acc op f ((b, c) :: steps (c :: l ++ [z, a])) = op (acc op f ((b, c) :: steps (c :: l ++ [z]))) (f (z, a))
    rw [acc_cons h, acc_cons h, acc_steps f (c :: l) z a, h.a]
/-- forwards over the sides, or backwards over the corners -/
theorem turn_back (f : Pt × Pt → Bool) (ps : List Pt) (z : Pt) (hz : ps.getLast? = some z) : acc op f (sides ps) = acc op (fun s => f (s.2, s.1)) (backs z ps) := by
  rw [backs_steps h]
  cases ps with
  | nil => cases hz
  | cons a r =>
    rw [sides_steps]
    obtain ⟨l, hl⟩ : ∃ l, a :: r = l ++ [z] := by
      exact ⟨(a :: r).dropLast, by
        have e := List.dropLast_concat_getLast (l := a :: r) (by simp)
        rw [List.getLast?_eq_some_getLast (by simp)] at hz
        rw [← Option.some.inj hz]
        exact e.symm⟩
    rw [hl, List.append_assoc]
    show acc op f (steps (l ++ [z, a])) = _
    rw [acc_steps h]
    show op (acc op f (steps (l ++ [z]))) (f (z, a)) = acc op f (steps (z :: (l ++ [z])))
    rw [← hl]
    show _ = acc op f ((z, a) :: steps (a :: r))
    rw [acc_cons h, h.c]
end
theorem tele (q : Pt → Bool) : ∀ (l : List Pt) (a z : Pt), acc (· ^^ ·) (fun s => q s.1 ^^ q s.2) (steps (a :: l ++ [z])) = (q a ^^ q z)
  | [], a, z => by
    show (false ^^ (q a ^^ q z)) = _
    rw [Bool.false_xor]
  | b :: l, a, z => by
    show acc _ _ ((a, b) :: steps (b :: l ++ [z])) = _
    rw [acc_cons op_xor, tele q l b z]
    show ((q a ^^ q b) ^^ (q b ^^ q z)) = (q a ^^ q z)
    cases q a <;> cases q b <;> cases q z <;> rfl
theorem acc_two (f g : Pt × Pt → Bool) : ∀ l : List (Pt × Pt), acc (· ^^ ·) (fun s => f s ^^ g s) l = (acc (· ^^ ·) f l ^^ acc (· ^^ ·) g l)
  | [] => rfl
  | s :: l => by
    rw [acc_cons op_xor, acc_cons op_xor, acc_cons op_xor, acc_two f g l]
    cases f s <;> cases g s <;> cases acc (· ^^ ·) f l <;> cases acc (· ^^ ·) g l <;> rfl
theorem acc_congr (op : Bool → Bool → Bool) {f g : Pt × Pt → Bool} : ∀ (l : List (Pt × Pt)) (_ : ∀ s ∈ l, f s = g s) (b : Bool), l.foldl (fun b s => op b (f s)) b = l.foldl (fun b s => op b (g s)) b
  | [], _, _ => rfl
  | s :: l, hh, b => by
    show l.foldl _ (op b (f s)) = l.foldl _ (op b (g s))
    rw [hh s (List.mem_cons_self ..)]
    exact acc_congr op l (fun s hs => hh s (List.mem_cons_of_mem _ hs)) _
theorem or_true {f : Pt × Pt → Bool} : ∀ (l : List (Pt × Pt)), acc (· || ·) f l = l.any f
  | [] => rfl
  | s :: l => by rw [acc_cons op_or, or_true l, List.any_cons]
/-- the crossings to the east and those to the north are odd together -/
theorem same_rays (ps : List Pt) (c z : Pt) (hz : ps.getLast? = some z) (hon : (sides ps).any (fun s => onP s.1 s.2 c) = false) :
    acc (· ^^ ·) (fun s => exP s.1 s.2 c) (sides ps) = acc (· ^^ ·) (fun s => noL s.2 s.1 c) (backs z ps) := by
  rw [← turn_back op_xor (fun s => noL s.1 s.2 c) ps z hz]
  cases ps with
  | nil => cases hz
  | cons a r =>
    have h1 := tele (fun p => quad p c) r a a
    rw [← sides_steps] at h1
    have h2 : acc (· ^^ ·) (fun s => quad s.1 c ^^ quad s.2 c) (sides (a :: r)) = acc (· ^^ ·) (fun s => exP s.1 s.2 c ^^ noL s.1 s.2 c) (sides (a :: r)) := acc_congr _ _ (fun s hs => quarter s.1 s.2 c (by
      have := List.any_eq_false.mp hon s hs
      simpa using this)) _
    rw [h2, acc_two] at h1
    revert h1
    cases acc (· ^^ ·) (fun s => exP s.1 s.2 c) (sides (a :: r)) <;> cases acc (· ^^ ·) (fun s => noL s.1 s.2 c) (sides (a :: r)) <;> cases quad a c <;> intro h1 <;> first | rfl | cases h1
theorem same_edges (ps : List Pt) (c z : Pt) (hz : ps.getLast? = some z) : (sides ps).any (fun s => onP s.1 s.2 c) = (backs z ps).any (fun s => onL s.1 s.2 c) := by
  rw [← or_true, ← or_true, turn_back op_or (fun s => onP s.1 s.2 c) ps z hz]
  exact acc_congr _ _ (fun s _ => (on_same s.2 s.1 c).symm) _
theorem corner_on {ps : List Pt} {c : Pt} (hc : c ∈ ps) : (sides ps).any (fun s => onP s.1 s.2 c) = true := by
  obtain ⟨i, hi, rfl⟩ := List.getElem_of_mem hc
  have hl : (ps.drop 1 ++ ps.take 1).length = ps.length := by
    rw [List.length_append, List.length_drop, List.length_take]
    omega
  have hm : (ps[i], (ps.drop 1 ++ ps.take 1)[i]'(by omega)) ∈ sides ps := by
    unfold sides
    refine List.mem_iff_getElem.mpr ⟨i, by rw [List.length_zip]; omega, ?_⟩
    rw [List.getElem_zip]
  refine List.any_eq_true.mpr ⟨_, hm, ?_⟩
  unfold onP side
  simp only [Bool.and_eq_true, decide_eq_true_eq]
  refine ⟨by grind, ?_, ?_⟩ <;> omega
end Wh

/-! Own data layer: what slots hold as data, whatever the heap; expressions, statements and defs told by data alone. -/
namespace Ja
open PySem PySem.Spec PyProof.Rows L2 Evl Cm
mutual
/-- a value as data, its lists tracked -/
inductive Dt (K : PySem.W.Frag) (H : Hp) : V → PyData → Prop
  | non : Dt K H .non .none
  | bl (b : Bool) : Dt K H (.bl b) (.bool b)
  | int (i : Int) : Dt K H (.int i) (.int i)
  | str (x : Str) : Dt K H (.str x) (.str x)
  | lst {a : Addr} {xs : List V} {ds : List PyData} : H a = some (.lst xs) → DtAll K H xs ds → Dt K H (.ref a) (.list ds)
  | tup {a : Addr} {xs : List V} {ds : List PyData} : SqT K H a xs → DtAll K H xs ds → Dt K H (.ref a) (.tuple ds)
inductive DtAll (K : PySem.W.Frag) (H : Hp) : List V → List PyData → Prop
  | nil : DtAll K H [] []
  | cons {v : V} {vs : List V} {d : PyData} {ds : List PyData} : Dt K H v d → DtAll K H vs ds → DtAll K H (v :: vs) (d :: ds)
end
section
variable {K : PySem.W.Frag} {H H' : Hp}
mutual
theorem dt_mono (e : Ex H H') : ∀ (d : PyData) (v : V), Dt K H v d → Dt K H' v d
  | _, _, .non => .non
  | _, _, .bl b => .bl b
  | _, _, .int i => .int i
  | _, _, .str x => .str x
  | _, _, .lst h a => .lst (e _ _ h) (dts_mono e _ _ a)
  | _, _, .tup h a => .tup (ex_t e h) (dts_mono e _ _ a)
theorem dts_mono (e : Ex H H') : ∀ (ds : List PyData) (vs : List V), DtAll K H vs ds → DtAll K H' vs ds
  | _, _, .nil => .nil
  | _, _, .cons h t => .cons (dt_mono e _ _ h) (dts_mono e _ _ t)
end
mutual
theorem dt_dp : ∀ (d : PyData) (v : V), Dt K H v d → Dp K H v d
  | _, _, .non => .non
  | _, _, .bl b => .bl b
  | _, _, .int i => .int i
  | _, _, .str x => .str x
  | _, _, .lst h a => .lst (sq_of h) (dts_dp _ _ a)
  | _, _, .tup h a => .tup h (dts_dp _ _ a)
theorem dts_dp : ∀ (ds : List PyData) (vs : List V), DtAll K H vs ds → DpAll K H vs ds
  | _, _, .nil => .nil
  | _, _, .cons h t => .cons (dt_dp _ _ h) (dts_dp _ _ t)
end
theorem DtAll.len : ∀ {vs : List V} {ds : List PyData}, DtAll K H vs ds → vs.length = ds.length
  | _, _, .nil => rfl
  | _, _, .cons _ r => congrArg (· + 1) r.len
theorem DtAll.get : ∀ {vs : List V} {ds : List PyData}, DtAll K H vs ds → ∀ {i : Nat} {d : PyData}, ds[i]? = some d → ∃ v, vs[i]? = some v ∧ Dt K H v d
  | _, _, .cons h r, 0, d, e => by
    cases Option.some.inj e
    exact ⟨_, rfl, h⟩
  | _, _, .cons h r, i + 1, d, e => r.get (i := i) e
theorem DtAll.getV : ∀ {vs : List V} {ds : List PyData}, DtAll K H vs ds → ∀ {i : Nat} {v : V}, vs[i]? = some v → ∃ d, ds[i]? = some d ∧ Dt K H v d
  | _, _, .cons h r, 0, d, e => by
    cases Option.some.inj e
    exact ⟨_, rfl, h⟩
  | _, _, .cons h r, i + 1, d, e => r.getV (i := i) e
theorem DtAll.app : ∀ {vs ws : List V} {ds es : List PyData}, DtAll K H vs ds → DtAll K H ws es → DtAll K H (vs ++ ws) (ds ++ es)
  | _, _, _, _, .nil, h => h
  | _, _, _, _, .cons h r, h2 => .cons h (r.app h2)
theorem DtAll.one {v : V} {d : PyData} (h : Dt K H v d) : DtAll K H [v] [d] := .cons h .nil
theorem DtAll.take : ∀ {vs : List V} {ds : List PyData}, DtAll K H vs ds → ∀ n, DtAll K H (vs.take n) (ds.take n)
  | _, _, h, 0 => by
    rw [List.take_zero, List.take_zero]
    exact .nil
  | _, _, .nil, n + 1 => .nil
  | _, _, .cons h r, n + 1 => .cons h (r.take n)
theorem DtAll.drop : ∀ {vs : List V} {ds : List PyData}, DtAll K H vs ds → ∀ n, DtAll K H (vs.drop n) (ds.drop n)
  | _, _, h, 0 => h
  | _, _, .nil, n + 1 => .nil
  | _, _, .cons h r, n + 1 => r.drop n
theorem DtAll.of : ∀ {vs : List V} {ds : List PyData}, vs.length = ds.length → (∀ (i : Nat) v d, vs[i]? = some v → ds[i]? = some d → Dt K H v d) → DtAll K H vs ds
  | [], [], _, _ => .nil
  | [], _ :: _, h, _ => by simp at h
  | _ :: _, [], h, _ => by simp at h
  | v :: vs, d :: ds, h, g => .cons (g 0 v d rfl rfl) (DtAll.of (by simpa using h) fun i x y a b => g (i + 1) x y a b)
theorem DtAll.set : ∀ {vs : List V} {ds : List PyData}, DtAll K H vs ds → ∀ (i : Nat) {v : V} {d : PyData}, Dt K H v d → DtAll K H (vs.set i v) (ds.set i d)
  | _, _, .nil, _, _, _, _ => .nil
  | _, _, .cons h r, 0, _, _, g => .cons g r
  | _, _, .cons h r, i + 1, _, _, g => .cons h (r.set i g)
theorem DtAll.rev {vs : List V} {ds : List PyData} (h : DtAll K H vs ds) : DtAll K H vs.reverse ds.reverse := by
  have hl := h.len
  refine .of (by simpa using hl) fun i v d a b => ?_
  have hi : i < vs.length := by
    have := (List.getElem?_eq_some_iff.mp a).1
    simpa using this
  rw [List.getElem?_reverse hi] at a
  rw [List.getElem?_reverse (by omega)] at b
  obtain ⟨e, h1, h2⟩ := h.getV a
  rw [hl] at h1
  rw [h1] at b
  cases Option.some.inj b
  exact h2
theorem dt_ints : ∀ (ns : List Int), DtAll K H (ns.map V.int) (ns.map PyData.int)
  | [] => .nil
  | n :: r => .cons (.int n) (dt_ints r)
theorem dt_ints_inv : ∀ {vs : List V} (ns : List Int), DtAll K H vs (ns.map PyData.int) → vs = ns.map V.int
  | _, [], .nil => rfl
  | _, n :: r, .cons h t => by
    cases h
    rw [dt_ints_inv r t]
    rfl
theorem dt_strs_inv : ∀ {vs : List V} (ns : List Str), DtAll K H vs (ns.map PyData.str) → vs = ns.map V.str
  | _, [], .nil => rfl
  | _, n :: r, .cons h t => by
    cases h
    rw [dt_strs_inv r t]
    rfl
end
/-- what is true of a value, and stays so -/
structure MP where
  P : Hp → V → Prop
  mono : ∀ {B B' : Hp} {v : V}, Ex B B' → P B v → P B' v
inductive Sl where
  | no
  | raw (v : V)
  | dat (d : PyData)
  | own (ds : List PyData)
  | sem (m : MP)
abbrev nI (i : Int) : Sl := .dat (.int i)
abbrev nB (b : Bool) : Sl := .dat (.bool b)
abbrev nS (x : Str) : Sl := .dat (.str x)
/-- a list of ints that is only read -/
def scrP (K : PySem.W.Frag) (ns : List Int) : MP := ⟨fun B v => ∃ a, v = .ref a ∧ SqL K B a (ns.map V.int), fun e ⟨a, h1, h2⟩ => ⟨a, h1, ex_l e h2⟩⟩
/-- what a value is -/
def Is (K : PySem.W.Frag) (B : Hp) (v : V) : Sl → Prop
  | .raw w => v = w
  | .dat d => Dt K B v d
  | .sem m => m.P B v
  | _ => False
def Vl : Sl → Bool
  | .no => false
  | .own _ => false
  | _ => true
theorem Is.vl {K : PySem.W.Frag} {B : Hp} {v : V} : ∀ {s : Sl}, Is K B v s → Vl s = true
  | .raw _, _ => rfl
  | .dat _, _ => rfl
  | .sem _, _ => rfl
  | .no, h => h.elim
  | .own _, h => h.elim
inductive IsAll (K : PySem.W.Frag) (B : Hp) : List V → List Sl → Prop
  | nil : IsAll K B [] []
  | cons {v : V} {vs : List V} {s : Sl} {ss : List Sl} : Is K B v s → IsAll K B vs ss → IsAll K B (v :: vs) (s :: ss)
/-- from the base B and the heap H to B', H' -/
structure Stp (B H B' H' : Hp) : Prop where
  b : Ex B B'
  bh : Ex B' H'
  h : Ex H H'
  n : ∀ a, B' a ≠ none → B a ≠ none ∨ H a = none
theorem Is.mono {K : PySem.W.Frag} {B B' : Hp} {v : V} (e : Ex B B') : ∀ {s : Sl}, Is K B v s → Is K B' v s
  | .raw _, h => h
  | .dat d, h => dt_mono e d v h
  | .sem m, h => m.mono e h
  | .no, h => h
  | .own _, h => h
theorem IsAll.mono {K : PySem.W.Frag} {B B' : Hp} (e : Ex B B') : ∀ {vs : List V} {ss : List Sl}, IsAll K B vs ss → IsAll K B' vs ss
  | _, _, .nil => .nil
  | _, _, .cons h r => .cons (h.mono e) (r.mono e)
theorem IsAll.len {K : PySem.W.Frag} {B : Hp} : ∀ {vs : List V} {ss : List Sl}, IsAll K B vs ss → vs.length = ss.length
  | _, _, .nil => rfl
  | _, _, .cons _ r => congrArg (· + 1) r.len
theorem Stp.refl {B H : Hp} (e : Ex B H) : Stp B H B H := ⟨.refl _, e, .refl _, fun a h => .inl h⟩
theorem none_of {H H' : Hp} {a : Addr} (e : Ex H H') (h : H' a = none) : H a = none := fresh_back e h
theorem Stp.trans {B H B1 H1 B2 H2 : Hp} (x : Stp B H B1 H1) (y : Stp B1 H1 B2 H2) : Stp B H B2 H2 := ⟨x.b.trans y.b, y.bh, x.h.trans y.h, fun a h => by
  rcases y.n a h with h | h
  · exact x.n a h
  · exact .inr (none_of x.h h)⟩
/-- a new object -/
theorem Stp.new {B H : Hp} {p : Addr} {o : HO} (e : Ex B H) (hp : H p = none) : Stp B H (upd B p o) (upd H p o) := by
  have hb : B p = none := none_of e hp
  refine ⟨Ex.new hb, fun a u h => ?_, Ex.new hp, fun a h => ?_⟩
  · by_cases z : a = p
    · subst z
      rw [upd_same] at h ⊢
      exact h
    · rw [upd_ne z] at h ⊢
      exact e a u h
  · by_cases z : a = p
    · subst z
      exact .inr hp
    · rw [upd_ne z] at h
      exact .inl h
/-- slots, as data over the base B; lists of its own beside it -/
structure Sc (K : PySem.W.Frag) (B0 H0 B H : Hp) (σ : L2.St) (δ : List Sl) : Prop where
  st : Stp B0 H0 B H
  len : σ.length = δ.length
  val : ∀ (i : Nat) (s : Sl), δ[i]? = some s → Vl s = true → ∃ v, σ[i]? = some (some v) ∧ Is K B v s
  own : ∀ (i : Nat) (ds : List PyData), δ[i]? = some (Sl.own ds) → ∃ l vs, σ[i]? = some (some (V.ref l)) ∧ H l = some (.lst vs) ∧ B l = none ∧ H0 l = none ∧ DtAll K B vs ds
  dis : ∀ (i j : Nat) (ds es : List PyData) (l : Addr), δ[i]? = some (Sl.own ds) → δ[j]? = some (Sl.own es) → σ[i]? = some (some (V.ref l)) → σ[j]? = some (some (V.ref l)) → i = j
section
variable {K : PySem.W.Frag} {B0 H0 B H B' H' : Hp} {σ : L2.St} {δ : List Sl}
/-- on to a later base and heap: nothing of its own has changed -/
theorem Sc.go (h : Sc K B0 H0 B H σ δ) (s : Stp B H B' H') : Sc K B0 H0 B' H' σ δ := by
  refine ⟨h.st.trans s, h.len, fun i t hi ht => ?_, fun i ds hi => ?_, h.dis⟩
  · obtain ⟨v, h1, h2⟩ := h.val i t hi ht
    exact ⟨v, h1, h2.mono s.b⟩
  · obtain ⟨l, vs, h1, h2, h3, h4, h5⟩ := h.own i ds hi
    refine ⟨l, vs, h1, s.h l _ h2, ?_, h4, dts_mono s.b ds vs h5⟩
    cases e : B' l with
    | none => rfl
    | some o =>
      rcases s.n l (by rw [e]; exact fun z => by cases z) with z | z
      · exact absurd h3 z
      · rw [h2] at z
        cases z
theorem get_set_cases {α : Type} {l : List α} {i j : Nat} {x y : α} (h : (l.set i x)[j]? = some y) : (i = j ∧ x = y ∧ i < l.length) ∨ (i ≠ j ∧ l[j]? = some y) := by
  by_cases e : i = j
  · subst e
    rw [List.getElem?_set_self'] at h
    cases hl : l[i]? with
    | none =>
      rw [hl] at h
      cases h
    | some z =>
      rw [hl] at h
      exact .inl ⟨rfl, Option.some.inj h, (List.getElem?_eq_some_iff.mp hl).1⟩
  · rw [List.getElem?_set_ne e] at h
    exact .inr ⟨e, h⟩
theorem get_set_ne {α : Type} {l : List α} {i j : Nat} {x y : α} (e : i ≠ j) (h : l[j]? = some y) : (l.set i x)[j]? = some y := by
  rw [List.getElem?_set_ne e]
  exact h
theorem get_set_eq {α : Type} {l : List α} {i : Nat} {x : α} (h : i < l.length) : (l.set i x)[i]? = some x := by
  rw [List.getElem?_set_self h]
/-- a slot takes a value of which s is true, or nothing is said of it any more -/
theorem Sc.set' (h : Sc K B0 H0 B H σ δ) {o : Option V} {s : Sl} (i : Nat) (hv : (∃ v, o = some v ∧ Is K B v s) ∨ s = .no) : Sc K B0 H0 B H (σ.set i o) (δ.set i s) := by
  have hn : ∀ {j : Nat} {ds : List PyData}, (δ.set i s)[j]? = some (Sl.own ds) → i ≠ j ∧ δ[j]? = some (Sl.own ds) := fun {j ds} hj => by
    rcases get_set_cases hj with ⟨e1, e2, e3⟩ | ⟨e1, e2⟩
    · rcases hv with ⟨v, _, hv⟩ | hv
      · rw [e2] at hv
        exact hv.elim
      · rw [hv] at e2
        cases e2
    · exact ⟨e1, e2⟩
  refine ⟨h.st, by rw [List.length_set, List.length_set, h.len], fun j t hj ht => ?_, fun j ds hj => ?_, fun j k ds es l hj hk h1 h2 => ?_⟩
  · rcases get_set_cases hj with ⟨rfl, e2, e3⟩ | ⟨e1, e2⟩
    · subst e2
      rcases hv with ⟨v, rfl, hv⟩ | hv
      · exact ⟨v, get_set_eq (by rw [h.len]; exact e3), hv⟩
      · rw [hv] at ht
        cases ht
    · obtain ⟨w, h1, h2⟩ := h.val j t e2 ht
      exact ⟨w, get_set_ne e1 h1, h2⟩
  · obtain ⟨e1, e2⟩ := hn hj
    obtain ⟨l, vs, h1, h2⟩ := h.own j ds e2
    exact ⟨l, vs, get_set_ne e1 h1, h2⟩
  · obtain ⟨e1, e2⟩ := hn hj
    obtain ⟨e3, e4⟩ := hn hk
    rw [List.getElem?_set_ne e1] at h1
    rw [List.getElem?_set_ne e3] at h2
    exact h.dis j k ds es l e2 e4 h1 h2
theorem Sc.set (h : Sc K B0 H0 B H σ δ) {v : V} {s : Sl} (i : Nat) (hv : Is K B v s) : Sc K B0 H0 B H (σ.set i (some v)) (δ.set i s) := h.set' i (.inl ⟨v, rfl, hv⟩)
/-- .. with any value in it -/
theorem Sc.put (h : Sc K B0 H0 B H σ δ) (i : Nat) (o : Option V) : Sc K B0 H0 B H (σ.set i o) (δ.set i Sl.no) := h.set' i (.inr rfl)
/-- a new list of its own -/
theorem Sc.setO (h : Sc K B0 H0 B H σ δ) {l : Addr} {vs : List V} {ds : List PyData} (i : Nat) (h1 : H l = some (.lst vs)) (h2 : B l = none) (h3 : H0 l = none) (h4 : DtAll K B vs ds) (h5 : ∀ (j : Nat) (es : List PyData), i ≠ j → δ[j]? = some (Sl.own es) → σ[j]? ≠ some (some (V.ref l))) : Sc K B0 H0 B H (σ.set i (some (V.ref l))) (δ.set i (Sl.own ds)) := by
  refine ⟨h.st, by rw [List.length_set, List.length_set, h.len], fun j t hj ht => ?_, fun j es hj => ?_, fun j k es fs m hj hk g1 g2 => ?_⟩
  · rcases get_set_cases hj with ⟨_, e2, _⟩ | ⟨e1, e2⟩
    · subst e2
      cases ht
    · obtain ⟨w, g1, g2⟩ := h.val j t e2 ht
      exact ⟨w, get_set_ne e1 g1, g2⟩
  · rcases get_set_cases hj with ⟨rfl, e2, e3⟩ | ⟨e1, e2⟩
    · cases e2
      exact ⟨l, vs, get_set_eq (by rw [h.len]; exact e3), h1, h2, h3, h4⟩
    · obtain ⟨m, ws, g1, g2⟩ := h.own j es e2
      exact ⟨m, ws, get_set_ne e1 g1, g2⟩
  · rcases get_set_cases hj with ⟨rfl, e2, e3⟩ | ⟨e1, e2⟩
    · rcases get_set_cases hk with ⟨rfl, _, _⟩ | ⟨f1, f2⟩
      · rfl
      · rw [get_set_eq (by rw [h.len]; exact e3)] at g1
        rw [List.getElem?_set_ne f1] at g2
        cases Option.some.inj (Option.some.inj g1)
        exact absurd g2 (h5 k fs f1 f2)
    · rcases get_set_cases hk with ⟨rfl, _, f3⟩ | ⟨f1, f2⟩
      · rw [get_set_eq (by rw [h.len]; exact f3)] at g2
        rw [List.getElem?_set_ne e1] at g1
        cases Option.some.inj (Option.some.inj g2)
        exact absurd g1 (h5 j es e1 e2)
      · rw [List.getElem?_set_ne e1] at g1
        rw [List.getElem?_set_ne f1] at g2
        exact h.dis j k es fs m e2 f2 g1 g2
/-- a list of its own that was changed -/
theorem Sc.mut (h : Sc K B0 H0 B H σ δ) {i : Nat} {ds es : List PyData} {l : Addr} {ws : List V} (hi : δ[i]? = some (Sl.own ds)) (hl : σ[i]? = some (some (V.ref l))) (hw : DtAll K B ws es) : Sc K B0 H0 B (upd H l (.lst ws)) σ (δ.set i (Sl.own es)) := by
  obtain ⟨l', vs, g1, g2, g3, g4, g5⟩ := h.own i ds hi
  rw [hl] at g1
  cases Option.some.inj (Option.some.inj g1)
  have hlt : i < δ.length := (List.getElem?_eq_some_iff.mp hi).1
  refine ⟨⟨h.st.b, fun a o ha => ?_, Ex.mut h.st.h g4, h.st.n⟩, by rw [List.length_set, h.len], fun j t hj ht => ?_, fun j fs hj => ?_, fun j k fs hs m hj hk k1 k2 => ?_⟩
  · rw [upd_ne (fun z => by rw [z, g3] at ha; cases ha)]
    exact h.st.bh a o ha
  · rcases get_set_cases hj with ⟨_, e2, _⟩ | ⟨e1, e2⟩
    · subst e2
      cases ht
    · exact h.val j t e2 ht
  · rcases get_set_cases hj with ⟨rfl, e2, e3⟩ | ⟨e1, e2⟩
    · cases e2
      exact ⟨l, ws, hl, upd_same, g3, g4, hw⟩
    · obtain ⟨m, us, q1, q2, q3⟩ := h.own j fs e2
      refine ⟨m, us, q1, ?_, q3⟩
      rw [upd_ne (fun z => by
        subst z
        exact e1 (h.dis i j ds fs m hi e2 hl q1))]
      exact q2
  · have same : ∀ {j : Nat} {fs : List PyData}, (δ.set i (Sl.own es))[j]? = some (Sl.own fs) → ∃ gs, δ[j]? = some (Sl.own gs) := fun {j fs} hj => by
      rcases get_set_cases hj with ⟨rfl, _, _⟩ | ⟨e1, e2⟩
      · exact ⟨ds, hi⟩
      · exact ⟨fs, e2⟩
    obtain ⟨_, s1⟩ := same hj
    obtain ⟨_, s2⟩ := same hk
    exact h.dis j k _ _ m s1 s2 k1 k2
/-- a list of its own, from now on data -/
theorem Sc.freeze (h : Sc K B0 H0 B H σ δ) {i : Nat} {ds : List PyData} (hi : δ[i]? = some (Sl.own ds)) : ∃ B', Ex B B' ∧ Sc K B0 H0 B' H σ (δ.set i (Sl.dat (.list ds))) := by
  obtain ⟨l, vs, g1, g2, g3, g4, g5⟩ := h.own i ds hi
  have eb : Ex B (upd B l (.lst vs)) := Ex.new g3
  have bh : Ex (upd B l (.lst vs)) H := fun a o ha => by
    by_cases z : a = l
    · subst z
      rw [upd_same] at ha
      rw [g2]
      exact ha
    · rw [upd_ne z] at ha
      exact h.st.bh a o ha
  refine ⟨upd B l (.lst vs), eb, ⟨h.st.b.trans eb, bh, h.st.h, fun a ha => ?_⟩, by rw [List.length_set, h.len], fun j t hj ht => ?_, fun j es hj => ?_, fun j k fs hs m hj hk k1 k2 => ?_⟩
  · by_cases z : a = l
    · subst z
      exact .inr g4
    · rw [upd_ne z] at ha
      exact h.st.n a ha
  · rcases get_set_cases hj with ⟨rfl, e2, e3⟩ | ⟨e1, e2⟩
    · subst e2
      exact ⟨V.ref l, g1, .lst upd_same (dts_mono eb ds vs g5)⟩
    · obtain ⟨w, q1, q2⟩ := h.val j t e2 ht
      exact ⟨w, q1, q2.mono eb⟩
  · rcases get_set_cases hj with ⟨_, e2, _⟩ | ⟨e1, e2⟩
    · cases e2
    · obtain ⟨m, us, q1, q2, q3, q4, q5⟩ := h.own j es e2
      refine ⟨m, us, q1, q2, ?_, q4, dts_mono eb es us q5⟩
      rw [upd_ne (fun z => by
        subst z
        exact e1 (h.dis i j ds es m hi e2 g1 q1))]
      exact q3
  · rcases get_set_cases hj with ⟨_, e2, _⟩ | ⟨e1, e2⟩
    · cases e2
    · rcases get_set_cases hk with ⟨_, f2, _⟩ | ⟨f1, f2⟩
      · cases f2
      · exact h.dis j k fs hs m e2 f2 k1 k2
/-- at the entry of a def -/
theorem sc_start {vs : List V} {ss : List Sl} (n : Nat) (e : Ex B H) (h : IsAll K B vs ss) : Sc K B H B H (vs.map some ++ List.replicate n none) (ss ++ List.replicate n Sl.no) := by
  have hl := h.len
  have key : ∀ {vs : List V} {ss : List Sl}, IsAll K B vs ss → ∀ (i : Nat) (s : Sl), ss[i]? = some s → ∃ v, vs[i]? = some v ∧ Is K B v s := by
    intro vs ss h
    induction h with
    | nil => intro i s hi; simp at hi
    | cons h r ih =>
      intro i s hi
      cases i with
      | zero =>
        cases Option.some.inj hi
        exact ⟨_, rfl, h⟩
      | succ i => exact ih i s hi
  have g : ∀ (i : Nat) (s : Sl), (ss ++ List.replicate n Sl.no)[i]? = some s → s ≠ .no → ∃ v, (vs.map some ++ List.replicate n none)[i]? = some (some v) ∧ Is K B v s := fun i s hi hs => by
    by_cases z : i < ss.length
    · rw [List.getElem?_append_left z] at hi
      obtain ⟨v, h1, h2⟩ := key h i s hi
      exact ⟨v, by rw [List.getElem?_append_left (by rw [List.length_map]; omega), List.getElem?_map, h1]; rfl, h2⟩
    · rw [List.getElem?_append_right (by omega)] at hi
      have := (List.mem_replicate.mp (List.mem_of_getElem? hi)).2
      exact absurd this hs
  refine ⟨.refl e, by simp [hl], fun i t hi ht => g i t hi (by intro z; rw [z] at ht; cases ht), fun i ds hi => ?_, fun i j ds es l hi hj h1 h2 => ?_⟩
  · obtain ⟨w, h1, h2⟩ := g i _ hi (by intro z; cases z)
    exact h2.elim
  · obtain ⟨w, _, h3⟩ := g i _ hi (by intro z; cases z)
    exact h3.elim
end
end Ja

/-! Own data layer: expressions. -/
namespace Ja
open PySem PySem.Spec PyProof.Rows L2 Evl Cm
/-- an expression gives a value of which s is true -/
def EvS (K : PySem.W.Frag) (B0 H0 : Hp) (te : TE) (δ : List Sl) (s : Sl) : Prop := ∀ B H σ, Sc K B0 H0 B H σ δ → ∀ Q : VK, (∀ v B' H', Stp B H B' H' → Is K B' v s → Q v H') → te σ H Q
/-- a new list of these -/
def EvN (K : PySem.W.Frag) (B0 H0 : Hp) (te : TE) (δ : List Sl) (ds : List PyData) : Prop := ∀ B H σ, Sc K B0 H0 B H σ δ → ∀ Q : VK, (∀ l vs B' H', Stp B H B' H' → H l = none → B' l = none → H' l = some (.lst vs) → DtAll K B' vs ds → Q (.ref l) H') → te σ H Q
/-- some data of which P is true -/
def EvR (K : PySem.W.Frag) (B0 H0 : Hp) (te : TE) (δ : List Sl) (P : PyData → Prop) : Prop := ∀ B H σ, Sc K B0 H0 B H σ δ → ∀ Q : VK, (∀ v d B' H', P d → Stp B H B' H' → Dt K B' v d → Q v H') → te σ H Q
def EvB (K : PySem.W.Frag) (B0 H0 : Hp) (tt : TT) (δ : List Sl) (b : Bool) : Prop := ∀ B H σ, Sc K B0 H0 B H σ δ → ∀ Q : Bool → Hp → Prop, (∀ B' H', Stp B H B' H' → Q b H') → tt σ H Q
def EvA (K : PySem.W.Frag) (B0 H0 : Hp) (ta : TA) (δ : List Sl) (ss : List Sl) : Prop := ∀ B H σ, Sc K B0 H0 B H σ δ → ∀ Q : List V → Hp → Prop, (∀ vs B' H', Stp B H B' H' → IsAll K B' vs ss → Q vs H') → ta σ H Q
/-- all of them data -/
def EvD (K : PySem.W.Frag) (B0 H0 : Hp) (ta : TA) (δ : List Sl) (ds : List PyData) : Prop := ∀ B H σ, Sc K B0 H0 B H σ δ → ∀ Q : List V → Hp → Prop, (∀ vs B' H', Stp B H B' H' → DtAll K B' vs ds → Q vs H') → ta σ H Q
def EvO (K : PySem.W.Frag) (B0 H0 : Hp) (to : TO) (δ : List Sl) (o : Option Int) : Prop := ∀ B H σ, Sc K B0 H0 B H σ δ → ∀ Q : Option Int → Hp → Prop, (∀ B' H', Stp B H B' H' → Q o H') → to σ H Q
/-- values that are the same in every heap -/
inductive Sv : V → PyData → Prop
  | non : Sv .non .none
  | bl (b : Bool) : Sv (.bl b) (.bool b)
  | int (i : Int) : Sv (.int i) (.int i)
  | str (x : Str) : Sv (.str x) (.str x)
section
variable {K : PySem.W.Frag} {B0 H0 B H B' H' : Hp} {σ : L2.St} {δ : List Sl} {ta tb tc td te : TE} {tt tu : TT} {r r' : R2} {s s' : Sl} {d e : PyData} {ds es : List PyData} {i j k : Int} {b c : Bool} {x y z : V}
theorem Sv.eq {v : V} (h : Sv x d) (g : Dt K B v d) : v = x := by
  cases h <;> cases g <;> rfl
theorem Sv.dt (h : Sv x d) : Dt K B x d := by
  cases h
  · exact .non
  · exact .bl _
  · exact .int _
  · exact .str _
theorem bh (h : Sc K B0 H0 B H σ δ) : Ex B H := h.st.bh
theorem Stp.same (e : Ex B H) (h : Ex H H') : Stp B H B H' := ⟨.refl _, e.trans h, h, fun a q => .inl q⟩
/-! ### leaves -/
theorem d_var {n : Nat} (h : δ[n]? = some s) (hv : Vl s = true := by rfl) : EvS K B0 H0 (tVar n) δ s := fun B H σ S Q q => by
  obtain ⟨v, h1, h2⟩ := S.val n s h hv
  exact ⟨v, h1, q v B H (.refl S.st.bh) h2⟩
theorem d_ci : EvS K B0 H0 (tC (.int i)) δ (nI i) := fun B H σ S Q q => q _ B H (.refl S.st.bh) (Dt.int i)
theorem d_cb : EvS K B0 H0 (tC (.bl b)) δ (nB b) := fun B H σ S Q q => q _ B H (.refl S.st.bh) (Dt.bl b)
theorem d_cs {x : Str} : EvS K B0 H0 (tC (.str x)) δ (nS x) := fun B H σ S Q q => q _ B H (.refl S.st.bh) (Dt.str x)
theorem d_cn : EvS K B0 H0 (tC .non) δ (.dat .none) := fun B H σ S Q q => q _ B H (.refl S.st.bh) Dt.non
theorem d_cr {v : V} : EvS K B0 H0 (tC v) δ (.raw v) := fun B H σ S Q q => q _ B H (.refl S.st.bh) rfl
theorem d_is (h : EvS K B0 H0 te δ s) (e : s = s') : EvS K B0 H0 te δ s' := e ▸ h
theorem d_isI (h : EvS K B0 H0 te δ (nI i)) (e : i = j) : EvS K B0 H0 te δ (nI j) := e ▸ h
theorem d_isB (h : EvS K B0 H0 te δ (nB b)) (e : b = c) : EvS K B0 H0 te δ (nB c) := e ▸ h
theorem b_is (h : EvB K B0 H0 tt δ b) (e : b = c) : EvB K B0 H0 tt δ c := e ▸ h
theorem r_of (h : EvS K B0 H0 te δ (.dat d)) {P : PyData → Prop} (hp : P d) : EvR K B0 H0 te δ P := fun B H σ S Q q => h B H σ S Q fun v B' H' st iv => q v d B' H' hp st iv
theorem r_imp {P P' : PyData → Prop} (h : EvR K B0 H0 te δ P) (hp : ∀ d, P d → P' d) : EvR K B0 H0 te δ P' := fun B H σ S Q q => h B H σ S Q fun v d B' H' p st iv => q v d B' H' (hp d p) st iv
/-! ### operators on values that are the same in every heap -/
theorem d_op (ha : EvS K B0 H0 ta δ (.dat d)) (hb : EvS K B0 H0 tb δ (.dat e)) (sx : Sv x d) (sy : Sv y e) (hr : ∀ H, RV r x y H z) {f : PyData} (sz : Sv z f) : EvS K B0 H0 (tOp r ta tb) δ (.dat f) := fun B H σ S Q q =>
  ha B H σ S _ fun v B1 H1 s1 i1 => hb B1 H1 σ (S.go s1) _ fun w B2 H2 s2 i2 => by
    rw [sx.eq i1, sy.eq i2]
    exact hr H2 H2 (.refl _) Q fun H3 e3 => q z B2 H3 ((s1.trans s2).trans (.same s2.bh e3)) sz.dt
theorem d_ii (ha : EvS K B0 H0 ta δ (nI i)) (hb : EvS K B0 H0 tb δ (nI j)) (hr : ∀ H, RV r (.int i) (.int j) H (.int k)) : EvS K B0 H0 (tOp r ta tb) δ (nI k) := d_op ha hb (.int i) (.int j) hr (.int k)
theorem d_iib (ha : EvS K B0 H0 ta δ (nI i)) (hb : EvS K B0 H0 tb δ (nI j)) (hr : ∀ H, RV r (.int i) (.int j) H (.bl b)) : EvS K B0 H0 (tOp r ta tb) δ (nB b) := d_op ha hb (.int i) (.int j) hr (.bl b)
theorem d_bbb {b1 b2 : Bool} (ha : EvS K B0 H0 ta δ (nB b1)) (hb : EvS K B0 H0 tb δ (nB b2)) (hr : ∀ H, RV r (.bl b1) (.bl b2) H (.bl b)) : EvS K B0 H0 (tOp r ta tb) δ (nB b) := d_op ha hb (.bl b1) (.bl b2) hr (.bl b)
theorem d_ssb {x y : Str} (ha : EvS K B0 H0 ta δ (nS x)) (hb : EvS K B0 H0 tb δ (nS y)) (hr : ∀ H, RV r (.str x) (.str y) H (.bl b)) : EvS K B0 H0 (tOp r ta tb) δ (nB b) := d_op ha hb (.str x) (.str y) hr (.bl b)
theorem d_sss {x y z : Str} (ha : EvS K B0 H0 ta δ (nS x)) (hb : EvS K B0 H0 tb δ (nS y)) (hr : ∀ H, RV r (.str x) (.str y) H (.str z)) : EvS K B0 H0 (tOp r ta tb) δ (nS z) := d_op ha hb (.str x) (.str y) hr (.str z)
theorem d_sis {x z : Str} (ha : EvS K B0 H0 ta δ (nS x)) (hb : EvS K B0 H0 tb δ (nI j)) (hr : ∀ H, RV r (.str x) (.int j) H (.str z)) : EvS K B0 H0 (tOp r ta tb) δ (nS z) := d_op ha hb (.str x) (.int j) hr (.str z)
/-- a sum, a difference, a test of two ints: nothing is asked -/
theorem d_i0 {g : Int → Int → Int} (ha : EvS K B0 H0 ta δ (nI i)) (hb : EvS K B0 H0 tb δ (nI j)) : EvS K B0 H0 (tOp (rI0 fun i j => .int (g i j)) ta tb) δ (nI (g i j)) := d_ii ha hb fun _ => rv_I0
theorem d_b0 {g : Int → Int → Bool} (ha : EvS K B0 H0 ta δ (nI i)) (hb : EvS K B0 H0 tb δ (nI j)) : EvS K B0 H0 (tOp (rI0 fun i j => .bl (g i j)) ta tb) δ (nB (g i j)) := d_iib ha hb fun _ => rv_I0
theorem d_iC {C : Int → Int → Prop} {g : Int → Int → Int} (ha : EvS K B0 H0 ta δ (nI i)) (hb : EvS K B0 H0 tb δ (nI j)) (hc : C i j) : EvS K B0 H0 (tOp (rI C fun i j => .int (g i j)) ta tb) δ (nI (g i j)) := d_ii ha hb fun _ => rv_I hc
theorem d_eqI (ha : EvS K B0 H0 ta δ (nI i)) (hb : EvS K B0 H0 tb δ (nI j)) : EvS K B0 H0 (tOp rEq ta tb) δ (nB (decide (i = j))) := d_iib ha hb fun _ H e Q q => rv_eq rfl H e Q fun H1 e1 => by
  have h := q H1 e1
  rw [show decide (V.int i = V.int j) = decide (i = j) from decide_eq_decide.mpr ⟨fun z => by cases z; rfl, fun z => by rw [z]⟩]
  exact h
theorem d_neI (ha : EvS K B0 H0 ta δ (nI i)) (hb : EvS K B0 H0 tb δ (nI j)) : EvS K B0 H0 (tOp rNe ta tb) δ (nB (!decide (i = j))) := d_iib ha hb fun _ H e Q q => rv_ne rfl H e Q fun H1 e1 => by
  have h := q H1 e1
  rw [show decide (V.int i = V.int j) = decide (i = j) from decide_eq_decide.mpr ⟨fun z => by cases z; rfl, fun z => by rw [z]⟩]
  exact h
theorem d_eqB {b1 b2 : Bool} (ha : EvS K B0 H0 ta δ (nB b1)) (hb : EvS K B0 H0 tb δ (nB b2)) : EvS K B0 H0 (tOp rEq ta tb) δ (nB (decide (b1 = b2))) := d_bbb ha hb fun _ H e Q q => rv_eq rfl H e Q fun H1 e1 => by
  have h := q H1 e1
  rw [show decide (V.bl b1 = V.bl b2) = decide (b1 = b2) from decide_eq_decide.mpr ⟨fun z => by cases z; rfl, fun z => by rw [z]⟩]
  exact h
theorem d_neB {b1 b2 : Bool} (ha : EvS K B0 H0 ta δ (nB b1)) (hb : EvS K B0 H0 tb δ (nB b2)) : EvS K B0 H0 (tOp rNe ta tb) δ (nB (!decide (b1 = b2))) := d_bbb ha hb fun _ H e Q q => rv_ne rfl H e Q fun H1 e1 => by
  have h := q H1 e1
  rw [show decide (V.bl b1 = V.bl b2) = decide (b1 = b2) from decide_eq_decide.mpr ⟨fun z => by cases z; rfl, fun z => by rw [z]⟩]
  exact h
theorem d_eqS {x y : Str} (ha : EvS K B0 H0 ta δ (nS x)) (hb : EvS K B0 H0 tb δ (nS y)) : EvS K B0 H0 (tOp rEq ta tb) δ (nB (decide (x = y))) := d_ssb ha hb fun _ H e Q q => rv_eq rfl H e Q fun H1 e1 => by
  have h := q H1 e1
  rw [show decide (V.str x = V.str y) = decide (x = y) from decide_eq_decide.mpr ⟨fun z => by cases z; rfl, fun z => by rw [z]⟩]
  exact h
theorem d_neS {x y : Str} (ha : EvS K B0 H0 ta δ (nS x)) (hb : EvS K B0 H0 tb δ (nS y)) : EvS K B0 H0 (tOp rNe ta tb) δ (nB (!decide (x = y))) := d_ssb ha hb fun _ H e Q q => rv_ne rfl H e Q fun H1 e1 => by
  have h := q H1 e1
  rw [show decide (V.str x = V.str y) = decide (x = y) from decide_eq_decide.mpr ⟨fun z => by cases z; rfl, fun z => by rw [z]⟩]
  exact h
theorem d_neg (ha : EvS K B0 H0 ta δ (nI i)) : EvS K B0 H0 (tUn (rU fun i => .int (-i)) ta) δ (nI (-i)) := fun B H σ S Q q => ha B H σ S _ fun v B1 H1 s1 i1 => by
  cases i1
  exact ⟨i, rfl, q _ B1 H1 s1 (Dt.int _)⟩
/-! ### tests -/
theorem b_test (h : EvS K B0 H0 te δ (nB b)) : EvB K B0 H0 (tTest te) δ b := fun B H σ S Q q => h B H σ S _ fun v B1 H1 s1 i1 => by
  cases i1
  exact ⟨b, rfl, q B1 H1 s1⟩
theorem b_val (h : EvS K B0 H0 te δ (nB b)) : EvB K B0 H0 (tB te) δ b := fun B H σ S Q q => h B H σ S _ fun v B1 H1 s1 i1 => by
  cases i1
  exact ⟨b, rfl, q B1 H1 s1⟩
theorem b_and (h1 : EvB K B0 H0 tt δ b) (h2 : b = true → EvB K B0 H0 tu δ c) : EvB K B0 H0 (tAnd tt tu) δ (b && c) := fun B H σ S Q q => h1 B H σ S _ fun B1 H1 s1 => by
  cases b with
  | true => exact h2 rfl B1 H1 σ (S.go s1) Q fun B2 H2 s2 => q B2 H2 (s1.trans s2)
  | false => exact q B1 H1 s1
theorem b_or (h1 : EvB K B0 H0 tt δ b) (h2 : b = false → EvB K B0 H0 tu δ c) : EvB K B0 H0 (tOr tt tu) δ (b || c) := fun B H σ S Q q => h1 B H σ S _ fun B1 H1 s1 => by
  cases b with
  | false => exact h2 rfl B1 H1 σ (S.go s1) Q fun B2 H2 s2 => q B2 H2 (s1.trans s2)
  | true => exact q B1 H1 s1
theorem b_not (h : EvB K B0 H0 tt δ b) : EvB K B0 H0 (tNot tt) δ (!b) := fun B H σ S Q q => h B H σ S _ fun B1 H1 s1 => q B1 H1 s1
theorem b_yes : EvB K B0 H0 tYes δ true := fun B H σ S Q q => q B H (.refl S.st.bh)
theorem d_andV (h1 : EvS K B0 H0 ta δ (nB b)) (h2 : b = true → EvS K B0 H0 tb δ (nB c)) : EvS K B0 H0 (tAndV ta tb) δ (nB (b && c)) := fun B H σ S Q q => h1 B H σ S _ fun v B1 H1 s1 i1 => by
  cases i1
  refine ⟨b, rfl, ?_⟩
  cases b with
  | true => exact h2 rfl B1 H1 σ (S.go s1) Q fun v B2 H2 s2 i2 => q v B2 H2 (s1.trans s2) i2
  | false => exact q _ B1 H1 s1 (Dt.bl _)
theorem d_orV (h1 : EvS K B0 H0 ta δ (nB b)) (h2 : b = false → EvS K B0 H0 tb δ (nB c)) : EvS K B0 H0 (tOrV ta tb) δ (nB (b || c)) := fun B H σ S Q q => h1 B H σ S _ fun v B1 H1 s1 i1 => by
  cases i1
  refine ⟨b, rfl, ?_⟩
  cases b with
  | false => exact h2 rfl B1 H1 σ (S.go s1) Q fun v B2 H2 s2 i2 => q v B2 H2 (s1.trans s2) i2
  | true => exact q _ B1 H1 s1 (Dt.bl _)
theorem d_notV (h : EvS K B0 H0 ta δ (nB b)) : EvS K B0 H0 (tNotV ta) δ (nB (!b)) := fun B H σ S Q q => h B H σ S _ fun v B1 H1 s1 i1 => by
  cases i1
  exact ⟨b, rfl, q _ B1 H1 s1 (Dt.bl _)⟩
theorem d_if (h : EvB K B0 H0 tt δ b) (h1 : b = true → EvS K B0 H0 ta δ s) (h2 : b = false → EvS K B0 H0 tb δ s) : EvS K B0 H0 (tIf tt ta tb) δ s := fun B H σ S Q q => h B H σ S _ fun B1 H1 s1 => by
  cases b with
  | true => exact h1 rfl B1 H1 σ (S.go s1) Q fun v B2 H2 s2 i2 => q v B2 H2 (s1.trans s2) i2
  | false => exact h2 rfl B1 H1 σ (S.go s1) Q fun v B2 H2 s2 i2 => q v B2 H2 (s1.trans s2) i2
/-- a < b < c of ints -/
theorem d_chain (ha : EvS K B0 H0 ta δ (nI i)) (hb : EvS K B0 H0 tb δ (nI j)) (hc : EvS K B0 H0 tc δ (nI k)) (h1 : ∀ H, RV r (.int i) (.int j) H (.bl b)) (h2 : ∀ H, RV r' (.int j) (.int k) H (.bl c)) : EvS K B0 H0 (tChain r r' ta tb tc) δ (nB (b && c)) := fun B H σ S Q q => by
  refine ha B H σ S _ fun v B1 H1 s1 i1 => hb B1 H1 σ (S.go s1) _ fun w B2 H2 s2 i2 => ?_
  cases i1
  cases i2
  refine h1 H2 H2 (.refl _) _ fun H3 e3 => ⟨b, rfl, ?_⟩
  have s3 := (s1.trans s2).trans (.same s2.bh e3)
  cases b with
  | true =>
    refine hc B2 H3 σ (S.go s3) _ fun u B4 H4 s4 i4 => ?_
    cases i4
    exact h2 H4 H4 (.refl _) Q fun H5 e5 => q _ B4 H5 ((s3.trans s4).trans (.same s4.bh e5)) (Dt.bl _)
  | false => exact q _ B2 H3 s3 (Dt.bl _)
/-! ### arguments, displays -/
theorem a_nil : EvA K B0 H0 tNil δ [] := fun B H σ S Q q => q [] B H (.refl S.st.bh) .nil
theorem a_cons {tr : TA} {ss : List Sl} (h : EvS K B0 H0 ta δ s) (hr : EvA K B0 H0 tr δ ss) : EvA K B0 H0 (tCons ta tr) δ (s :: ss) := fun B H σ S Q q =>
  h B H σ S _ fun v B1 H1 s1 i1 => hr B1 H1 σ (S.go s1) _ fun vs B2 H2 s2 i2 => q _ B2 H2 (s1.trans s2) (.cons (i1.mono s2.b) i2)
theorem ds_nil : EvD K B0 H0 tNil δ [] := fun B H σ S Q q => q [] B H (.refl S.st.bh) .nil
theorem ds_cons {tr : TA} (h : EvS K B0 H0 ta δ (.dat d)) (hr : EvD K B0 H0 tr δ ds) : EvD K B0 H0 (tCons ta tr) δ (d :: ds) := fun B H σ S Q q =>
  h B H σ S _ fun v B1 H1 s1 i1 => hr B1 H1 σ (S.go s1) _ fun vs B2 H2 s2 i2 => q _ B2 H2 (s1.trans s2) (.cons (dt_mono s2.b _ _ i1) i2)
theorem d_tup {ta : TA} (h : EvD K B0 H0 ta δ ds) (hl : ds.length ≤ 100000 := by exact of_decide_eq_true rfl) : EvS K B0 H0 (tTup ta) δ (.dat (.tuple ds)) := fun B H σ S Q q =>
  h B H σ S _ fun vs B1 H1 s1 i1 => ⟨by rw [i1.len]; exact sz_of hl, fun p hp => q _ _ _ (s1.trans (.new (o := .tup vs) s1.bh hp)) (.tup (st_of upd_same) (dts_mono (Ex.new (none_of s1.bh hp)) _ _ i1))⟩
theorem n_lst {ta : TA} (h : EvD K B0 H0 ta δ ds) (hl : ds.length ≤ 100000 := by exact of_decide_eq_true rfl) : EvN K B0 H0 (tLst ta) δ ds := fun B H σ S Q q =>
  h B H σ S _ fun vs B1 H1 s1 i1 => ⟨by rw [i1.len]; exact sz_of hl, fun p hp => q p vs B1 _ (s1.trans (.same s1.bh (.new hp))) (none_of s1.h hp) (none_of s1.bh hp) upd_same i1⟩
/-- a new list, as data -/
theorem d_new (h : EvN K B0 H0 te δ ds) : EvS K B0 H0 te δ (.dat (.list ds)) := fun B H σ S Q q => h B H σ S Q fun l vs B1 H1 s1 f1 f2 f3 f4 => by
  have eb : Ex B1 (upd B1 l (.lst vs)) := Ex.new f2
  refine q _ (upd B1 l (.lst vs)) H1 ⟨s1.b.trans eb, fun a o ha => ?_, s1.h, fun a ha => ?_⟩ (.lst upd_same (dts_mono eb _ _ f4))
  · by_cases z : a = l
    · subst z
      rw [upd_same] at ha
      rw [f3]
      exact ha
    · rw [upd_ne z] at ha
      exact s1.bh a o ha
  · by_cases z : a = l
    · subst z
      exact .inr f1
    · rw [upd_ne z] at ha
      exact s1.n a ha
/-! ### data compared -/
theorem d_eqD (ha : EvS K B0 H0 ta δ (.dat d)) (hb : EvS K B0 H0 tb δ (.dat e)) (h1 : SeqAt.shaped d = true) (h2 : SeqAt.shaped e = true) : EvS K B0 H0 (tOp (rEqD K) ta tb) δ (nB (PyData.eqv d e)) := fun B H σ S Q q =>
  ha B H σ S _ fun v B1 H1 s1 i1 => hb B1 H1 σ (S.go s1) _ fun w B2 H2 s2 i2 => ⟨d, e, dp_mono s2.bh _ _ (dp_mono s2.b _ _ (dt_dp _ _ i1)), dp_mono s2.bh _ _ (dt_dp _ _ i2), h1, h2, q _ B2 H2 (s1.trans s2) (Dt.bl _)⟩
theorem d_neD (ha : EvS K B0 H0 ta δ (.dat d)) (hb : EvS K B0 H0 tb δ (.dat e)) (h1 : SeqAt.shaped d = true) (h2 : SeqAt.shaped e = true) : EvS K B0 H0 (tOp (rNeD K) ta tb) δ (nB (!PyData.eqv d e)) := fun B H σ S Q q =>
  ha B H σ S _ fun v B1 H1 s1 i1 => hb B1 H1 σ (S.go s1) _ fun w B2 H2 s2 i2 => ⟨d, e, dp_mono s2.bh _ _ (dp_mono s2.b _ _ (dt_dp _ _ i1)), dp_mono s2.bh _ _ (dt_dp _ _ i2), h1, h2, q _ B2 H2 (s1.trans s2) (Dt.bl _)⟩
theorem d_inD (ha : EvS K B0 H0 ta δ (.dat d)) (hb : EvS K B0 H0 tb δ (.dat (.list ds))) (h1 : SeqAt.shaped d = true) (h2 : SeqAt.shaped (.list ds) = true) : EvS K B0 H0 (tOp (rInD K) ta tb) δ (nB (ds.any fun z => PyData.eqv z d)) := fun B H σ S Q q =>
  ha B H σ S _ fun v B1 H1 s1 i1 => hb B1 H1 σ (S.go s1) _ fun w B2 H2 s2 i2 => ⟨d, ds, dp_mono s2.bh _ _ (dp_mono s2.b _ _ (dt_dp _ _ i1)), dp_mono s2.bh _ _ (dt_dp _ _ i2), h1, h2, q _ B2 H2 (s1.trans s2) (Dt.bl _)⟩
theorem d_niD (ha : EvS K B0 H0 ta δ (.dat d)) (hb : EvS K B0 H0 tb δ (.dat (.list ds))) (h1 : SeqAt.shaped d = true) (h2 : SeqAt.shaped (.list ds) = true) : EvS K B0 H0 (tOp (rNotInD K) ta tb) δ (nB (!ds.any fun z => PyData.eqv z d)) := fun B H σ S Q q =>
  ha B H σ S _ fun v B1 H1 s1 i1 => hb B1 H1 σ (S.go s1) _ fun w B2 H2 s2 i2 => ⟨d, ds, dp_mono s2.bh _ _ (dp_mono s2.b _ _ (dt_dp _ _ i1)), dp_mono s2.bh _ _ (dt_dp _ _ i2), h1, h2, q _ B2 H2 (s1.trans s2) (Dt.bl _)⟩
/-! ### items -/
theorem at_get {vs : List V} (h : DtAll K B vs ds) (e : atI ds i = some d) : ∃ v, atI vs i = some v ∧ Dt K B v d := by
  unfold atI at e ⊢
  rw [h.len]
  cases hx : ixN ds.length i with
  | none =>
    rw [hx] at e
    cases e
  | some n =>
    rw [hx] at e
    exact h.get e
theorem d_ixT (ha : EvS K B0 H0 ta δ (.dat (.tuple ds))) (hb : EvS K B0 H0 tb δ (nI i)) (h : atI ds i = some d) : EvS K B0 H0 (tOp (rIxT K) ta tb) δ (.dat d) := fun B H σ S Q q =>
  ha B H σ S _ fun v B1 H1 s1 i1 => hb B1 H1 σ (S.go s1) _ fun w B2 H2 s2 i2 => by
    cases i2
    cases i1 with
    | tup h1 h2 =>
      obtain ⟨x, hx, dx⟩ := at_get (dts_mono s2.b _ _ h2) h
      exact ⟨_, _, i, x, rfl, rfl, ex_t (s2.b.trans s2.bh) h1, hx, q x B2 H2 (s1.trans s2) dx⟩
theorem d_ixL (ha : EvS K B0 H0 ta δ (.dat (.list ds))) (hb : EvS K B0 H0 tb δ (nI i)) (h : atI ds i = some d) : EvS K B0 H0 (tOp (rIxL K) ta tb) δ (.dat d) := fun B H σ S Q q =>
  ha B H σ S _ fun v B1 H1 s1 i1 => hb B1 H1 σ (S.go s1) _ fun w B2 H2 s2 i2 => by
    cases i2
    cases i1 with
    | lst h1 h2 =>
      obtain ⟨x, hx, dx⟩ := at_get (dts_mono s2.b _ _ h2) h
      exact ⟨_, _, i, x, rfl, rfl, sq_of ((s2.b.trans s2.bh) _ _ h1), hx, q x B2 H2 (s1.trans s2) dx⟩
/-- of a list of its own -/
theorem d_ixO {n : Nat} (ho : δ[n]? = some (Sl.own ds)) (hb : EvS K B0 H0 tb δ (nI i)) (h : atI ds i = some d) : EvS K B0 H0 (tOp (rIxL K) (tVar n) tb) δ (.dat d) := fun B H σ S Q q => by
  obtain ⟨l, vs, h1, _⟩ := S.own n ds ho
  refine ⟨.ref l, h1, hb B H σ S _ fun w B2 H2 s2 i2 => ?_⟩
  cases i2
  obtain ⟨l', ws, g1, g2, g3, g4, g5⟩ := (S.go s2).own n ds ho
  rw [h1] at g1
  cases Option.some.inj (Option.some.inj g1)
  obtain ⟨x, hx, dx⟩ := at_get g5 h
  exact ⟨_, _, i, x, rfl, rfl, sq_of g2, hx, q x B2 H2 s2 dx⟩
/-- of the script -/
theorem d_ixS {ns : List Int} (ha : EvS K B0 H0 ta δ (.sem (scrP K ns))) (hb : EvS K B0 H0 tb δ (nI i)) (h : atI ns i = some j) : EvS K B0 H0 (tOp (rIxL K) ta tb) δ (nI j) := fun B H σ S Q q =>
  ha B H σ S _ fun v B1 H1 s1 i1 => hb B1 H1 σ (S.go s1) _ fun w B2 H2 s2 i2 => by
    cases i2
    obtain ⟨a, rfl, ha⟩ := i1
    have hx : atI (ns.map V.int) i = some (.int j) := by
      unfold atI at h ⊢
      rw [List.length_map]
      cases hx : ixN ns.length i with
      | none =>
        rw [hx] at h
        cases h
      | some n =>
        rw [hx] at h
        show (ns.map V.int)[n]? = _
        rw [List.getElem?_map, show ns[n]? = some j from h]
        rfl
    exact ⟨_, _, i, _, rfl, rfl, ex_l (s2.b.trans s2.bh) ha, hx, q _ B2 H2 (s1.trans s2) (Dt.int j)⟩
/-! ### len -/
theorem d_lenL {ta : TE} (h : EvS K B0 H0 ta δ (.dat (.list ds))) : EvS K B0 H0 (tCB (fun xs H Q => ∃ x n, xs = [x] ∧ LenV K x H n ∧ Q (.int n) H) (tCons ta tNil)) δ (nI ds.length) := fun B H σ S Q q =>
  h B H σ S _ fun v B1 H1 s1 i1 => by
    cases i1 with
    | lst h1 h2 => exact ⟨_, ds.length, rfl, .inl ⟨_, sq_of (s1.bh _ _ h1), h2.len.symm⟩, q _ B1 H1 s1 (Dt.int _)⟩
theorem d_lenT {ta : TE} (h : EvS K B0 H0 ta δ (.dat (.tuple ds))) : EvS K B0 H0 (tCB (fun xs H Q => ∃ x n, xs = [x] ∧ LenV K x H n ∧ Q (.int n) H) (tCons ta tNil)) δ (nI ds.length) := fun B H σ S Q q =>
  h B H σ S _ fun v B1 H1 s1 i1 => by
    cases i1 with
    | tup h1 h2 => exact ⟨_, ds.length, rfl, .inr ⟨_, ex_t s1.bh h1, h2.len.symm⟩, q _ B1 H1 s1 (Dt.int _)⟩
theorem d_lenS {ta : TE} {x : Str} (h : EvS K B0 H0 ta δ (nS x)) (hl : x.length ≤ 100000) : EvS K B0 H0 (tCB (fun xs H Q => ∃ x n, xs = [x] ∧ LenV K x H n ∧ Q (.int n) H) (tCons ta tNil)) δ (nI x.length) := fun B H σ S Q q =>
  h B H σ S _ fun v B1 H1 s1 i1 => by
    cases i1
    exact ⟨_, x.length, rfl, ⟨sz_of hl, rfl⟩, q _ B1 H1 s1 (Dt.int _)⟩
theorem d_lenO {n : Nat} (ho : δ[n]? = some (Sl.own ds)) : EvS K B0 H0 (tCB (fun xs H Q => ∃ x n, xs = [x] ∧ LenV K x H n ∧ Q (.int n) H) (tCons (tVar n) tNil)) δ (nI ds.length) := fun B H σ S Q q => by
  obtain ⟨l, vs, h1, h2, h3, h4, h5⟩ := S.own n ds ho
  exact ⟨.ref l, h1, _, ds.length, rfl, .inl ⟨_, sq_of h2, h5.len.symm⟩, q _ B H (.refl S.st.bh) (Dt.int _)⟩
theorem d_lenSc {ns : List Int} (h : EvS K B0 H0 ta δ (.sem (scrP K ns))) : EvS K B0 H0 (tCB (fun xs H Q => ∃ x n, xs = [x] ∧ LenV K x H n ∧ Q (.int n) H) (tCons ta tNil)) δ (nI ns.length) := fun B H σ S Q q =>
  h B H σ S _ fun v B1 H1 s1 ⟨a, e, h1⟩ => by
    subst e
    exact ⟨_, ns.length, rfl, .inl ⟨_, ex_l s1.bh h1, by rw [List.length_map]⟩, q _ B1 H1 s1 (Dt.int _)⟩
/-! ### built-ins on values that are the same in every heap -/
theorem d_cb1 {rr : List V → Hp → VK → Prop} (h : EvS K B0 H0 ta δ (.dat d)) (sx : Sv x d) (hr : ∀ H, RC rr [x] H z) {f : PyData} (sz : Sv z f) : EvS K B0 H0 (tCB rr (tCons ta tNil)) δ (.dat f) := fun B H σ S Q q =>
  h B H σ S _ fun v B1 H1 s1 i1 => by
    rw [sx.eq i1]
    exact hr H1 H1 (.refl _) Q fun H2 e2 => q z B1 H2 (s1.trans (.same s1.bh e2)) sz.dt
theorem d_cb2 {rr : List V → Hp → VK → Prop} (h : EvS K B0 H0 ta δ (.dat d)) (h2 : EvS K B0 H0 tb δ (.dat e)) (sx : Sv x d) (sy : Sv y e) (hr : ∀ H, RC rr [x, y] H z) {f : PyData} (sz : Sv z f) : EvS K B0 H0 (tCB rr (tCons ta (tCons tb tNil))) δ (.dat f) := fun B H σ S Q q =>
  h B H σ S _ fun v B1 H1 s1 i1 => h2 B1 H1 σ (S.go s1) _ fun w B2 H2 s2 i2 => by
    rw [sx.eq i1, sy.eq i2]
    exact hr H2 H2 (.refl _) Q fun H3 e3 => q z B2 H3 ((s1.trans s2).trans (.same s2.bh e3)) sz.dt
theorem d_abs (h : EvS K B0 H0 ta δ (nI i)) : EvS K B0 H0 (tCB (fun xs H Q => ∃ i, xs = [.int i] ∧ Q (.int (if i < 0 then -i else i)) H) (tCons ta tNil)) δ (nI i.natAbs) := d_cb1 h (.int i) (fun _ => rc_abs) (.int _)
theorem d_int (h : EvS K B0 H0 ta δ (nI i)) : EvS K B0 H0 (tCB (fun xs H Q => (∃ i, xs = [.int i] ∧ Q (.int i) H) ∨ ∃ k, xs = [.bl k] ∧ Q (.int (if k then 1 else 0)) H) (tCons ta tNil)) δ (nI i) := d_cb1 h (.int i) (fun _ => rc_intI) (.int _)
theorem d_min (h : EvS K B0 H0 ta δ (nI i)) (h2 : EvS K B0 H0 tb δ (nI j)) : EvS K B0 H0 (tCB (fun xs H Q => ∃ i j, xs = [.int i, .int j] ∧ Q (.int (if j < i then j else i)) H) (tCons ta (tCons tb tNil))) δ (nI (min i j)) := d_cb2 h h2 (.int i) (.int j) (fun _ => rc_min2) (.int _)
theorem d_max (h : EvS K B0 H0 ta δ (nI i)) (h2 : EvS K B0 H0 tb δ (nI j)) : EvS K B0 H0 (tCB (fun xs H Q => ∃ i j, xs = [.int i, .int j] ∧ Q (.int (if j > i then j else i)) H) (tCons ta (tCons tb tNil))) δ (nI (max i j)) := d_cb2 h h2 (.int i) (.int j) (fun _ => rc_max2) (.int _)
/-! ### slices, sums of lists -/
def cutD (xs : List PyData) (lo hi : Option Int) : List PyData := (xs.drop (HT.sIx xs.length 0 lo)).take (HT.sIx xs.length xs.length hi - HT.sIx xs.length 0 lo)
theorem cut_dt {vs : List V} (h : DtAll K B vs ds) (lo hi : Option Int) : DtAll K B (cutV vs lo hi) (cutD ds lo hi) := by
  unfold cutV cutD
  rw [h.len]
  exact (h.drop _).take _
theorem o_none : EvO K B0 H0 tNoPart δ none := fun B H σ S Q q => q B H (.refl S.st.bh)
theorem o_some (h : EvS K B0 H0 te δ (nI i)) : EvO K B0 H0 (tPart te) δ (some i) := fun B H σ S Q q => h B H σ S _ fun v B1 H1 s1 i1 => by
  cases i1
  exact ⟨i, rfl, q B1 H1 s1⟩
theorem n_sl {tl th : TO} {lo hi : Option Int} (h : EvS K B0 H0 te δ (.dat (.list ds))) (h1 : EvO K B0 H0 tl δ lo) (h2 : EvO K B0 H0 th δ hi) : EvN K B0 H0 (tSl (rSlL K) te tl th) δ (cutD ds lo hi) := fun B H σ S Q q =>
  h B H σ S _ fun v B1 H1 s1 i1 => h1 B1 H1 σ (S.go s1) _ fun B2 H2 s2 => h2 B2 H2 σ (S.go (s1.trans s2)) _ fun B3 H3 s3 => by
    have s := (s1.trans s2).trans s3
    cases i1 with
    | lst g1 g2 =>
      refine ⟨_, _, rfl, sq_of (s3.bh _ _ (s3.b _ _ (s2.b _ _ g1))), fun p hp => ?_⟩
      exact q p _ B3 _ (s.trans (.same s.bh (.new hp))) (none_of s.h hp) (none_of s.bh hp) upd_same (cut_dt (dts_mono (s2.b.trans s3.b) _ _ g2) lo hi)
theorem n_cat (ha : EvS K B0 H0 ta δ (.dat (.list ds))) (hb : EvS K B0 H0 tb δ (.dat (.list es))) (hz : ds.length + es.length ≤ 100000) : EvN K B0 H0 (tOp rCat ta tb) δ (ds ++ es) := fun B H σ S Q q =>
  ha B H σ S _ fun v B1 H1 s1 i1 => hb B1 H1 σ (S.go s1) _ fun w B2 H2 s2 i2 => by
    have s := s1.trans s2
    cases i1 with
    | lst g1 g2 =>
      cases i2 with
      | lst k1 k2 =>
        refine ⟨_, _, _, _, rfl, rfl, s2.bh _ _ (s2.b _ _ g1), s2.bh _ _ k1, by rw [g2.len, k2.len]; exact sz_of hz, fun p hp => ?_⟩
        exact q p _ B2 _ (s.trans (.same s.bh (.new hp))) (none_of s.h hp) (none_of s.bh hp) upd_same ((dts_mono s2.b _ _ g2).app k2)
theorem n_list {ta : TE} (h : EvS K B0 H0 ta δ (.dat (.list ds))) : EvN K B0 H0 (tCB (rListS K) (tCons ta tNil)) δ ds := fun B H σ S Q q =>
  h B H σ S _ fun v B1 H1 s1 i1 => by
    cases i1 with
    | lst g1 g2 => exact ⟨_, _, rfl, .inl (sq_of (s1.bh _ _ g1)), fun p hp => q p _ B1 _ (s1.trans (.same s1.bh (.new hp))) (none_of s1.h hp) (none_of s1.bh hp) upd_same g2⟩
theorem d_sum {ta : TE} {ns : List Int} (h : EvS K B0 H0 ta δ (.dat (.list (ns.map PyData.int)))) : EvS K B0 H0 (tCB (rSum K) (tCons ta tNil)) δ (nI ns.sum) := fun B H σ S Q q =>
  h B H σ S _ fun v B1 H1 s1 i1 => by
    cases i1 with
    | lst g1 g2 => exact ⟨_, ns, rfl, sq_of (by rw [← dt_ints_inv ns g2]; exact s1.bh _ _ g1), q _ B1 H1 s1 (Dt.int _)⟩
/-! ### calls of defs -/
/-- a def by data: for an argument a, told by the slots enc a, it gives some data of which post is true -/
def SpA (K : PySem.W.Frag) {A : Type} (enc : A → List Sl) (pre : A → Prop) (post : A → PyData → Prop) : Sp := fun vs H Q _ => ∃ B a, Ex B H ∧ IsAll K B vs (enc a) ∧ pre a ∧ ∀ v d B' H', post a d → Stp B H B' H' → Dt K B' v d → Q v H'
/-- .. or raises the class that bad tells -/
def SpX (K : PySem.W.Frag) {A : Type} (enc : A → List Sl) (pre : A → Prop) (bad : A → Option Addr) (post : A → PyData → Prop) : Sp := fun vs H Q E => ∃ B a, Ex B H ∧ IsAll K B vs (enc a) ∧ pre a ∧ (∀ C, bad a = some C → ∀ H', Ex H H' → E (.ref C) none H') ∧ (bad a = none → ∀ v d B' H', post a d → Stp B H B' H' → Dt K B' v d → Q v H')
theorem r_call {A : Type} {enc : A → List Sl} {pre : A → Prop} {post : A → PyData → Prop} {E : XK} {tr : TA} (a : A) (h : EvA K B0 H0 tr δ (enc a)) (hp : pre a) : EvR K B0 H0 (tCall (SpA K enc pre post) [] E tr) δ (post a) := fun B H σ S Q q =>
  h B H σ S _ fun vs B1 H1 s1 i1 => ⟨B1, a, s1.bh, by rw [List.append_nil]; exact i1, hp, fun v d B2 H2 p st dv => q v d B2 H2 p (s1.trans st) dv⟩
theorem d_call {A : Type} {enc : A → List Sl} {pre : A → Prop} {post : A → PyData → Prop} {E : XK} {tr : TA} (a : A) (h : EvA K B0 H0 tr δ (enc a)) (hp : pre a) (hf : ∀ e, post a e → e = d) : EvS K B0 H0 (tCall (SpA K enc pre post) [] E tr) δ (.dat d) := fun B H σ S Q q =>
  r_call a h hp B H σ S Q fun v e B' H' p st iv => by
    cases hf e p
    exact q v B' H' st iv
/-- the usual form: a function of data -/
abbrev SpF (K : PySem.W.Frag) {A : Type} (enc : A → List Sl) (pre : A → Prop) (f : A → PyData) : Sp := SpA K enc pre fun a d => d = f a
theorem d_callF {A : Type} {enc : A → List Sl} {pre : A → Prop} {f : A → PyData} {E : XK} {tr : TA} (a : A) (h : EvA K B0 H0 tr δ (enc a)) (hp : pre a) : EvS K B0 H0 (tCall (SpF K enc pre f) [] E tr) δ (.dat (f a)) := d_call a h hp fun _ h => h
/-- where nothing is raised -/
theorem r_callX {A : Type} {enc : A → List Sl} {pre : A → Prop} {bad : A → Option Addr} {post : A → PyData → Prop} {E : XK} {tr : TA} (a : A) (h : EvA K B0 H0 tr δ (enc a)) (hp : pre a) (hb : bad a = none) : EvR K B0 H0 (tCall (SpX K enc pre bad post) [] E tr) δ (post a) := fun B H σ S Q q =>
  h B H σ S _ fun vs B1 H1 s1 i1 => ⟨B1, a, s1.bh, by rw [List.append_nil]; exact i1, hp, (fun C e => by rw [hb] at e; cases e), fun _ v d B2 H2 p st dv => q v d B2 H2 p (s1.trans st) dv⟩
theorem d_callX {A : Type} {enc : A → List Sl} {pre : A → Prop} {bad : A → Option Addr} {post : A → PyData → Prop} {E : XK} {tr : TA} (a : A) (h : EvA K B0 H0 tr δ (enc a)) (hp : pre a) (hb : bad a = none) (hf : ∀ e, post a e → e = d) : EvS K B0 H0 (tCall (SpX K enc pre bad post) [] E tr) δ (.dat d) := fun B H σ S Q q =>
  r_callX a h hp hb B H σ S Q fun v e B' H' p st iv => by
    cases hf e p
    exact q v B' H' st iv
end
end Ja

/-! Own data layer: targets, what is walked, comprehensions, statements, defs. -/
namespace Ja
open PySem PySem.Spec PyProof.Rows L2 Evl Cm
def wipeD (δ : List Sl) : List Nat → List Sl
  | [] => δ
  | v :: vs => (wipeD δ vs).set v Sl.no
/-- a target takes data; ix: the slots that it stores to -/
def TGd (K : PySem.W.Frag) (B0 H0 : Hp) (g : TG) (ix : List Nat) (δ : List Sl) (d : PyData) (δ' : List Sl) : Prop := ∀ B H σ v, Sc K B0 H0 B H σ δ → Dt K B v d → ∀ Q : L2.St → Hp → Prop, (∀ σ', Sc K B0 H0 B H σ' δ' → (∀ vs : List Nat, (∀ i ∈ ix, i ∈ vs) → wipe σ' vs = wipe σ vs) → Q σ' H) → g v σ H Q
def TGs (K : PySem.W.Frag) (B0 H0 : Hp) (g : L2.TGs) (ix : List Nat) (δ : List Sl) (ds : List PyData) (δ' : List Sl) : Prop := ∀ B H σ vs, Sc K B0 H0 B H σ δ → DtAll K B vs ds → ∀ Q : L2.St → Hp → Prop, (∀ σ', Sc K B0 H0 B H σ' δ' → (∀ vs : List Nat, (∀ i ∈ ix, i ∈ vs) → wipe σ' vs = wipe σ vs) → Q σ' H) → g vs σ H Q
theorem wipe_set {σ : L2.St} {i : Nat} {o : Option V} : ∀ {vs : List Nat}, i ∈ vs → wipe (σ.set i o) vs = wipe σ vs
  | v :: vs, h => by
    show (wipe (σ.set i o) vs).set v none = (wipe σ vs).set v none
    by_cases e : i ∈ vs
    · rw [wipe_set e]
    · have e1 : v = i := by
        rcases List.mem_cons.mp h with h | h
        · exact h.symm
        · exact absurd h e
      subst e1
      have key : ∀ {vs : List Nat}, v ∉ vs → wipe (σ.set v o) vs = (wipe σ vs).set v o := by
        intro vs
        induction vs with
        | nil => intro _; rfl
        | cons w ws ih =>
          intro hn
          show (wipe (σ.set v o) ws).set w none = ((wipe σ ws).set w none).set v o
          rw [ih fun z => hn (List.mem_cons_of_mem _ z)]
          exact List.set_comm _ _ fun z => hn (by rw [z]; exact List.mem_cons_self ..)
      rw [key e, List.set_set]
theorem wipe_id {σ : L2.St} : ∀ {vs ws : List Nat}, (∀ i ∈ vs, i ∈ ws) → wipe (wipe σ vs) ws = wipe σ ws
  | [], ws, _ => rfl
  | v :: vs, ws, h => by
    show wipe ((wipe σ vs).set v none) ws = _
    rw [wipe_set (h v (List.mem_cons_self ..)), wipe_id fun i hi => h i (List.mem_cons_of_mem _ hi)]
section
variable {K : PySem.W.Frag} {B0 H0 B H B' H' : Hp} {σ : L2.St} {δ δ1 δ2 : List Sl} {ta tb tc td te : TE} {tt : TT} {s s' : Sl} {d e : PyData} {ds es : List PyData} {i j k : Int} {b c : Bool} {x y z : V}
theorem Sc.wipe (h : Sc K B0 H0 B H σ δ) : ∀ vs : List Nat, Sc K B0 H0 B H (wipe σ vs) (wipeD δ vs)
  | [] => h
  | v :: vs => (Sc.wipe h vs).put v none
theorem g_name {n : Nat} : TGd K B0 H0 (gName n) [n] δ d (δ.set n (.dat d)) := fun B H σ v S iv Q q => q _ (S.set (s := .dat d) n iv) fun vs hv => wipe_set (hv n (List.mem_singleton.mpr rfl))
theorem g_nil : TGs K B0 H0 gNil [] δ [] δ := fun B H σ vs S iv Q q => by
  cases iv
  exact ⟨rfl, q σ S fun _ _ => rfl⟩
theorem g_cons {g : TG} {u : L2.TGs} {ix iy : List Nat} (h : TGd K B0 H0 g ix δ d δ1) (hr : TGs K B0 H0 u iy δ1 ds δ2) : TGs K B0 H0 (gCons g u) (ix ++ iy) δ (d :: ds) δ2 := fun B H σ vs S iv Q q => by
  cases iv with
  | cons h1 h2 => exact ⟨_, _, rfl, h B H σ _ S h1 _ fun σ1 S1 w1 => hr B H σ1 _ S1 h2 Q fun σ2 S2 w2 => q σ2 S2 fun ws hw => by
      rw [w2 ws fun i hi => hw i (List.mem_append.mpr (.inr hi)), w1 ws fun i hi => hw i (List.mem_append.mpr (.inl hi))]⟩
theorem g_tup {n : Nat} {u : L2.TGs} {ix : List Nat} (h : TGs K B0 H0 u ix δ ds δ1) (hn : ds.length = n := by rfl) : TGd K B0 H0 (gTup K n u) ix δ (.tuple ds) δ1 := fun B H σ v S iv Q q => by
  cases iv with
  | tup h1 h2 => exact ⟨_, _, rfl, ex_t S.st.bh h1, by rw [h2.len, hn], h B H σ _ S h2 Q q⟩
/-! ### what is walked -/
def EvW (K : PySem.W.Frag) (B0 H0 : Hp) (wi : TI) (δ : List Sl) (ds : List PyData) : Prop := ∀ B H σ, Sc K B0 H0 B H σ δ → ∀ R : It → Hp → Prop,
  (∀ J G Y B1 H1, Stp B H B1 H1 → Walk J ds.length G Y → (∀ B2 H2, Ex B1 B2 → Ex B2 H2 → G H2) → (∀ (i : Nat) H2 x H3 B2 (d : PyData), ds[i]? = some d → Ex B1 B2 → Ex B2 H2 → Y i H2 x H3 → ∃ B3, Stp B2 H2 B3 H3 ∧ Dt K B3 x d) → R J H1) → wi σ H R
theorem w_list {tl : TE} (h : EvS K B0 H0 tl δ (.dat (.list ds))) : EvW K B0 H0 (iList K tl) δ ds := fun B H σ S R q => h B H σ S _ fun v B1 H1 s1 i1 => by
  cases i1 with
  | @lst a xs _ h1 h2 =>
    refine ⟨a, rfl, ⟨xs, sq_of (s1.bh _ _ h1)⟩, q _ (fun H => SqL K H a xs) (YAt xs) B1 H1 s1 (by rw [← h2.len]; exact walk_list) (fun B2 H2 e1 e2 => sq_of (e2 _ _ (e1 _ _ h1))) fun i H2 x H3 B2 d hd e1 e2 y => ?_⟩
    obtain ⟨rfl, hx⟩ := y
    obtain ⟨v, hv, dv⟩ := h2.get hd
    rw [hx] at hv
    cases Option.some.inj hv
    exact ⟨B2, .refl e2, dt_mono e1 _ _ dv⟩
theorem w_tup {tl : TE} (h : EvS K B0 H0 tl δ (.dat (.tuple ds))) : EvW K B0 H0 (iTup K tl) δ ds := fun B H σ S R q => h B H σ S _ fun v B1 H1 s1 i1 => by
  cases i1 with
  | @tup a xs _ h1 h2 =>
    refine ⟨a, rfl, ⟨xs, ex_t s1.bh h1⟩, q _ (fun H => SqT K H a xs) (YAt xs) B1 H1 s1 (by rw [← h2.len]; exact walk_tup) (fun B2 H2 e1 e2 => ex_t (e1.trans e2) h1) fun i H2 x H3 B2 d hd e1 e2 y => ?_⟩
    obtain ⟨rfl, hx⟩ := y
    obtain ⟨v, hv, dv⟩ := h2.get hd
    rw [hx] at hv
    cases Option.some.inj hv
    exact ⟨B2, .refl e2, dt_mono e1 _ _ dv⟩
/-- lo, lo + 1, .. -/
def upto (lo : Int) (n : Nat) : List PyData := (List.range n).map fun i : Nat => PyData.int (lo + (i : Int))
theorem upto_len (lo : Int) (n : Nat) : (upto lo n).length = n := by
  unfold upto
  rw [List.length_map, List.length_range]
theorem upto_get {lo : Int} {n i : Nat} {d : PyData} (h : (upto lo n)[i]? = some d) : i < n ∧ d = .int (lo + (i : Int)) := by
  have hi : i < n := by
    have := (List.getElem?_eq_some_iff.mp h).1
    rwa [upto_len] at this
  unfold upto at h
  rw [List.getElem?_map, List.getElem?_range hi] at h
  exact ⟨hi, (Option.some.inj h).symm⟩
theorem w_rng1 {ta : TA} {n : Int} (h : EvD K B0 H0 ta δ [.int n]) (h1 : n ≤ 100000) (h2 : -100000 ≤ n) : EvW K B0 H0 (iRng1 ta) δ (upto 0 n.toNat) := fun B H σ S R q => h B H σ S _ fun vs B1 H1 s1 i1 => by
  cases i1 with
  | cons g1 g2 =>
    cases g1
    cases g2
    refine ⟨n, rfl, by omega, by omega, q _ _ _ B1 H1 s1 (by rw [upto_len]; exact walk_range) (fun _ _ _ _ => trivial) fun i H2 x H3 B2 d hd e1 e2 y => ?_⟩
    obtain ⟨rfl, rfl⟩ := y
    obtain ⟨_, rfl⟩ := upto_get hd
    exact ⟨B2, .refl e2, .int _⟩
theorem w_rng2 {ta : TA} {lo n : Int} (h : EvD K B0 H0 ta δ [.int lo, .int n]) (h1 : n ≤ 10000000000 ∧ -10000000000 ≤ n ∧ lo ≤ 10000000000 ∧ -10000000000 ≤ lo) : EvW K B0 H0 (iRng2 ta) δ (upto lo (n - lo).toNat) := fun B H σ S R q => h B H σ S _ fun vs B1 H1 s1 i1 => by
  cases i1 with
  | cons g1 g2 =>
    cases g1
    cases g2 with
    | cons g3 g4 =>
      cases g3
      cases g4
      refine ⟨lo, n, rfl, by omega, q _ _ _ B1 H1 s1 (by rw [upto_len]; exact walk_range) (fun _ _ _ _ => trivial) fun i H2 x H3 B2 d hd e1 e2 y => ?_⟩
      obtain ⟨rfl, rfl⟩ := y
      obtain ⟨_, rfl⟩ := upto_get hd
      exact ⟨B2, .refl e2, .int _⟩
/-- 0, 1, .. -/
def nats (n : Nat) : List PyData := (List.range n).map fun i : Nat => PyData.int (i : Int)
theorem upto_nats (n : Nat) : upto 0 n = nats n := by
  unfold upto nats
  exact List.map_congr_left fun i _ => by rw [Int.zero_add]
theorem nats_len (n : Nat) : (nats n).length = n := by
  unfold nats
  rw [List.length_map, List.length_range]
theorem nats_get {n i : Nat} {d : PyData} (h : (nats n)[i]? = some d) : i < n ∧ d = .int (i : Int) := by
  rw [← upto_nats] at h
  have := upto_get h
  rwa [Int.zero_add] at this
theorem w_nat {ta : TA} {n : Nat} (h : EvD K B0 H0 ta δ [.int (n : Int)]) (h1 : n ≤ 100000) : EvW K B0 H0 (iRng1 ta) δ (nats n) := by
  have := w_rng1 h (by omega) (by omega)
  rwa [upto_nats, Int.toNat_natCast] at this
/-- a text, sign by sign -/
def signs (x : Str) : List PyData := x.cps.toList.map fun c => PyData.str ⟨#[c]⟩
theorem w_str {x : Str} (h : EvS K B0 H0 te δ (nS x)) : EvW K B0 H0 (iStr te) δ (signs x) := fun B H σ S R q => h B H σ S _ fun v B1 H1 s1 i1 => by
  cases i1
  refine ⟨x, rfl, q _ _ _ B1 H1 s1 (by unfold signs; rw [List.length_map, Array.length_toList]; exact walk_str) (fun _ _ _ _ => trivial) fun i H2 v H3 B2 d hd e1 e2 y => ?_⟩
  obtain ⟨rfl, c, hc, rfl⟩ := y
  have e : d = .str ⟨#[c]⟩ := by
    unfold signs at hd
    rw [List.getElem?_map, Array.getElem?_toList, hc] at hd
    exact (Option.some.inj hd).symm
  rw [e]
  exact ⟨B2, .refl e2, .str _⟩
/-- pairs of an index and an item -/
def enumD (ds : List PyData) : List PyData := ds.zipIdx.map fun p => .tuple [.int (p.2 : Int), p.1]
theorem w_enum {ta : TA} (h : EvD K B0 H0 ta δ [.list ds]) : EvW K B0 H0 (iEnum K ta) δ (enumD ds) := fun B H σ S R q => h B H σ S _ fun vs B1 H1 s1 i1 => by
  cases i1 with
  | cons g1 g2 =>
    cases g2
    cases g1 with
    | @lst a xs _ h1 h2 =>
      refine ⟨a, xs, rfl, sq_of (s1.bh _ _ h1), q _ _ _ B1 H1 s1 (by unfold enumD; rw [List.length_map, List.length_zipIdx, ← h2.len]; exact walk_enum) (fun B2 H2 e1 e2 => sq_of (e2 _ _ (e1 _ _ h1))) fun i H2 v H3 B2 d hd e1 e2 y => ?_⟩
      obtain ⟨T, u, w, rfl, hT, rfl, hu, hw⟩ := y
      cases Option.some.inj hu
      obtain ⟨f, hf, df⟩ := h2.getV hw
      have e : d = .tuple [.int (i : Int), f] := by
        unfold enumD at hd
        rw [List.getElem?_map, List.getElem?_zipIdx, hf] at hd
        have := Option.some.inj hd
        simpa using this.symm
      rw [e]
      exact ⟨_, .new e2 hT, .tup (st_of upd_same) (.cons (.int _) (.cons (dt_mono (e1.trans (Ex.new (none_of e2 hT))) _ _ df) .nil))⟩
def zipD (ds es : List PyData) : List PyData := (ds.zip es).map fun p => .tuple [p.1, p.2]
theorem w_zip {ta : TA} (h : EvD K B0 H0 ta δ [.list ds, .list es]) : EvW K B0 H0 (RZ.iZipA K ta) δ (zipD ds es) := fun B H σ S R q => h B H σ S _ fun vs B1 H1 s1 i1 => by
  cases i1 with
  | cons g1 g2 =>
    cases g2 with
    | cons g3 g4 =>
      cases g4
      cases g1 with
      | @lst a xs _ h1 h2 =>
        cases g3 with
        | @lst b ys _ k1 k2 =>
          refine ⟨a, b, xs, ys, rfl, .inl ⟨sq_of (s1.bh _ _ h1), sq_of (s1.bh _ _ k1), q _ _ _ B1 H1 s1 (walk_zip (by unfold zipD; rw [List.length_map, List.length_zip, ← h2.len, ← k2.len])) (fun B2 H2 e1 e2 => ⟨sq_of (e2 _ _ (e1 _ _ h1)), sq_of (e2 _ _ (e1 _ _ k1))⟩) fun i H2 v H3 B2 d hd e1 e2 y => ?_⟩⟩
          obtain ⟨T, u, w, rfl, hT, rfl, hu, hw⟩ := y
          obtain ⟨f, hf, df⟩ := h2.getV hu
          obtain ⟨g, hg, dg⟩ := k2.getV hw
          have e : d = .tuple [f, g] := by
            unfold zipD at hd
            rw [List.getElem?_map, show (ds.zip es)[i]? = some (f, g) from List.getElem?_zip_eq_some.mpr ⟨hf, hg⟩] at hd
            exact (Option.some.inj hd).symm
          rw [e]
          have eT : Ex B1 (upd B2 T (.tup [u, w])) := e1.trans (Ex.new (none_of e2 hT))
          exact ⟨_, .new e2 hT, .tup (st_of upd_same) (.cons (dt_mono eT _ _ df) (.cons (dt_mono eT _ _ dg) .nil))⟩
/-- reversed(range(n)) -/
theorem w_rev1 {n : Int} (h : EvS K B0 H0 ta δ (nI n)) (h1 : n ≤ 100000 ∧ -100000 ≤ n) : EvW K B0 H0 (iRevR (tRg1 ta)) δ (upto 0 n.toNat).reverse := fun B H σ S R q => h B H σ S _ fun v B1 H1 s1 i1 => by
  cases i1
  refine ⟨n, rfl, by omega, by omega, by omega, by omega, q _ _ _ B1 H1 s1 (by rw [List.length_reverse, upto_len, Int.sub_zero]; exact walk_rangeC) (fun _ _ _ _ => trivial) fun i H2 x H3 B2 d hd e1 e2 y => ?_⟩
  obtain ⟨rfl, rfl⟩ := y
  have hi : i < n.toNat := by
    have := (List.getElem?_eq_some_iff.mp hd).1
    rwa [List.length_reverse, upto_len] at this
  rw [List.getElem?_reverse (by rw [upto_len]; exact hi), upto_len] at hd
  obtain ⟨_, rfl⟩ := upto_get hd
  show ∃ B3, Stp B2 _ B3 _ ∧ Dt K B3 (V.int (0 + (n.toNat : Int) - 1 + (i : Int) * -1)) _
  rw [show (0 : Int) + (n.toNat : Int) - 1 + (i : Int) * -1 = 0 + ((n.toNat - 1 - i : Nat) : Int) by omega]
  exact ⟨B2, .refl e2, .int _⟩
theorem w_revN {n : Nat} (h : EvS K B0 H0 ta δ (nI (n : Int))) (h1 : n ≤ 100000) : EvW K B0 H0 (iRevR (tRg1 ta)) δ ((List.range n).reverse.map fun i : Nat => PyData.int (i : Int)) := by
  have := w_rev1 h ⟨by omega, by omega⟩
  rw [upto_nats, Int.toNat_natCast] at this
  rwa [List.map_reverse]
/-! ### comprehensions -/
theorem n_lc {A : Type} {wi : TI} {g : TG} {vs ix : List Nat} (xs : List A) (enc : A → PyData) (δt : A → List Sl) (f : A → Bool) (v : A → PyData) (hw : EvW K B0 H0 wi δ (xs.map enc)) (hix : ∀ i ∈ ix, i ∈ vs) (hz : xs.length ≤ 40000)
    (hg : ∀ x ∈ xs, TGd K B0 H0 g ix (wipeD δ vs) (enc x) (δt x)) (ht : ∀ x ∈ xs, EvB K B0 H0 tt (δt x) (f x)) (he : ∀ x ∈ xs, f x = true → EvS K B0 H0 te (δt x) (.dat (v x))) : EvN K B0 H0 (tLc wi g tt te vs) δ ((xs.filter f).map v) := fun B H σ S Q q => by
  refine hw B H σ S _ fun J G Y B1 H1 s1 W hG hY => ?_
  intro D hD
  have hBD : B1 D = none := none_of s1.bh hD
  refine lc_it W (fun i H' => ∃ B' ws, Ex B1 B' ∧ Ex B' H' ∧ Ex H1 H' ∧ (∀ a, B' a ≠ none → B1 a ≠ none ∨ H1 a = none) ∧ B' D = none ∧ H' D = some (.lst ws) ∧ DtAll K B' ws (((xs.take i).filter f).map v)) ?_ (fun i H' hi ⟨B', ws, e1, e2, e3, hn, e4, e5, e6⟩ => hG B' H' e1 e2) ?_ fun H' ⟨B', ws, e1, e2, e3, hn, e4, e5, e6⟩ => ?_
  · exact ⟨B1, [], .refl _, Ex.mut s1.bh hBD, Ex.new hD, fun a h => .inl h, hBD, upd_same, by rw [List.take_zero]; exact .nil⟩
  · intro i x H2 H3 hi ⟨B2, ws, e1, e2, e3, hn, e4, e5, e6⟩ y
    rw [List.length_map] at hi
    have hx : (xs.map enc)[i]? = some (enc xs[i]) := by rw [List.getElem?_map, List.getElem?_eq_getElem hi]; rfl
    obtain ⟨B3, s3, dx⟩ := hY i H2 x H3 B2 _ hx e1 e2 y
    have hmem : xs[i] ∈ xs := List.getElem_mem hi
    have hDn : H2 D ≠ none := by rw [e5]; exact fun z => by cases z
    have b3 : B3 D = none := by
      cases e : B3 D with
      | none => rfl
      | some o =>
        rcases s3.n D (by rw [e]; exact fun z => by cases z) with z | z
        · exact absurd e4 z
        · exact absurd z hDn
    have st12 : Stp B1 H1 B2 H2 := ⟨e1, e2, e3, hn⟩
    have S3 : Sc K B0 H0 B3 H3 σ δ := (S.go s1).go (st12.trans s3)
    have tk : ∀ {n : Nat}, xs.take (n + 1) = xs.take n ++ (xs[n]?).toList := fun {n} => List.take_succ
    refine hg _ hmem B3 H3 (wipe σ vs) x (S3.wipe vs) dx _ fun σ2 S2 w2 => ⟨?_, ?_⟩
    · rw [w2 vs hix]
      exact wipe_id fun _ h => h
    · refine ht _ hmem B3 H3 σ2 S2 _ fun B4 H4 s4 => ?_
      have b4 : ∀ {B5 H5 : Hp}, Stp B3 H3 B5 H5 → B5 D = none := fun {B5 H5} s5 => by
        cases e : B5 D with
        | none => rfl
        | some o =>
          rcases s5.n D (by rw [e]; exact fun z => by cases z) with z | z
          · exact absurd b3 z
          · rw [s3.h _ _ e5] at z
            cases z
      cases hf : f xs[i] with
      | true =>
        rw [if_pos rfl]
        refine he _ hmem hf B4 H4 σ2 (S2.go s4) _ fun u B5 H5 s5 i5 => ?_
        have s35 := s4.trans s5
        have sAll := (st12.trans s3).trans s35
        have h5 : H5 D = some (.lst ws) := s35.h _ _ (s3.h _ _ e5)
        refine ⟨ws, h5, ?_, B5, ws ++ [u], sAll.b, ?_, Ex.mut sAll.h hD, sAll.n, b4 s35, upd_same, ?_⟩
        · rw [e6.len, List.length_map]
          have h1 := List.length_filter_le f (xs.take i)
          rw [List.length_take] at h1
          exact sz_lt (by omega)
        · exact Ex.mut sAll.bh (b4 s35)
        · rw [tk, List.getElem?_eq_getElem hi, List.filter_append, List.map_append]
          refine (dts_mono (s3.b.trans s35.b) _ _ e6).app ?_
          show DtAll K B5 [u] (([xs[i]].filter f).map v)
          rw [List.filter_cons, hf, if_pos rfl]
          exact .cons i5 .nil
      | false =>
        rw [if_neg (by decide)]
        have sAll := (st12.trans s3).trans s4
        refine ⟨B4, ws, sAll.b, sAll.bh, sAll.h, sAll.n, b4 s4, s4.h _ _ (s3.h _ _ e5), ?_⟩
        rw [tk, List.getElem?_eq_getElem hi, List.filter_append]
        have : [xs[i]].filter f = [] := by rw [List.filter_cons, hf]; rfl
        show DtAll K B4 ws ((List.filter f (List.take i xs) ++ [xs[i]].filter f).map v)
        rw [this, List.append_nil]
        exact dts_mono (s3.b.trans s4.b) _ _ e6
  · have sAll := s1.trans (⟨e1, e2, e3, hn⟩ : Stp B1 H1 B' H')
    refine q D ws B' H' sAll (none_of s1.h hD) e4 e5 ?_
    rw [List.length_map, List.take_length] at e6
    exact e6
/-- every item, without a test -/
theorem n_lc1 {A : Type} {wi : TI} {g : TG} {vs ix : List Nat} (xs : List A) (enc : A → PyData) (δt : A → List Sl) (v : A → PyData) (hw : EvW K B0 H0 wi δ (xs.map enc)) (hix : ∀ i ∈ ix, i ∈ vs) (hz : xs.length ≤ 40000)
    (hg : ∀ x ∈ xs, TGd K B0 H0 g ix (wipeD δ vs) (enc x) (δt x)) (he : ∀ x ∈ xs, EvS K B0 H0 te (δt x) (.dat (v x))) : EvN K B0 H0 (tLc wi g tYes te vs) δ (xs.map v) := by
  have h := n_lc (tt := tYes) xs enc δt (fun _ => true) v hw hix hz hg (fun x _ => b_yes) (fun x hx _ => he x hx)
  have e : xs.filter (fun _ => true) = xs := by simp
  rw [e] at h
  exact h
end
/-! ### statements -/
structure DE where
  nx : List Sl → Prop
  rt : PyData → Prop
  bk : List Sl → Prop := fun _ => False
  ct : List Sl → Prop := fun _ => False
  ex : Addr → List Sl → Prop := fun _ _ => False
  ro : List PyData → Prop := fun _ => False
structure Lift (K : PySem.W.Frag) (B0 H0 B : Hp) (W : WX) (E : DE) (D : Ends) : Prop where
  nx : ∀ B' H' σ' δ', Ex B B' → Sc K B0 H0 B' H' σ' δ' → E.nx δ' → D.nx σ' H'
  rt : ∀ v d B' H', Ex B B' → Stp B0 H0 B' H' → Dt K B' v d → E.rt d → D.rt v H'
  bk : ∀ B' H' σ' δ', Ex B B' → Sc K B0 H0 B' H' σ' δ' → E.bk δ' → D.bk σ' H'
  ct : ∀ B' H' σ' δ', Ex B B' → Sc K B0 H0 B' H' σ' δ' → E.ct δ' → D.ct σ' H'
  ex : ∀ C B' H' σ' δ', Ex B B' → Sc K B0 H0 B' H' σ' δ' → E.ex C δ' → W (.ref C) none σ' H'
  ro : ∀ l vs ds B' H', Ex B B' → Stp B0 H0 B' H' → H0 l = none → B' l = none → H' l = some (.lst vs) → DtAll K B' vs ds → E.ro ds → D.rt (.ref l) H'
theorem Lift.mono {K : PySem.W.Frag} {B0 H0 B B' : Hp} {W : WX} {E : DE} {D : Ends} (e : Ex B B') (h : Lift K B0 H0 B W E D) : Lift K B0 H0 B' W E D :=
  ⟨fun B2 H2 σ δ e2 => h.nx B2 H2 σ δ (e.trans e2), fun v d B2 H2 e2 => h.rt v d B2 H2 (e.trans e2), fun B2 H2 σ δ e2 => h.bk B2 H2 σ δ (e.trans e2), fun B2 H2 σ δ e2 => h.ct B2 H2 σ δ (e.trans e2), fun C B2 H2 σ δ e2 => h.ex C B2 H2 σ δ (e.trans e2), fun l vs ds B2 H2 e2 => h.ro l vs ds B2 H2 (e.trans e2)⟩
def SD (K : PySem.W.Frag) (B0 H0 : Hp) (W : WX) (ts : TS) (δ : List Sl) (E : DE) : Prop := ∀ D B H σ, Sc K B0 H0 B H σ δ → Lift K B0 H0 B W E D → ts D σ H
/-- an expression that gives data of which P is true, or raises one of ex -/
def EvX (K : PySem.W.Frag) (B0 H0 : Hp) (W : WX) (te : TE) (δ : List Sl) (P : PyData → Prop) (ex : Addr → Prop) : Prop := ∀ B H σ, Sc K B0 H0 B H σ δ → (∀ C B' H', Stp B H B' H' → ex C → W (.ref C) none σ H') → ∀ Q : VK, (∀ v d B' H', P d → Stp B H B' H' → Dt K B' v d → Q v H') → te σ H Q
section
variable {K : PySem.W.Frag} {B0 H0 B H B' H' : Hp} {W : WX} {σ : L2.St} {δ δ1 δ2 : List Sl} {ta tb tc td te : TE} {tt : TT} {t u : TS} {E : DE} {s s' : Sl} {d e : PyData} {ds es : List PyData} {i j k : Int} {b c : Bool}
theorem sd_next (h : E.nx δ) : SD K B0 H0 W tNext δ E := fun D B H σ S L => L.nx B H σ δ (.refl _) S h
theorem sd_break (h : E.bk δ) : SD K B0 H0 W tBreak δ E := fun D B H σ S L => L.bk B H σ δ (.refl _) S h
theorem sd_cont (h : E.ct δ) : SD K B0 H0 W tCont δ E := fun D B H σ S L => L.ct B H σ δ (.refl _) S h
theorem sd_seq (h : SD K B0 H0 W t δ { E with nx := fun δ' => SD K B0 H0 W u δ' E }) : SD K B0 H0 W (tSeq t u) δ E := fun D B H σ S L =>
  h { D with nx := u D } B H σ S ⟨fun B' H' σ' δ' e S' h' => h' D B' H' σ' S' (L.mono e), L.rt, L.bk, L.ct, L.ex, L.ro⟩
theorem sd_cut {M : List Sl → Prop} (h : SD K B0 H0 W t δ { E with nx := M }) (k : ∀ δ', M δ' → SD K B0 H0 W u δ' E) : SD K B0 H0 W (tCut t u) δ E := fun D B H σ S L =>
  ⟨fun σ' H' => ∃ B' δ', Ex B B' ∧ Sc K B0 H0 B' H' σ' δ' ∧ M δ', h _ B H σ S ⟨fun B' H' σ' δ' e S' m => ⟨B', δ', e, S', m⟩, L.rt, L.bk, L.ct, L.ex, L.ro⟩, fun σ' H' ⟨B', δ', e, S', m⟩ => k δ' m D B' H' σ' S' (L.mono e)⟩
theorem sd_asg {n : Nat} (h : EvS K B0 H0 te δ s) (k : E.nx (δ.set n s)) : SD K B0 H0 W (tAsg te (gName n)) δ E := fun D B H σ S L => h B H σ S _ fun v B1 H1 s1 i1 => L.nx B1 H1 _ _ s1.b ((S.go s1).set n i1) k
theorem sd_asgR {n : Nat} {P : PyData → Prop} (h : EvR K B0 H0 te δ P) (k : ∀ d, P d → E.nx (δ.set n (.dat d))) : SD K B0 H0 W (tAsg te (gName n)) δ E := fun D B H σ S L => h B H σ S _ fun v d B1 H1 p s1 i1 => L.nx B1 H1 _ _ s1.b ((S.go s1).set (s := .dat d) n i1) (k d p)
theorem sd_asgO {n : Nat} (h : EvN K B0 H0 te δ ds) (k : E.nx (δ.set n (.own ds))) : SD K B0 H0 W (tAsg te (gName n)) δ E := fun D B H σ S L => h B H σ S _ fun l vs B1 H1 s1 f1 f2 f3 f4 => by
  refine L.nx B1 H1 _ _ s1.b ((S.go s1).setO n f3 f2 (none_of S.st.h f1) f4 fun j es _ hj hl => ?_) k
  obtain ⟨m, ws, g1, g2, _⟩ := S.own j es hj
  rw [hl] at g1
  cases Option.some.inj (Option.some.inj g1)
  rw [f1] at g2
  cases g2
theorem sd_unp {g : TG} {ix : List Nat} (h : EvS K B0 H0 te δ (.dat d)) (hg : TGd K B0 H0 g ix δ d δ1) (k : E.nx δ1) : SD K B0 H0 W (tAsg te g) δ E := fun D B H σ S L => h B H σ S _ fun v B1 H1 s1 i1 => hg B1 H1 σ v (S.go s1) i1 _ fun σ' S' _ => L.nx B1 H1 σ' _ s1.b S' k
theorem sd_ret (h : EvS K B0 H0 te δ (.dat d)) (k : E.rt d) : SD K B0 H0 W (tRet te) δ E := fun D B H σ S L => h B H σ S _ fun v B1 H1 s1 i1 => L.rt v d B1 H1 s1.b (S.st.trans s1) i1 k
theorem sd_retR {P : PyData → Prop} (h : EvR K B0 H0 te δ P) (k : ∀ d, P d → E.rt d) : SD K B0 H0 W (tRet te) δ E := fun D B H σ S L => h B H σ S _ fun v d B1 H1 p s1 i1 => L.rt v d B1 H1 s1.b (S.st.trans s1) i1 (k d p)
theorem sd_retN (k : E.rt .none) : SD K B0 H0 W tRetN δ E := fun D B H σ S L => L.rt .non .none B H (.refl _) S.st .non k
/-- a list of its own is given back -/
theorem sd_retO {n : Nat} (hn : δ[n]? = some (Sl.own ds)) (k : E.ro ds) : SD K B0 H0 W (tRet (tVar n)) δ E := fun D B H σ S L => by
  obtain ⟨l, vs, h1, h2, h3, h4, h5⟩ := S.own n ds hn
  exact ⟨.ref l, h1, L.ro l vs ds B H (.refl _) S.st h4 h3 h2 h5 k⟩
theorem sd_retE (h : EvN K B0 H0 te δ ds) (k : E.ro ds) : SD K B0 H0 W (tRet te) δ E := fun D B H σ S L => h B H σ S _ fun l vs B1 H1 s1 f1 f2 f3 f4 => L.ro l vs ds B1 H1 s1.b (S.st.trans s1) (none_of S.st.h f1) f2 f3 f4 k
/-- a new list of which P is true -/
def EvNR (K : PySem.W.Frag) (B0 H0 : Hp) (te : TE) (δ : List Sl) (P : List PyData → Prop) : Prop := ∀ B H σ, Sc K B0 H0 B H σ δ → ∀ Q : VK, (∀ l vs ds B' H', P ds → Stp B H B' H' → H l = none → B' l = none → H' l = some (.lst vs) → DtAll K B' vs ds → Q (.ref l) H') → te σ H Q
theorem n_of (h : EvNR K B0 H0 te δ fun es => es = ds) : EvN K B0 H0 te δ ds := fun B H σ S Q q => h B H σ S Q fun l vs es B' H' p => by
  subst p
  exact q l vs B' H'
theorem nr_of {P : List PyData → Prop} (h : EvN K B0 H0 te δ ds) (p : P ds) : EvNR K B0 H0 te δ P := fun B H σ S Q q => h B H σ S Q fun l vs B' H' => q l vs ds B' H' p
theorem sd_asgN {n : Nat} {P : List PyData → Prop} (h : EvNR K B0 H0 te δ P) (k : ∀ ds, P ds → E.nx (δ.set n (.own ds))) : SD K B0 H0 W (tAsg te (gName n)) δ E := fun D B H σ S L => h B H σ S _ fun l vs ds B1 H1 p s1 f1 f2 f3 f4 => by
  refine L.nx B1 H1 _ _ s1.b ((S.go s1).setO n f3 f2 (none_of S.st.h f1) f4 fun j es _ hj hl => ?_) (k ds p)
  obtain ⟨m, ws, g1, g2, _⟩ := S.own j es hj
  rw [hl] at g1
  cases Option.some.inj (Option.some.inj g1)
  rw [f1] at g2
  cases g2
theorem q_asgN {n : Nat} {P : List PyData → Prop} (h : EvNR K B0 H0 te δ P) (k : ∀ ds, P ds → SD K B0 H0 W u (δ.set n (.own ds)) E) : SD K B0 H0 W (tSeq (tAsg te (gName n)) u) δ E := sd_seq (sd_asgN h k)
theorem sd_drop (h : EvS K B0 H0 te δ s) (k : E.nx δ) : SD K B0 H0 W (tDrop te) δ E := fun D B H σ S L => h B H σ S _ fun v B1 H1 s1 i1 => L.nx B1 H1 σ δ s1.b (S.go s1) k
theorem sd_if (h : EvB K B0 H0 tt δ b) (h1 : b = true → SD K B0 H0 W t δ E) (h2 : b = false → SD K B0 H0 W u δ E) : SD K B0 H0 W (tIfS tt t u) δ E := fun D B H σ S L => h B H σ S _ fun B1 H1 s1 => by
  cases b with
  | true => exact h1 rfl D B1 H1 σ (S.go s1) (L.mono s1.b)
  | false => exact h2 rfl D B1 H1 σ (S.go s1) (L.mono s1.b)
theorem sd_freeze {n : Nat} (hn : δ[n]? = some (Sl.own ds)) (h : SD K B0 H0 W t (δ.set n (.dat (.list ds))) E) : SD K B0 H0 W t δ E := fun D B H σ S L => by
  obtain ⟨B', e, S'⟩ := S.freeze hn
  exact h D B' H σ S' (L.mono e)
theorem sd_env (e : δ = δ1) (h : SD K B0 H0 W t δ1 E) : SD K B0 H0 W t δ E := e ▸ h
theorem sd_forget (n : Nat) (h : SD K B0 H0 W t (δ.set n Sl.no) E) : SD K B0 H0 W t δ E := fun D B H σ S L => h D B H σ (by
  by_cases hn : n < σ.length
  · have := S.put n (σ[n])
    rw [List.set_getElem_self hn] at this
    exact this
  · have e : δ.set n Sl.no = δ := List.set_eq_of_length_le (by rw [← S.len]; omega)
    rw [e]
    exact S) L
/-- xs.append(e), xs of its own -/
theorem sd_app {n : Nat} (hn : δ[n]? = some (Sl.own ds)) (h : EvS K B0 H0 te δ (.dat d)) (hz : ds.length < 100000) (k : E.nx (δ.set n (.own (ds ++ [d])))) : SD K B0 H0 W (tDrop (tBM K "list" rAppend (tVar n) (tCons te tNil))) δ E := fun D B H σ S L => by
  obtain ⟨l, vs, h1, h2, h3, h4, h5⟩ := S.own n ds hn
  refine ⟨.ref l, h1, .inl ⟨rfl, _, sq_of h2⟩, h B H σ S _ fun v B1 H1 s1 i1 => ?_⟩
  obtain ⟨l', ws, g1, g2, g3, g4, g5⟩ := (S.go s1).own n ds hn
  rw [h1] at g1
  cases Option.some.inj (Option.some.inj g1)
  exact ⟨l, ws, v, rfl, rfl, g2, by rw [g5.len]; exact sz_lt hz, L.nx B1 _ σ _ s1.b ((S.go s1).mut hn h1 (g5.app (.cons i1 .nil))) k⟩
/-- xs[j] = e, xs of its own -/
theorem sd_put {n j : Nat} (hn : δ[n]? = some (Sl.own ds)) (h : EvS K B0 H0 te δ (.dat d)) (hj : EvS K B0 H0 tb δ (nI (j : Int))) (hl : j < ds.length) (k : E.nx (δ.set n (.own (ds.set j d)))) : SD K B0 H0 W (tAsg te (gSub (tVar n) tb rSetL)) δ E := fun D B H σ S L =>
  h B H σ S _ fun v B1 H1 s1 i1 => by
    have S1 := S.go s1
    obtain ⟨l, vs, h1, h2, h3, h4, h5⟩ := S1.own n ds hn
    refine ⟨.ref l, h1, hj B1 H1 σ S1 _ fun w B2 H2 s2 i2 => ?_⟩
    cases i2
    obtain ⟨l', ws, g1, g2, g3, g4, g5⟩ := (S1.go s2).own n ds hn
    rw [h1] at g1
    cases Option.some.inj (Option.some.inj g1)
    exact ⟨l, ws, (j : Int), j, rfl, rfl, g2, ixN_nat (by rw [g5.len]; exact hl), L.nx B2 _ σ _ (s1.b.trans s2.b) ((S1.go s2).mut hn h1 (g5.set j (dt_mono s2.b _ _ i1))) k⟩
/-! loops -/
theorem sd_for {wi : TI} {g : TG} {tb : TS} (hw : EvW K B0 H0 wi δ ds) (P : Nat → List Sl → Prop) (h0 : P 0 δ)
    (hs : ∀ (i : Nat) (d : PyData) (δ' : List Sl), ds[i]? = some d → P i δ' → ∃ ix δ2, TGd K B0 H0 g ix δ' d δ2 ∧ SD K B0 H0 W tb δ2 { E with nx := P (i + 1), ct := P (i + 1), bk := E.nx }) (hd : ∀ δ', P ds.length δ' → E.nx δ') : SD K B0 H0 W (tFor wi g tb) δ E := fun D B H σ S L =>
  hw B H σ S _ fun J G Y B1 H1 s1 Wk hG hY => for_it Wk (fun i σ' H' => ∃ B' δ', Ex B1 B' ∧ Sc K B0 H0 B' H' σ' δ' ∧ P i δ') ⟨B1, δ, .refl _, S.go s1, h0⟩ (fun i σ' H' hi ⟨B', δ', e, S', _⟩ => hG B' H' e S'.st.bh) (fun i x σ' H2 H3 hi ⟨B', δ', e, S', p⟩ y => by
    obtain ⟨B3, s3, dx⟩ := hY i H2 x H3 B' _ (List.getElem?_eq_getElem hi) e S'.st.bh y
    obtain ⟨ix, δ2, hg, hb⟩ := hs i _ δ' (List.getElem?_eq_getElem hi) p
    refine hg B3 H3 σ' x (S'.go s3) dx _ fun σ2 S2 _ => ?_
    have L3 := L.mono ((s1.b.trans e).trans s3.b)
    exact hb _ B3 H3 σ2 S2 ⟨fun B4 H4 σ4 δ4 e4 S4 p4 => ⟨B4, δ4, (e.trans s3.b).trans e4, S4, p4⟩, L3.rt, L3.nx, fun B4 H4 σ4 δ4 e4 S4 p4 => ⟨B4, δ4, (e.trans s3.b).trans e4, S4, p4⟩, L3.ex, L3.ro⟩) fun σ' H' ⟨B', δ', e, S', p⟩ => L.nx B' H' σ' δ' (s1.b.trans e) S' (hd δ' p)
theorem sd_while {tb : TS} (P : Nat → List Sl → Prop) (m0 : Nat) (h0 : P m0 δ)
    (hs : ∀ (m : Nat) (δ' : List Sl), P m δ' → ∃ b, EvB K B0 H0 tt δ' b ∧ (b = true → SD K B0 H0 W tb δ' { E with nx := fun δ2 => ∃ m', m' < m ∧ P m' δ2, ct := fun δ2 => ∃ m', m' < m ∧ P m' δ2, bk := E.nx }) ∧ (b = false → E.nx δ')) : SD K B0 H0 W (tWhile tt tb) δ E := fun D B H σ S L =>
  ⟨fun m σ' H' => ∃ B' δ', Ex B B' ∧ Sc K B0 H0 B' H' σ' δ' ∧ P m δ', ⟨m0, B, δ, .refl _, S, h0⟩, fun m σ' H' ⟨B', δ', e, S', p⟩ => by
    obtain ⟨b, hb, h1, h2⟩ := hs m δ' p
    refine hb B' H' σ' S' _ fun B2 H2 s2 => ?_
    have L2 := L.mono (e.trans s2.b)
    cases b with
    | true =>
      rw [if_pos rfl]
      refine ⟨fun σ3 H3 => ∃ m', m' < m ∧ ∃ B3 δ3, Ex B B3 ∧ Sc K B0 H0 B3 H3 σ3 δ3 ∧ P m' δ3, fun σ3 H3 ⟨m', hm, q⟩ => ⟨m', hm, q⟩, h1 rfl _ B2 H2 σ' (S'.go s2) ⟨fun B4 H4 σ4 δ4 e4 S4 ⟨m', hm, p4⟩ => ⟨m', hm, B4, δ4, (e.trans s2.b).trans e4, S4, p4⟩, L2.rt, L2.nx, fun B4 H4 σ4 δ4 e4 S4 ⟨m', hm, p4⟩ => ⟨m', hm, B4, δ4, (e.trans s2.b).trans e4, S4, p4⟩, L2.ex, L2.ro⟩⟩
    | false =>
      rw [if_neg (by decide)]
      exact L2.nx B2 H2 σ' δ' (.refl _) (S'.go s2) (h2 rfl)⟩
/-! raising -/
theorem sd_raise {C : Addr} (h : E.ex C δ) : SD K B0 H0 W (fun _ σ H => W (.ref C) none σ H) δ E := fun D B H σ S L => L.ex C B H σ δ (.refl _) S h
theorem x_of {P : PyData → Prop} {ex : Addr → Prop} (h : EvR K B0 H0 te δ P) : EvX K B0 H0 W te δ P ex := fun B H σ S _ Q q => h B H σ S Q q
theorem x_call {A : Type} {enc : A → List Sl} {pre : A → Prop} {bad : A → Option Addr} {post : A → PyData → Prop} {R : XK} {tr : TA} (a : A) (h : EvA K B0 H0 tr δ (enc a)) (hp : pre a) : EvX K B0 H0 (fun cls d _ H => R cls d H) (tCall (SpX K enc pre bad post) [] R tr) δ (fun d => bad a = none ∧ post a d) (fun C => bad a = some C) := fun B H σ S hx Q q =>
  h B H σ S _ fun vs B1 H1 s1 i1 => ⟨B1, a, s1.bh, by rw [List.append_nil]; exact i1, hp, fun C hC H' e => hx C B1 H' (s1.trans (.same s1.bh e)) hC, fun hb v d B2 H2 p st dv => q v d B2 H2 ⟨hb, p⟩ (s1.trans st) dv⟩
theorem x_callS {A : Type} {enc : A → List Sl} {pre : A → Prop} {bad : A → Option Addr} {post : A → PyData → Prop} {tr : TA} (a : A) (h : EvA K B0 H0 tr δ (enc a)) (hp : pre a) : EvX K B0 H0 W (tCallS (SpX K enc pre bad post) (WE W) tr) δ (fun d => bad a = none ∧ post a d) (fun C => bad a = some C) := fun B H σ S hx Q q =>
  h B H σ S _ fun vs B1 H1 s1 i1 => ⟨B1, a, s1.bh, i1, hp, fun C hC H' e => hx C B1 H' (s1.trans (.same s1.bh e)) hC, fun hb v d B2 H2 p st dv => q v d B2 H2 ⟨hb, p⟩ (s1.trans st) dv⟩
theorem sd_asgX {n : Nat} {P : PyData → Prop} {ex : Addr → Prop} (h : EvX K B0 H0 W te δ P ex) (hx : ∀ C, ex C → E.ex C δ) (k : ∀ d, P d → E.nx (δ.set n (.dat d))) : SD K B0 H0 W (tAsg te (gName n)) δ E := fun D B H σ S L =>
  h B H σ S (fun C B' H' st hC => L.ex C B' H' σ δ st.b (S.go st) (hx C hC)) _ fun v d B1 H1 p s1 i1 => L.nx B1 H1 _ _ s1.b ((S.go s1).set (s := .dat d) n i1) (k d p)
theorem sd_retX {P : PyData → Prop} {ex : Addr → Prop} (h : EvX K B0 H0 W te δ P ex) (hx : ∀ C, ex C → E.ex C δ) (k : ∀ d, P d → E.rt d) : SD K B0 H0 W (tRet te) δ E := fun D B H σ S L =>
  h B H σ S (fun C B' H' st hC => L.ex C B' H' σ δ st.b (S.go st) (hx C hC)) _ fun v d B1 H1 p s1 i1 => L.rt v d B1 H1 s1.b (S.st.trans s1) i1 (k d p)
/-- try: .. except X as e: a suite -/
def tTry (K : PySem.W.Frag) (c : Value) (n : Nat) (tb : WX → TS) (ts : Addr → Value → Option Addr → TS) (W : WX) : TS := fun D σ H => tb (wAs K c n ts W D) D σ H
theorem ps_tryD {X : Cx} {x nm : Str} {c : Value} {i : Nat} {body suite : List Stmt} {b₀ : Stmt} {np pos pos' : Pos} {tb : WX → TS} {ts : Addr → Value → Option Addr → TS} {Wout : WX} (hs : X.stack = X.env :: X.outer) (hf : X.env.frame = some X.env.locals) (hN : X.N.Nodup) (hi : X.N[i]? = some nm) (hln : X.env.kindOf nm = some .local) (hc : Names X x c) (tk : Takes X Wout)
    (hb : ∀ (W : WX) (pn : List (Addr × Obj)) (xe : Value → Shared → Prop), Takes (X.tr pn xe) W → PassesOwn (model X.prog X.w) X.A X.env xe → PSs (X.tr pn xe) body (tb W))
    (hsu : ∀ (a : Addr) (oe : Obj) (cls : Value) (d : Option Addr) (pn : List (Addr × Obj)), Zc cls d oe → (∃ vs, oe.data = .fields vs) → PSs (X.suite a ((a, oe) :: pn)) (b₀ :: suite) (ts a cls d)) :
    PS X (.Try body [.ExceptHandler (some (.Name x np)) (some nm) (b₀ :: suite) pos'] [] [] pos) (tTry X.K c i tb ts Wout) := ps_try_as hs hf hN hi hln hc tk hb hsu
theorem sd_try {n : Nat} {c : Value} {tb : WX → TS} {ts : Addr → Value → Option Addr → TS} (xs : Addr → List Sl → Prop) (h : ∀ W', SD K B0 H0 W' (tb W') δ { E with ex := xs })
    (hx : ∀ C δ', xs C δ' → PySem.W.exmOne K (.ref C) c = some true ∧ ∀ a, SD K B0 H0 W (ts a (.ref C) none) (δ'.set n (.raw (.ref a))) { E with nx := fun δ2 => E.nx (δ2.set n Sl.no), bk := fun δ2 => E.bk (δ2.set n Sl.no), ct := fun δ2 => E.ct (δ2.set n Sl.no) }) :
    SD K B0 H0 W (tTry K c n tb ts W) δ E := fun D B H σ S L =>
  h _ D B H σ S ⟨L.nx, L.rt, L.bk, L.ct, fun C B' H' σ' δ' e S' hC => by
    obtain ⟨h1, h2⟩ := hx C δ' hC
    refine ⟨true, h1, fun _ a ha => ?_, fun z => by cases z⟩
    have L' := L.mono e
    exact h2 a _ B' H' _ (S'.set (s := .raw (.ref a)) n rfl) ⟨fun B2 H2 σ2 δ2 e2 S2 p => L'.nx B2 H2 _ _ e2 (S2.put n none) p, L'.rt, fun B2 H2 σ2 δ2 e2 S2 p => L'.bk B2 H2 _ _ e2 (S2.put n none) p, fun B2 H2 σ2 δ2 e2 S2 p => L'.ct B2 H2 _ _ e2 (S2.put n none) p, L'.ex, L'.ro⟩, L.ro⟩
/-! ### a statement, then the rest -/
theorem q_asg {n : Nat} (δ1 : List Sl) (h : EvS K B0 H0 te δ s) (k : SD K B0 H0 W u δ1 E) (he : δ.set n s = δ1 := by rfl) : SD K B0 H0 W (tSeq (tAsg te (gName n)) u) δ E := sd_seq (sd_asg h (by subst he; exact k))
theorem q_asgO {n : Nat} (δ1 : List Sl) (h : EvN K B0 H0 te δ ds) (k : SD K B0 H0 W u δ1 E) (he : δ.set n (.own ds) = δ1 := by rfl) : SD K B0 H0 W (tSeq (tAsg te (gName n)) u) δ E := sd_seq (sd_asgO h (by subst he; exact k))
theorem q_asgR {n : Nat} {P : PyData → Prop} (h : EvR K B0 H0 te δ P) (k : ∀ d, P d → SD K B0 H0 W u (δ.set n (.dat d)) E) : SD K B0 H0 W (tSeq (tAsg te (gName n)) u) δ E := sd_seq (sd_asgR h k)
theorem q_asgX {n : Nat} {P : PyData → Prop} {ex : Addr → Prop} (h : EvX K B0 H0 W te δ P ex) (hx : ∀ C, ex C → E.ex C δ) (k : ∀ d, P d → SD K B0 H0 W u (δ.set n (.dat d)) E) : SD K B0 H0 W (tSeq (tAsg te (gName n)) u) δ E := sd_seq (sd_asgX h hx k)
theorem q_unp {g : TG} {ix : List Nat} (δ1 : List Sl) (h : EvS K B0 H0 te δ (.dat d)) (hg : TGd K B0 H0 g ix δ d δ1) (k : SD K B0 H0 W u δ1 E) : SD K B0 H0 W (tSeq (tAsg te g) u) δ E := sd_seq (sd_unp h hg k)
/-- an if that leaves, or goes on -/
theorem q_when (h : EvB K B0 H0 tt δ b) (h1 : b = true → SD K B0 H0 W t δ { E with nx := fun δ' => SD K B0 H0 W u δ' E }) (h2 : b = false → SD K B0 H0 W u δ E) : SD K B0 H0 W (tSeq (tIfS tt t tNext) u) δ E := sd_seq (sd_if h h1 fun hb => sd_next (h2 hb))
theorem q_if {t' : TS} (h : EvB K B0 H0 tt δ b) (h1 : b = true → SD K B0 H0 W t δ { E with nx := fun δ' => SD K B0 H0 W u δ' E }) (h2 : b = false → SD K B0 H0 W t' δ { E with nx := fun δ' => SD K B0 H0 W u δ' E }) : SD K B0 H0 W (tSeq (tIfS tt t t') u) δ E := sd_seq (sd_if h h1 h2)
theorem sd_when (h : EvB K B0 H0 tt δ b) (h1 : b = true → SD K B0 H0 W t δ E) (h2 : b = false → E.nx δ) : SD K B0 H0 W (tIfS tt t tNext) δ E := sd_if h h1 fun hb => sd_next (h2 hb)
theorem q_drop (h : EvS K B0 H0 te δ s) (k : SD K B0 H0 W u δ E) : SD K B0 H0 W (tSeq (tDrop te) u) δ E := sd_seq (sd_drop h k)
theorem q_app {n : Nat} (δ1 : List Sl) (hn : δ[n]? = some (Sl.own ds)) (h : EvS K B0 H0 te δ (.dat d)) (hz : ds.length < 100000) (k : SD K B0 H0 W u δ1 E) (he : δ.set n (.own (ds ++ [d])) = δ1 := by rfl) : SD K B0 H0 W (tSeq (tDrop (tBM K "list" rAppend (tVar n) (tCons te tNil))) u) δ E := sd_seq (sd_app hn h hz (by subst he; exact k))
theorem q_put {n j : Nat} (δ1 : List Sl) (hn : δ[n]? = some (Sl.own ds)) (h : EvS K B0 H0 te δ (.dat d)) (hj : EvS K B0 H0 tb δ (nI (j : Int))) (hl : j < ds.length) (k : SD K B0 H0 W u δ1 E) (he : δ.set n (.own (ds.set j d)) = δ1 := by rfl) : SD K B0 H0 W (tSeq (tAsg te (gSub (tVar n) tb rSetL)) u) δ E := sd_seq (sd_put hn h hj hl (by subst he; exact k))
theorem q_for {wi : TI} {g : TG} {tb : TS} (hw : EvW K B0 H0 wi δ ds) (P : Nat → List Sl → Prop) (h0 : P 0 δ)
    (hs : ∀ (i : Nat) (d : PyData) (δ' : List Sl), ds[i]? = some d → P i δ' → ∃ ix δ2, TGd K B0 H0 g ix δ' d δ2 ∧ SD K B0 H0 W tb δ2 { E with nx := P (i + 1), ct := P (i + 1), bk := fun δ' => SD K B0 H0 W u δ' E }) (hd : ∀ δ', P ds.length δ' → SD K B0 H0 W u δ' E) : SD K B0 H0 W (tSeq (tFor wi g tb) u) δ E := sd_seq (sd_for hw P h0 hs hd)
theorem q_while {tb : TS} (P : Nat → List Sl → Prop) (m0 : Nat) (h0 : P m0 δ)
    (hs : ∀ (m : Nat) (δ' : List Sl), P m δ' → ∃ b, EvB K B0 H0 tt δ' b ∧ (b = true → SD K B0 H0 W tb δ' { E with nx := fun δ2 => ∃ m', m' < m ∧ P m' δ2, ct := fun δ2 => ∃ m', m' < m ∧ P m' δ2, bk := fun δ' => SD K B0 H0 W u δ' E }) ∧ (b = false → SD K B0 H0 W u δ' E)) : SD K B0 H0 W (tSeq (tWhile tt tb) u) δ E := sd_seq (sd_while P m0 h0 hs)
/-! ### a def's body -/
/-- from the promise to the body by data -/
theorem run_body {A : Type} {enc : A → List Sl} {pre : A → Prop} {post : A → PyData → Prop} {N : List Str} {vs : List V} {Q : VK} {R : XK} {ts : TS} (h : SpA K enc pre post vs H Q R)
    (hb : ∀ a B, pre a → SD K B H (fun _ _ _ _ => False) ts (enc a ++ List.replicate (N.length - (enc a).length) Sl.no) { nx := fun _ => post a .none, rt := post a }) : ts { nx := fun _ H' => Q .non H', rt := Q } (L2.start N vs) H := by
  obtain ⟨B, a, e, iv, hp, q⟩ := h
  have S := sc_start (N.length - vs.length) e iv
  have hl := iv.len
  have hb' := hb a B hp
  rw [← hl] at hb'
  exact hb' _ B H _ S ⟨fun B' H' σ' δ' _ S' hp => q .non .none B' H' hp S'.st .non, fun v d B' H' _ st dv hp => q v d B' H' hp st dv, fun _ _ _ _ _ _ z => z.elim, fun _ _ _ _ _ _ z => z.elim, fun _ _ _ _ _ _ _ z => z.elim, fun _ _ _ _ _ _ _ _ _ _ _ z => z.elim⟩
/-- a def that gives a new list -/
def SpN (K : PySem.W.Frag) {A : Type} (enc : A → List Sl) (pre : A → Prop) (post : A → List PyData → Prop) : Sp := fun vs H Q _ => ∃ B a, Ex B H ∧ IsAll K B vs (enc a) ∧ pre a ∧ ∀ l ws ds B' H', post a ds → Stp B H B' H' → H l = none → B' l = none → H' l = some (.lst ws) → DtAll K B' ws ds → Q (.ref l) H'
theorem nr_call {A : Type} {enc : A → List Sl} {pre : A → Prop} {post : A → List PyData → Prop} {R : XK} {tr : TA} (a : A) (h : EvA K B0 H0 tr δ (enc a)) (hp : pre a) : EvNR K B0 H0 (tCall (SpN K enc pre post) [] R tr) δ (post a) := fun B H σ S Q q =>
  h B H σ S _ fun vs B1 H1 s1 i1 => ⟨B1, a, s1.bh, by rw [List.append_nil]; exact i1, hp, fun l ws ds B2 H2 p st f1 f2 f3 f4 => q l ws ds B2 H2 p (s1.trans st) (none_of s1.h f1) f2 f3 f4⟩
theorem n_call {A : Type} {enc : A → List Sl} {pre : A → Prop} {f : A → List PyData} {R : XK} {tr : TA} (a : A) (h : EvA K B0 H0 tr δ (enc a)) (hp : pre a) : EvN K B0 H0 (tCall (SpN K enc pre fun a ds => ds = f a) [] R tr) δ (f a) := n_of (nr_call a h hp)
theorem run_bodyN {A : Type} {enc : A → List Sl} {pre : A → Prop} {post : A → List PyData → Prop} {N : List Str} {vs : List V} {Q : VK} {R : XK} {ts : TS} (h : SpN K enc pre post vs H Q R)
    (hb : ∀ a B, pre a → SD K B H (fun _ _ _ _ => False) ts (enc a ++ List.replicate (N.length - (enc a).length) Sl.no) { nx := fun _ => False, rt := fun _ => False, ro := post a }) : ts { nx := fun _ H' => Q .non H', rt := Q } (L2.start N vs) H := by
  obtain ⟨B, a, e, iv, hp, q⟩ := h
  have S := sc_start (N.length - vs.length) e iv
  have hl := iv.len
  have hb' := hb a B hp
  rw [← hl] at hb'
  exact hb' _ B H _ S ⟨fun B' H' σ' δ' _ S' hp => hp.elim, fun v d B' H' _ st dv hp => hp.elim, fun _ _ _ _ _ _ z => z.elim, fun _ _ _ _ _ _ z => z.elim, fun _ _ _ _ _ _ _ z => z.elim, fun l vs ds B' H' _ st f1 f2 f3 f4 p => q l vs ds B' H' p st f1 f2 f3 f4⟩
/-- .. of a def that may raise -/
theorem run_bodyX {A : Type} {enc : A → List Sl} {pre : A → Prop} {bad : A → Option Addr} {post : A → PyData → Prop} {N : List Str} {vs : List V} {Q : VK} {R : XK} {ts : TS} (h : SpX K enc pre bad post vs H Q R)
    (hb : ∀ a B, pre a → SD K B H (fun cls d _ H => R cls d H) ts (enc a ++ List.replicate (N.length - (enc a).length) Sl.no) { nx := fun _ => bad a = none ∧ post a .none, rt := fun d => bad a = none ∧ post a d, ex := fun C _ => bad a = some C }) : ts { nx := fun _ H' => Q .non H', rt := Q } (L2.start N vs) H := by
  obtain ⟨B, a, e, iv, hp, qx, q⟩ := h
  have S := sc_start (N.length - vs.length) e iv
  have hl := iv.len
  have hb' := hb a B hp
  rw [← hl] at hb'
  exact hb' _ B H _ S ⟨fun B' H' σ' δ' _ S' hp => q hp.1 .non .none B' H' hp.2 S'.st .non, fun v d B' H' _ st dv hp => q hp.1 v d B' H' hp.2 st dv, fun _ _ _ _ _ _ z => z.elim, fun _ _ _ _ _ _ z => z.elim, fun C B' H' σ' δ' _ S' hC => qx C hC H' S'.st.h, fun _ _ _ _ _ _ _ _ _ _ _ z => z.elim⟩
/-- the law's body: the script at an address -/
theorem run_law {N : List Str} {ns : List Int} {sa : Addr} {Q : VK} {ts : TS} (hS : SqL K H sa (ns.map V.int)) (q : ∀ H', Q (.bl true) H') (hn : N.length = n + 1)
    (hb : ∀ B, SD K B H (fun _ _ _ _ => False) ts (.sem (scrP K ns) :: List.replicate n Sl.no) { nx := fun _ => False, rt := fun d => d = .bool true }) : ts { nx := fun _ H' => Q .non H', rt := Q } (L2.start N [.ref sa]) H := by
  have iv : IsAll K H [V.ref sa] [Sl.sem (scrP K ns)] := .cons ⟨sa, rfl, hS⟩ .nil
  have S := sc_start n (.refl H) iv
  have e : L2.start N [.ref sa] = [V.ref sa].map some ++ List.replicate n none := by
    unfold L2.start
    rw [hn]
    rfl
  rw [e]
  exact hb H _ H H _ S ⟨fun B' H' σ' δ' _ S' hp => hp.elim, fun v d B' H' _ st dv hp => by
    subst hp
    cases dv
    exact q H', fun _ _ _ _ _ _ z => z.elim, fun _ _ _ _ _ _ z => z.elim, fun _ _ _ _ _ _ _ z => z.elim, fun _ _ _ _ _ _ _ _ _ _ _ z => z.elim⟩
end
end Ja

/-! Own data layer: texts, bits, comparisons of ints' tuples. -/
namespace Ja
open PySem PySem.Spec PyProof.Rows L2 Evl Cm Dg Tx
open SX (S S_cat S_len num_S)
open TL (numL numL_lt)
def Sm (n : Nat) : Prop := n < 10 ^ 300
theorem sm_le {n m : Nat} (h : Sm n) (hm : m ≤ n) : Sm m := Nat.lt_of_le_of_lt hm h
theorem sm_of {n k : Nat} (h : n ≤ k) (hk : k < 10 ^ 300) : Sm n := Nat.lt_of_le_of_lt h hk
theorem lg {n k : Nat} (h : n < 2 ^ k) (hk : 0 < k) : n.log2 < k := by
  by_cases h0 : n = 0
  · subst h0
    exact hk
  · exact (Nat.log2_lt h0).mpr h
theorem sm_lg {n : Nat} (h : Sm n) : n.log2 < 1920 := lg (Nat.lt_of_lt_of_le h (by decide +kernel)) (by decide)
theorem sm_len {n : Nat} (h : Sm n) : (numL n).length ≤ 300 := num_len 299 n h
section
variable {K : PySem.W.Frag} {B0 H0 : Hp} {σ : L2.St} {δ : List Sl} {ta tb te to : TE} {a b : List Nat} {i j : Int} {H : Hp}
/-! ### bits -/
theorem rv_and1 : RV (fun x y H Q => ∃ (i : Int) (k : Nat), x = .int i ∧ y = .int (2 ^ k - 1) ∧ Q (.int (i % 2 ^ k)) H) (.int i) (.int 1) H (.int (i % 2)) := fun H1 _ _ q => ⟨i, 1, rfl, rfl, q H1 (Ex.refl H1)⟩
theorem d_and1 (ha : EvS K B0 H0 ta δ (nI i)) (hb : EvS K B0 H0 tb δ (nI 1)) : EvS K B0 H0 (tOp (fun x y H Q => ∃ (i : Int) (k : Nat), x = .int i ∧ y = .int (2 ^ k - 1) ∧ Q (.int (i % 2 ^ k)) H) ta tb) δ (nI (i % 2)) := d_ii ha hb fun _ => rv_and1
theorem d_shr {k : Nat} (ha : EvS K B0 H0 ta δ (nI i)) (hb : EvS K B0 H0 tb δ (nI (k : Int))) : EvS K B0 H0 (tOp (fun x y H Q => ∃ (i : Int) (k : Nat), x = .int i ∧ y = .int (k : Int) ∧ Q (.int (i / 2 ^ k)) H) ta tb) δ (nI (i / 2 ^ k)) := d_ii ha hb fun _ => rv_shr
theorem d_shl {k : Nat} (ha : EvS K B0 H0 ta δ (nI i)) (hb : EvS K B0 H0 tb δ (nI (k : Int))) (h : CShl i (k : Int)) : EvS K B0 H0 (tOp (fun x y H Q => ∃ (i : Int) (k : Nat), x = .int i ∧ y = .int (k : Int) ∧ CShl i (k : Int) ∧ Q (.int (i * 2 ^ k)) H) ta tb) δ (nI (i * 2 ^ k)) := d_ii ha hb fun _ => rv_shl h
theorem d_one {k : Nat} (ha : EvS K B0 H0 ta δ (nI 1)) (hb : EvS K B0 H0 tb δ (nI (k : Int))) (h : k ≤ 100000) : EvS K B0 H0 (tOp (fun x y H Q => ∃ k : Nat, x = .int 1 ∧ y = .int (k : Int) ∧ k ≤ 134217727 ∧ Q (.int (2 ^ k)) H) ta tb) δ (nI (2 ^ k)) := d_ii ha hb fun _ H1 _ Q q => ⟨k, rfl, rfl, by omega, q H1 (Ex.refl H1)⟩
theorem d_fdivA (ha : EvS K B0 H0 ta δ (nI i)) (hb : EvS K B0 H0 tb δ (nI j)) (h : 0 < j) (h2 : j.natAbs.log2 < 9000) : EvS K B0 H0 (tOp (rI Mi.CDivA fun i j => .int (i.fdiv j)) ta tb) δ (nI (i / j)) := d_isI (d_iC ha hb ⟨by omega, h2⟩) (Int.fdiv_eq_ediv_of_nonneg i (Int.le_of_lt h))
/-! ### texts -/
theorem d_cat (ha : EvS K B0 H0 ta δ (nS (S a))) (hb : EvS K B0 H0 tb δ (nS (S b))) (h : a.length + b.length ≤ 100000) : EvS K B0 H0 (tOp (fun x y H Q => ∃ i j, x = .str i ∧ y = .str j ∧ i.length + j.length ≤ sizeLine ∧ Q (.str (i ++ j)) H) ta tb) δ (nS (S (a ++ b))) := d_sss ha hb fun _ H1 _ Q q => ⟨S a, S b, rfl, rfl, by
  rw [S_len, S_len]
  exact sz_of h, by
  rw [S_cat]
  exact q H1 (Ex.refl H1)⟩
theorem d_strN {n : Nat} (h : EvS K B0 H0 te δ (nI (n : Int))) (hs : Sm n) : EvS K B0 H0 (tCB (fun xs H Q => ∃ i, xs = [.int i] ∧ i.natAbs.log2 < 1920 ∧ Q (.str (toString i)) H) (tCons te tNil)) δ (nS (S (numL n))) := d_cb1 h (.int _) (fun _ H1 _ Q q => ⟨(n : Int), rfl, sm_lg hs, by
  have e := num_S n
  show Q (.str (Str.ofString (toString (n : Int)))) H1
  rw [e]
  exact q H1 (Ex.refl H1)⟩) (.str _)
theorem d_join {ys : List (List Nat)} (ho : EvS K B0 H0 to δ (nS (S a))) (h : EvS K B0 H0 te δ (.dat (.list (ys.map fun y => PyData.str (S y))))) (hz : (ys.map (·.length)).sum + ys.length * a.length ≤ 100000) : EvS K B0 H0 (tM1 (fun x xs H Q => ∃ a p, ∃ ys : List Str, x = .str a ∧ xs = [.ref p] ∧ (SqL K H p (ys.map V.str) ∨ SqT K H p (ys.map V.str)) ∧
    (ys.map (·.length)).sum + ys.length * a.length ≤ 16777216 ∧ Q (.str (Txt.join a ys)) H) to te) δ (nS (S (TL.joinL a ys))) := fun B H σ Z Q q => ho B H σ Z _ fun v B1 H1 s1 i1 => by
  cases i1
  refine ⟨⟨_, rfl⟩, h B1 H1 σ (Z.go s1) _ fun w B2 H2 s2 i2 => ?_⟩
  cases i2 with
  | lst g1 g2 =>
    have e : ys.map (fun y => PyData.str (S y)) = (ys.map S).map PyData.str := by rw [List.map_map]; rfl
    rw [e] at g2
    rw [dt_strs_inv _ g2] at g1
    refine ⟨S a, _, ys.map S, rfl, rfl, .inl (sq_of (s2.bh _ _ g1)), ?_, ?_⟩
    · rw [SX.lens, List.length_map, S_len]
      omega
    · rw [SX.join_S]
      exact q _ B2 H2 (s1.trans s2) (Dt.str _)
theorem d_ixStr {c : Nat} (ha : EvS K B0 H0 ta δ (nS (S a))) (hb : EvS K B0 H0 tb δ (nI i)) (hz : a.length ≤ 100000) (h : atI a i = some c) : EvS K B0 H0 (tOp rIxS ta tb) δ (nS (S [c])) := d_sis ha hb fun _ H1 _ Q q => ⟨S a, i, c, rfl, rfl, by rw [S_len]; exact sz_of hz, by simpa using h, q H1 (Ex.refl H1)⟩
theorem signs_S (a : List Nat) : signs (S a) = a.map fun c => PyData.str (S [c]) := by
  unfold signs
  simp
theorem d_notInS {c : Nat} (ha : EvS K B0 H0 ta δ (nS (S [c]))) (hb : EvS K B0 H0 tb δ (nS (S a))) : EvS K B0 H0 (tOp (fun x y H Q => ∃ (c : Nat) (z : Str), x = .str ⟨#[c]⟩ ∧ y = .str z ∧ Q (.bl (!decide (c ∈ z.cps.toList))) H) ta tb) δ (nB (!decide (c ∈ a))) := d_ssb ha hb fun _ H1 _ Q q => ⟨c, S a, rfl, rfl, by simpa using q H1 (Ex.refl H1)⟩
theorem d_intS {n : Int} (h : EvS K B0 H0 te δ (nS (S a))) (hn : PySem.intText? (S a) = some n) (hz : a.length ≤ 640) : EvS K B0 H0 (tCB (fun xs H Q => ∃ a n, xs = [.str a] ∧ PySem.intText? a = some n ∧ a.length ≤ 640 ∧ Q (.int n) H) (tCons te tNil)) δ (nI n) := d_cb1 h (.str _) (fun _ H1 _ Q q => ⟨S a, n, rfl, hn, by rw [S_len]; exact hz, q H1 (Ex.refl H1)⟩) (.int _)
theorem d_lenSS {ta : TE} (h : EvS K B0 H0 ta δ (nS (S a))) (hl : a.length ≤ 100000) : EvS K B0 H0 (tCB (fun xs H Q => ∃ x n, xs = [x] ∧ LenV K x H n ∧ Q (.int n) H) (tCons ta tNil)) δ (nI a.length) := by
  have := d_lenS (K := K) (B0 := B0) (H0 := H0) h (by rw [S_len]; exact hl)
  rwa [S_len] at this
theorem d_eqSS (ha : EvS K B0 H0 ta δ (nS (S a))) (hb : EvS K B0 H0 tb δ (nS (S b))) : EvS K B0 H0 (tOp rEq ta tb) δ (nB (decide (a = b))) := d_isB (d_eqS ha hb) (decide_eq_decide.mpr ⟨SX.S_inj, fun z => by rw [z]⟩)
theorem d_neSS (ha : EvS K B0 H0 ta δ (nS (S a))) (hb : EvS K B0 H0 tb δ (nS (S b))) : EvS K B0 H0 (tOp rNe ta tb) δ (nB (!decide (a = b))) := d_isB (d_neS ha hb) (congrArg _ (decide_eq_decide.mpr ⟨SX.S_inj, fun z => by rw [z]⟩))
end
/-! ### data without dicts, not deep: shaped -/
theorem lay_ints : ∀ (is : List Int), PyData.canLayAll0 (is.map PyData.int) = true
  | [] => rfl
  | i :: r => by
    show (PyData.canLay0 (.int i) && PyData.canLayAll0 (r.map PyData.int)) = true
    rw [lay_ints r]
    rfl
theorem dep_ints : ∀ (is : List Int), PyData.depthAll (is.map PyData.int) = 0
  | [] => rfl
  | i :: r => by
    show max 0 (PyData.depthAll (r.map PyData.int)) = 0
    rw [dep_ints r]
    rfl
/-- laid, and at most n deep -/
def Shp (n : Nat) (d : PyData) : Prop := PyData.canLay0 d = true ∧ PyData.depth d ≤ n
def ShpAll (n : Nat) (ds : List PyData) : Prop := PyData.canLayAll0 ds = true ∧ PyData.depthAll ds ≤ n
theorem Shp.ok {n : Nat} {d : PyData} (h : Shp n d) (hn : n ≤ 64 := by decide) : SeqAt.shaped d = true := by
  unfold SeqAt.shaped
  rw [h.1, Bool.true_and]
  exact decide_eq_true (Nat.le_trans h.2 hn)
theorem shp_int {n : Nat} (i : Int) : Shp n (.int i) := ⟨rfl, Nat.zero_le _⟩
theorem shp_str {n : Nat} (i : Str) (h : PyData.canLay0 (.str i) = true := by decide) : Shp n (.str i) := ⟨h, Nat.zero_le _⟩
theorem shp_bool {n : Nat} (b : Bool) : Shp n (.bool b) := ⟨rfl, Nat.zero_le _⟩
theorem shp_none {n : Nat} : Shp n .none := ⟨rfl, Nat.zero_le _⟩
theorem shp_nil {n : Nat} : ShpAll n [] := ⟨rfl, Nat.zero_le _⟩
theorem shp_cons {n : Nat} {d : PyData} {ds : List PyData} (h : Shp n d) (g : ShpAll n ds) : ShpAll n (d :: ds) := ⟨by
  show (PyData.canLay0 d && PyData.canLayAll0 ds) = true
  rw [h.1, g.1]
  rfl, by
  show max (PyData.depth d) (PyData.depthAll ds) ≤ n
  have := h.2
  have := g.2
  omega⟩
theorem shp_tup {n : Nat} {ds : List PyData} (h : ShpAll n ds) : Shp (n + 1) (.tuple ds) := ⟨h.1, Nat.succ_le_succ h.2⟩
theorem shp_lst {n : Nat} {ds : List PyData} (h : ShpAll n ds) : Shp (n + 1) (.list ds) := ⟨h.1, Nat.succ_le_succ h.2⟩
theorem shp_map {A : Type} {n : Nat} {f : A → PyData} (h : ∀ x, Shp n (f x)) : ∀ xs : List A, ShpAll n (xs.map f)
  | [] => shp_nil
  | x :: r => shp_cons (h x) (shp_map h r)
theorem eqv_self {d : PyData} (h : SeqAt.shaped d = true) : PyData.eqv d d = true := eqvS h
/-- a function to data by which equal data come from equal things -/
structure Enc {A : Type} [DecidableEq A] (f : A → PyData) : Prop where
  eq : ∀ x y, PyData.eqv (f x) (f y) = decide (x = y)
  sh : ∃ n, n ≤ 30 ∧ ∀ x, Shp n (f x)
theorem eqv_map {A : Type} [DecidableEq A] {f : A → PyData} (h : ∀ x y, PyData.eqv (f x) (f y) = decide (x = y)) : ∀ l m : List A, PyData.eqvAll (l.map f) (m.map f) = decide (l = m)
  | [], [] => rfl
  | [], _ :: _ => rfl
  | _ :: _, [] => rfl
  | a :: l, b :: m => by
    have e : PyData.eqvAll ((a :: l).map f) ((b :: m).map f) = (PyData.eqv (f a) (f b) && PyData.eqvAll (l.map f) (m.map f)) := by simp only [List.map_cons, PyData.eqvAll]
    rw [e, h, eqv_map h l m]
    by_cases h1 : a = b
    · by_cases h2 : l = m
      · simp [h1, h2]
      · simp [h1, h2]
    · simp [h1]
theorem any_map {A : Type} [DecidableEq A] {f : A → PyData} (h : ∀ x y, PyData.eqv (f x) (f y) = decide (x = y)) (x : A) : ∀ l : List A, ((l.map f).any fun z => PyData.eqv z (f x)) = decide (x ∈ l)
  | [] => rfl
  | a :: l => by
    rw [List.map_cons, List.any_cons, any_map h x l, h]
    by_cases h1 : a = x
    · simp [h1]
    · have h2 : ¬ x = a := fun z => h1 z.symm
      simp [h1, h2]
section
variable {K : PySem.W.Frag} {B0 H0 : Hp} {δ : List Sl} {ta tb : TE} {A : Type} [DecidableEq A] {f : A → PyData} {x y : A} {l m : List A}
theorem Enc.shx (h : Enc f) (x : A) : SeqAt.shaped (f x) = true := by
  obtain ⟨n, h1, h2⟩ := h.sh
  exact (h2 x).ok (by omega)
theorem Enc.shl (h : Enc f) (l : List A) : SeqAt.shaped (.list (l.map f)) = true := by
  obtain ⟨n, h1, h2⟩ := h.sh
  exact (shp_lst (shp_map h2 l)).ok (by omega)
theorem d_eqE (h : Enc f) (ha : EvS K B0 H0 ta δ (.dat (f x))) (hb : EvS K B0 H0 tb δ (.dat (f y))) : EvS K B0 H0 (tOp (rEqD K) ta tb) δ (nB (decide (x = y))) := d_isB (d_eqD ha hb (h.shx x) (h.shx y)) (h.eq x y)
theorem d_neE (h : Enc f) (ha : EvS K B0 H0 ta δ (.dat (f x))) (hb : EvS K B0 H0 tb δ (.dat (f y))) : EvS K B0 H0 (tOp (rNeD K) ta tb) δ (nB (!decide (x = y))) := d_isB (d_neD ha hb (h.shx x) (h.shx y)) (by rw [h.eq x y])
theorem d_eqEL (h : Enc f) (ha : EvS K B0 H0 ta δ (.dat (.list (l.map f)))) (hb : EvS K B0 H0 tb δ (.dat (.list (m.map f)))) : EvS K B0 H0 (tOp (rEqD K) ta tb) δ (nB (decide (l = m))) := d_isB (d_eqD ha hb (h.shl l) (h.shl m)) (by
  have e : PyData.eqv (.list (l.map f)) (.list (m.map f)) = PyData.eqvAll (l.map f) (m.map f) := by simp only [PyData.eqv]
  rw [e, eqv_map h.eq])
theorem d_neEL (h : Enc f) (ha : EvS K B0 H0 ta δ (.dat (.list (l.map f)))) (hb : EvS K B0 H0 tb δ (.dat (.list (m.map f)))) : EvS K B0 H0 (tOp (rNeD K) ta tb) δ (nB (!decide (l = m))) := d_isB (d_neD ha hb (h.shl l) (h.shl m)) (by
  have e : PyData.eqv (.list (l.map f)) (.list (m.map f)) = PyData.eqvAll (l.map f) (m.map f) := by simp only [PyData.eqv]
  rw [e, eqv_map h.eq])
theorem d_inE (h : Enc f) (ha : EvS K B0 H0 ta δ (.dat (f x))) (hb : EvS K B0 H0 tb δ (.dat (.list (l.map f)))) : EvS K B0 H0 (tOp (rInD K) ta tb) δ (nB (decide (x ∈ l))) := d_isB (d_inD ha hb (h.shx x) (h.shl l)) (any_map h.eq x l)
theorem d_niE (h : Enc f) (ha : EvS K B0 H0 ta δ (.dat (f x))) (hb : EvS K B0 H0 tb δ (.dat (.list (l.map f)))) : EvS K B0 H0 (tOp (rNotInD K) ta tb) δ (nB (!decide (x ∈ l))) := d_isB (d_niD ha hb (h.shx x) (h.shl l)) (by rw [any_map h.eq x l])
/-- the same data on both sides -/
theorem d_neSame {d : PyData} (ha : EvS K B0 H0 ta δ (.dat d)) (hb : EvS K B0 H0 tb δ (.dat d)) (h : SeqAt.shaped d = true) : EvS K B0 H0 (tOp (rNeD K) ta tb) δ (nB false) := d_isB (d_neD ha hb h h) (by rw [eqv_self h]; rfl)
theorem d_eqSame {d : PyData} (ha : EvS K B0 H0 ta δ (.dat d)) (hb : EvS K B0 H0 tb δ (.dat d)) (h : SeqAt.shaped d = true) : EvS K B0 H0 (tOp (rEqD K) ta tb) δ (nB true) := d_isB (d_eqD ha hb h h) (eqv_self h)
end
theorem enc_ints : Enc (fun l : List Int => PyData.tuple (l.map PyData.int)) := by
  refine ⟨fun x y => ?_, ⟨1, by decide, fun x => ⟨lay_ints x, by
    show PyData.depthAll (x.map PyData.int) + 1 ≤ 1
    rw [dep_ints]
    omega⟩⟩⟩
  have e : PyData.eqv (.tuple (x.map PyData.int)) (.tuple (y.map PyData.int)) = PyData.eqvAll (x.map PyData.int) (y.map PyData.int) := by simp only [PyData.eqv]
  rw [e, eqv_map fun a b => ?_]
  show (a == b) = _
  rfl
end Ja

/-! Own data layer: comprehensions of two clauses. -/
namespace Ja
open PySem PySem.Spec PyProof.Rows L2 Evl Cm
def noOwn : List Sl → Bool
  | [] => true
  | .own _ :: _ => false
  | _ :: r => noOwn r
theorem noOwn_at : ∀ {δ : List Sl}, noOwn δ = true → ∀ {n : Nat} {ds : List PyData}, δ[n]? ≠ some (Sl.own ds)
  | [], _, n, ds, e => by simp at e
  | .no :: r, h, 0, ds, e => by cases e
  | .raw _ :: r, h, 0, ds, e => by cases e
  | .dat _ :: r, h, 0, ds, e => by cases e
  | .sem _ :: r, h, 0, ds, e => by cases e
  | .own _ :: r, h, _, ds, e => by cases h
  | .no :: r, h, n + 1, ds, e => noOwn_at (δ := r) h (n := n) e
  | .raw _ :: r, h, n + 1, ds, e => noOwn_at (δ := r) h (n := n) e
  | .dat _ :: r, h, n + 1, ds, e => noOwn_at (δ := r) h (n := n) e
  | .sem _ :: r, h, n + 1, ds, e => noOwn_at (δ := r) h (n := n) e
/-- a list at D that grows, over the base B1 and the heap H1 -/
def Grow (K : PySem.W.Frag) (B1 H1 : Hp) (D : Addr) (H : Hp) (ds : List PyData) : Prop := ∃ B' ws, Ex B1 B' ∧ Ex B' H ∧ Ex H1 H ∧ (∀ a, B' a ≠ none → B1 a ≠ none ∨ H1 a = none) ∧ B' D = none ∧ H D = some (.lst ws) ∧ DtAll K B' ws ds
section
variable {K : PySem.W.Frag} {B0 H0 B H B' H' B1 H1 : Hp} {σ : L2.St} {δ δ1 δ2 : List Sl} {ta tb tc td te : TE} {tt : TT} {d e : PyData} {ds es : List PyData} {D : Addr}
theorem Grow.start (hb : Ex B1 H1) (hD : H1 D = none) : Grow K B1 H1 D (upd H1 D (.lst [])) [] :=
  ⟨B1, [], .refl _, Ex.mut hb (none_of hb hD), Ex.new hD, fun a h => .inl h, none_of hb hD, upd_same, .nil⟩
theorem n_lc2 {A A1 : Type} {wi wi1 : TI} {g g1 : TG} {vs vs1 ix ix1 : List Nat} (xs : List A) (enc : A → PyData) (δt : A → List Sl) (ys : A → List A1) (enc1 : A → A1 → PyData) (δu : A → A1 → List Sl) (v : A → A1 → PyData) (hw : EvW K B0 H0 wi δ (xs.map enc)) (hix : ∀ i ∈ ix, i ∈ vs) (hix1 : ∀ i ∈ ix1, i ∈ vs1) (hz : (xs.flatMap fun x => (ys x).map (v x)).length ≤ 40000) (hno : ∀ x ∈ xs, noOwn (δt x) = true)
    (hg : ∀ x ∈ xs, TGd K B0 H0 g ix (wipeD δ vs) (enc x) (δt x)) (hw1 : ∀ x ∈ xs, EvW K B0 H0 wi1 (δt x) ((ys x).map (enc1 x))) (hg1 : ∀ x ∈ xs, ∀ y ∈ ys x, TGd K B0 H0 g1 ix1 (wipeD (δt x) vs1) (enc1 x y) (δu x y)) (he : ∀ x ∈ xs, ∀ y ∈ ys x, EvS K B0 H0 te (δu x y) (.dat (v x y))) :
    EvN K B0 H0 (tLc2 wi g tYes wi1 g1 tYes te vs vs1) δ (xs.flatMap fun x => (ys x).map (v x)) := fun B H σ S Q q => by
  refine hw B H σ S _ fun J G Y B1 H1 s1 W hG hY => ?_
  intro D hD
  have hBD : B1 D = none := none_of s1.bh hD
  have S1 : Sc K B0 H0 B1 H1 σ δ := S.go s1
  let P : Nat → Hp → Prop := fun i H' => Grow K B1 H1 D H' ((xs.take i).flatMap fun x => (ys x).map (v x))
  have hlen : (xs.map enc).length = xs.length := List.length_map ..
  have p0 : P 0 (upd H1 D (.lst [])) := by
    show Grow K B1 H1 D (upd H1 D (.lst [])) ((xs.take 0).flatMap fun x => (ys x).map (v x))
    rw [List.take_zero]
    exact Grow.start s1.bh hD
  refine ⟨fun i m H' => m = xs.length - i ∧ i ≤ xs.length ∧ P i H', ⟨xs.length, by simp, Nat.zero_le _, p0⟩, ?_⟩
  rintro i m H2 ⟨rfl, hi, B2, ws, e1, e2, e3, hn, e4, e5, e6⟩
  have gH := hG B2 H2 e1 e2
  by_cases hlt : i < xs.length
  · refine .inr ⟨W.goes i H2 (by rw [hlen]; exact hlt) gH, P (i + 1), fun H' p' => ⟨xs.length - (i + 1), by omega, rfl, hlt, p'⟩, fun x H3 yl => ?_⟩
    have y := W.yields i H2 x H3 (by rw [hlen]; exact hlt) gH yl
    have hx : (xs.map enc)[i]? = some (enc xs[i]) := by rw [List.getElem?_map, List.getElem?_eq_getElem hlt]; rfl
    obtain ⟨B3, s3, dx⟩ := hY i H2 x H3 B2 _ hx e1 e2 y
    have hmem : xs[i] ∈ xs := List.getElem_mem hlt
    have hDn : H2 D ≠ none := by rw [e5]; exact fun z => by cases z
    have keepD : ∀ {B5 H5 : Hp}, Stp B2 H2 B5 H5 → B5 D = none := fun {B5 H5} s5 => by
      cases e : B5 D with
      | none => rfl
      | some o =>
        rcases s5.n D (by rw [e]; exact fun z => by cases z) with z | z
        · exact absurd e4 z
        · exact absurd z hDn
    have st12 : Stp B1 H1 B2 H2 := ⟨e1, e2, e3, hn⟩
    have S3 : Sc K B0 H0 B3 H3 σ δ := (S1.go st12).go s3
    refine hg _ hmem B3 H3 (wipe σ vs) x (S3.wipe vs) dx _ fun σ2 S2 w2 => ⟨?_, ?_⟩
    · rw [w2 vs hix]
      exact wipe_id fun _ h => h
    · simp only [tYes, if_true]
      refine hw1 _ hmem B3 H3 σ2 S2 _ fun J1 G1 Y1 B4 H4 s4 W1 hG1 hY1 => ?_
      have s24 := s3.trans s4
      have hlen1 : ((ys xs[i]).map (enc1 xs[i])).length = (ys xs[i]).length := List.length_map ..
      let pre := (xs.take i).flatMap fun x => (ys x).map (v x)
      -- the inner loop: over the base B4 all the while
      let P1 : Nat → Hp → Prop := fun j H' => ∃ B' ws, Ex B4 B' ∧ Ex B' H' ∧ Ex H1 H' ∧ (∀ a, B' a ≠ none → B1 a ≠ none ∨ H1 a = none) ∧ B' D = none ∧ H' D = some (.lst ws) ∧ DtAll K B' ws (pre ++ ((ys xs[i]).take j).map (v xs[i]))
      have tk : xs.take (i + 1) = xs.take i ++ [xs[i]] := by rw [List.take_succ, List.getElem?_eq_getElem hlt]; rfl
      refine ⟨fun j k H' => k = (ys xs[i]).length - j ∧ j ≤ (ys xs[i]).length ∧ P1 j H', ⟨_, rfl, Nat.zero_le _, ?_⟩, ?_⟩
      · refine ⟨B4, ws, .refl _, s24.bh, e3.trans s24.h, (st12.trans s24).n, keepD s24, s24.h _ _ e5, ?_⟩
        rw [List.take_zero, List.map_nil, List.append_nil]
        exact dts_mono s24.b _ _ e6
      · rintro j k H5 ⟨rfl, hj, B5, us, f1, f2, f3, fn, f4, f5, f6⟩
        have gH1 := hG1 B5 H5 f1 f2
        by_cases hjl : j < (ys xs[i]).length
        · refine .inr ⟨W1.goes j H5 (by rw [hlen1]; exact hjl) gH1, P1 (j + 1), fun H' p' => ⟨(ys xs[i]).length - (j + 1), by omega, rfl, hjl, p'⟩, fun z H6 zl => ?_⟩
          have yz := W1.yields j H5 z H6 (by rw [hlen1]; exact hjl) gH1 zl
          have hz1 : ((ys xs[i]).map (enc1 xs[i]))[j]? = some (enc1 xs[i] (ys xs[i])[j]) := by rw [List.getElem?_map, List.getElem?_eq_getElem hjl]; rfl
          obtain ⟨B6, s6, dz⟩ := hY1 j H5 z H6 B5 _ hz1 f1 f2 yz
          have hm1 : (ys xs[i])[j] ∈ ys xs[i] := List.getElem_mem hjl
          have hDn5 : H5 D ≠ none := by rw [f5]; exact fun z => by cases z
          have keep5 : ∀ {B7 H7 : Hp}, Stp B5 H5 B7 H7 → B7 D = none := fun {B7 H7} s7 => by
            cases e : B7 D with
            | none => rfl
            | some o =>
              rcases s7.n D (by rw [e]; exact fun z => by cases z) with z | z
              · exact absurd f4 z
              · exact absurd z hDn5
          have st15 : Stp B1 H1 B5 H5 := ⟨(st12.trans s24).b.trans f1, f2, f3, fn⟩
          -- the slots within: σ2 over δt
          have S5 : Sc K B0 H0 B5 H5 σ2 (δt xs[i]) := by
            have S4 := S2.go s4
            refine ⟨S1.st.trans st15, S4.len, fun n t ht hv => ?_, fun n ds hd => ?_, S4.dis⟩
            · obtain ⟨w, q1, q2⟩ := S4.val n t ht hv
              exact ⟨w, q1, q2.mono f1⟩
            · exact absurd hd (noOwn_at (hno _ hmem))
          have S6 := S5.go s6
          refine hg1 _ hmem _ hm1 B6 H6 (wipe σ2 vs1) z (S6.wipe vs1) dz _ fun σ3 T3 w3 => ⟨?_, ?_⟩
          · rw [w3 vs1 hix1]
            exact wipe_id fun _ h => h
          · refine he _ hmem _ hm1 B6 H6 σ3 T3 _ fun u B7 H7 s7 i7 => ?_
            have s57 := s6.trans s7
            have sAll := st15.trans s57
            refine ⟨us, s57.h _ _ f5, ?_, B7, us ++ [u], f1.trans s57.b, Ex.mut s57.bh (keep5 s57), Ex.mut sAll.h hD, sAll.n, keep5 s57, upd_same, ?_⟩
            · rw [f6.len]
              have h1 : (pre ++ ((ys xs[i]).take j).map (v xs[i])).length ≤ (xs.flatMap fun x => (ys x).map (v x)).length := by
                have e : xs = xs.take i ++ xs[i] :: xs.drop (i + 1) := by rw [← List.drop_eq_getElem_cons hlt, List.take_append_drop]
                have hp : pre.length = ((xs.take i).flatMap fun x => (ys x).map (v x)).length := rfl
                conv => rhs; rw [e]
                rw [List.flatMap_append, List.flatMap_cons, List.length_append, List.length_append, List.length_append, List.length_map, List.length_map, List.length_take]
                omega
              exact sz_lt (by omega)
            · have tk1 : (ys xs[i]).take (j + 1) = (ys xs[i]).take j ++ [(ys xs[i])[j]] := by rw [List.take_succ, List.getElem?_eq_getElem hjl]; rfl
              rw [tk1, List.map_append, ← List.append_assoc]
              exact (dts_mono s57.b _ _ f6).app (.cons i7 .nil)
        · have e : j = (ys xs[i]).length := by omega
          subst e
          refine .inl ⟨by have := W1.stops H5 gH1; rwa [hlen1] at this, ?_⟩
          refine ⟨B5, us, (st12.trans s24).b.trans f1, f2, f3, fn, f4, f5, ?_⟩
          rw [List.take_length] at f6
          rw [tk, List.flatMap_append]
          show DtAll K B5 us (pre ++ ((ys xs[i]).map (v xs[i]) ++ []))
          rw [List.append_nil]
          exact f6
  · have e : i = xs.length := by omega
    subst e
    refine .inl ⟨by have := W.stops H2 gH; rwa [hlen] at this, ?_⟩
    rw [List.take_length] at e6
    exact q D ws B2 H2 (s1.trans ⟨e1, e2, e3, hn⟩) (none_of s1.h hD) e4 e5 e6
end
end Ja

/-! Own data layer: list(zip(xs, ys)) of two lists. -/
namespace Ja
open PySem PySem.Spec PyProof.Rows L2 Evl Cm
theorem zl_nolen : typeLookup (.type "zip") "__len__" = pure none := by rw [typeLookup_type, builtinLookup_eq_fast]; kernel_rfl
theorem zl_nohint : typeLookup (.type "zip") "__length_hint__" = pure none := by rw [typeLookup_type, builtinLookup_eq_fast]; kernel_rfl
/-- the zip at its turn i, whether its tuple was given out or not -/
def ZSt (z TI TO i1 i2 l1 l2 : Addr) (us ws : Array Value) (S : Addr) (i : Nat) (h : Heap) : Prop :=
  IsPair h TI (.ref i1) (.ref i2) ∧ h.IsListIter i1 l1 i ∧ h.IsListIter i2 l2 i ∧ h.IsList l1 us ∧ h.IsList l2 ws ∧
    ((IsZip h z TI TO .none ∧ ∃ a b, IsPair h TO a b) ∨ ∃ T f oT, IsZipHeld h z TI TO T f ∧ h.get? T = some oT ∧ T ≠ z ∧ T ≠ i1 ∧ T ≠ i2 ∧ T ≠ S)
section
variable {z TI TO i1 i2 l1 l2 S : Addr} {us ws : Array Value} {i : Nat} {h h' : Heap}
theorem ZSt.at (st : ZSt z TI TO i1 i2 l1 l2 us ws S i h) (hS : S ∉ [z, TI, TO, i1, i2, l1, l2]) (k : ∀ b o, b ≠ S → h.get? b = some o → h'.get? b = some o) : ZSt z TI TO i1 i2 l1 l2 us ws S i h' := by
  simp only [List.mem_cons, List.not_mem_nil, or_false, not_or] at hS
  obtain ⟨dz, dTI, dTO, di1, di2, dl1, dl2⟩ := hS
  obtain ⟨hTI, h1, h2, hl1, hl2, hz⟩ := st
  refine ⟨k _ _ (Ne.symm dTI) hTI, h1.at fun o e => k _ o (Ne.symm di1) e, h2.at fun o e => k _ o (Ne.symm di2) e, hl1.at fun o e => k _ o (Ne.symm dl1) e, hl2.at fun o e => k _ o (Ne.symm dl2) e, ?_⟩
  rcases hz with ⟨hz, a, b, hTO⟩ | ⟨T, f, oT, hz, hT, r1, r2, r3, r4⟩
  · exact .inl ⟨k _ _ (Ne.symm dz) hz, a, b, k _ _ (Ne.symm dTO) hTO⟩
  · exact .inr ⟨T, f, oT, k _ _ (Ne.symm dz) hz, k _ _ r4 hT, r1, r2, r3, r4⟩
theorem ZSt.ty {s : Shared} (st : ZSt z TI TO i1 i2 l1 l2 us ws S i s.heap) : s.TypeIs (.ref z) "zip" := by
  obtain ⟨_, _, _, _, _, hz⟩ := st
  rcases hz with ⟨hz, _⟩ | ⟨T, f, oT, hz, _⟩
  · exact ⟨_, hz, rfl⟩
  · exact ⟨_, hz, rfl⟩
theorem ZSt.self {prog : Program} {w : World} {A : Around} {s : Shared} {Q : Value → Shared → Prop} {E : Value → Shared → Prop} (st : ZSt z TI TO i1 i2 l1 l2 us ws S i s.heap) (h : Q (.ref z) s) : wpAny (model prog w) A (pyIter (.ref z)) Q E s := by
  have hT := st.ty
  obtain ⟨_, _, _, _, _, hz⟩ := st
  refine wpAny_pyIter_slot hT F.slot_zip_iter (wpAny_call_entry F.slot_zip_iter hT F.entry_zip_iter ?_ (F.args_zip_iter_1 _))
  show wpAny _ _ (ret (.ref z)) _ _ s
  exact wpAny_pure ⟨_, rfl, "zip", _, hT, F.slot_zip_next.lookup, h⟩
/-- the next pair -/
theorem ZSt.item {prog : Program} {w : World} {A : Around} {s : Shared} {x y : Value} {Q : Option Value → Shared → Prop} {E : Value → Shared → Prop} (D : ZipApart z TI TO i1 i2 l1 l2) (st : ZSt z TI TO i1 i2 l1 l2 us ws S i s.heap) (hS : S < s.heap.objs.size) (hx : us[i]? = some x) (hy : ws[i]? = some y)
    (q : ∀ h', ZSt z TI TO i1 i2 l1 l2 us ws S (i + 1) h' → IsPair h' s.heap.objs.size x y → h'.objs.size = s.heap.objs.size + 1 → (∀ b o, b ∉ [z, TI, TO, i1, i2] → s.heap.get? b = some o → h'.get? b = some o) → Q (some (.ref s.heap.objs.size)) { s with heap := h' }) :
    wpAny (model prog w) A (pyNext (.ref z)) Q E s := by
  obtain ⟨hTI, h1, h2, hl1, hl2, hz⟩ := st
  have lt : ∀ {c o}, s.heap.get? c = some o → s.heap.objs.size ≠ c := fun e => Nat.ne_of_gt (Heap.lt_size e)
  have n1 : s.heap.objs.size ≠ i1 := let ⟨_, e, _⟩ := h1; lt e
  have n2 : s.heap.objs.size ≠ i2 := let ⟨_, e, _⟩ := h2; lt e
  rcases hz with ⟨hz, a, b, hTO⟩ | ⟨T, f, oT, hz, hT, r1, r2, r3, r4⟩
  · refine wpAny_pyNext_zip_item D hz hTI hTO h1 h2 hl1 hl2 hx hy fun h' a1 a2 a3 a4 a5 a6 hk => ?_
    exact q h' ⟨hk _ _ D.TIz D.TITO D.TIi1 D.TIi2 hTI, a3, a4, hl1.at fun o e => hk _ o D.l1z D.l1TO D.l1i1 D.l1i2 e, hl2.at fun o e => hk _ o D.l2z D.l2TO D.l2i1 D.l2i2 e,
      .inr ⟨s.heap.objs.size, false, _, a1, a5, lt hz, n1, n2, Nat.ne_of_gt hS⟩⟩ a5 a6 fun c o hc e => hk c o (fun x => hc (by simp [x])) (fun x => hc (by simp [x])) (fun x => hc (by simp [x])) (fun x => hc (by simp [x])) e
  · refine wpAny_pyNext_zip_item_held D hz hT hTI h1 h2 hl1 hl2 hx hy fun h' a1 a3 a4 a5 a6 hk => ?_
    exact q h' ⟨hk _ _ D.TIz D.TIi1 D.TIi2 hTI, a3, a4, hl1.at fun o e => hk _ o D.l1z D.l1i1 D.l1i2 e, hl2.at fun o e => hk _ o D.l2z D.l2i1 D.l2i2 e,
      .inr ⟨T, true, oT, a1, hk _ _ r1 r2 r3 hT, r1, r2, r3, r4⟩⟩ a5 a6 fun c o hc e => hk c o (fun x => hc (by simp [x])) (fun x => hc (by simp [x])) (fun x => hc (by simp [x])) e
theorem ZSt.done {prog : Program} {w : World} {A : Around} {s : Shared} {Q : Option Value → Shared → Prop} {E : Value → Shared → Prop} (hh : A.handled = none) (D : ZipApart z TI TO i1 i2 l1 l2) (st : ZSt z TI TO i1 i2 l1 l2 us ws S i s.heap) (hend : us[i]? = none ∨ ws[i]? = none)
    (q : ∀ h', (∀ b o, b ∉ [z, TI, TO, i1, i2] → s.heap.get? b = some o → h'.get? b = some o) → Q none { s with heap := h' }) : wpAny (model prog w) A (pyNext (.ref z)) Q E s := by
  obtain ⟨hTI, h1, h2, hl1, hl2, hz⟩ := st
  rcases hz with ⟨hz, a, b, hTO⟩ | ⟨T, f, oT, hz, hT, r1, r2, r3, r4⟩
  · exact wpAny_pyNext_zip_end hh D hz hTI hTO h1 h2 hl1 hl2 hend fun h' hk => q h' fun c o hc e => hk c o (fun x => hc (by simp [x])) (fun x => hc (by simp [x])) (fun x => hc (by simp [x])) (fun x => hc (by simp [x])) e
  · exact wpAny_pyNext_zip_end_held hh D hz hT hTI h1 h2 hl1 hl2 hend fun h' hk => q h' fun c o hc e => hk c o (fun x => hc (by simp [x])) (fun x => hc (by simp [x])) (fun x => hc (by simp [x])) e
end
/-- vs: references to new pairs of xs and ys -/
def Prs (H1 H : Hp) (xs ys vs : List V) : Prop := ∀ j, j < vs.length → ∃ T x y, vs[j]? = some (.ref T) ∧ xs[j]? = some x ∧ ys[j]? = some y ∧ H T = some (.tup [x, y]) ∧ H1 T = none
section
variable {X : Cx} {pins : List (Addr × Obj)} {σ : L2.St} {z TI TO i1 i2 l1 l2 S : Addr} {xs ys : List V} {us ws : List Value} {H1 : Hp}
theorem loop_zip {A : Around} {R : Result → Shared → Prop} (hh : A.in1.handled = none) (D : ZipApart z TI TO i1 i2 l1 l2) (hS : S ∉ [z, TI, TO, i1, i2, l1, l2]) (rv : Vals xs us) (rv2 : Vals ys ws) (hl : xs.length = ys.length) (hz : xs.length ≤ 40000) (res : Value) (hS1 : H1 S = none)
    (hR : ∀ s' H' vs', Inv X pins σ H' s' → Ex H1 H' → H' S = some (.lst vs') → vs'.length = xs.length → Prs H1 H' xs ys vs' → R (.ok (.ret res)) s') :
    ∀ (k i : Nat) (s : Shared) (H : Hp) (vs : List V), xs.length - i = k → i ≤ xs.length → ZSt z TI TO i1 i2 l1 l2 us.toArray ws.toArray S i s.heap → Inv X pins σ H s → (∀ b ∈ [z, TI, TO, i1, i2], FpOk X pins H b) → (∀ b ∈ [z, TI, TO, i1, i2], b < s.heap.objs.size) → Ex H1 H → H S = some (.lst vs) → vs.length = i → Prs H1 H xs ys vs →
      codeAny (model X.prog X.w) A (.builtin "list.extend.loop" ⟨[.ref S, .ref z, res], []⟩) R s := by
  intro k
  induction k with
  | zero =>
    intro i s H vs hk hi st I hf hb0 e1 e2 e3 e4
    refine codeAny_builtin F.entry_extend_loop ?_
    rw [Around.under_plainId F.plain_extend_loop _]
    show wpAny _ A.in1 (pyNext (.ref z) >>= _) _ _ s
    have hend : us.toArray[i]? = none ∨ ws.toArray[i]? = none := .inl (by
      have := rv.length
      simp
      omega)
    refine wpAny_bind (st.done hh D hend fun h' hkp => wpAny_pure ?_)
    exact hR _ H vs (I.turnedL (t' := s.toks) hkp hf) e1 e2 (by omega) e4
  | succ k ih =>
    intro i s H vs hk hi st I hf hb0 e1 e2 e3 e4
    have hlt : i < xs.length := by omega
    have hlt2 : i < ys.length := by omega
    obtain ⟨u, hu, ru⟩ := rv.get (List.getElem?_eq_getElem hlt)
    obtain ⟨u2, hu2, ru2⟩ := rv2.get (List.getElem?_eq_getElem hlt2)
    refine codeAny_builtin F.entry_extend_loop ?_
    rw [Around.under_plainId F.plain_extend_loop _]
    show wpAny _ A.in1 (pyNext (.ref z) >>= _) _ _ s
    obtain ⟨hz1, its, n, r, hlen, hSo⟩ := I.lstM e2
    refine wpAny_bind (st.item D (Heap.lt_size hSo) (x := u) (y := u2) (by simpa using hu) (by simpa using hu2) fun h' st' hT hsz hkp => ?_)
    have new : ObjOk X.prog X.w (upd H s.heap.objs.size (.tup [xs[i], ys[i]])) h' s.heap.objs.size (.tup [xs[i], ys[i]]) :=
      ⟨by show 2 ≤ sizeLine; decide, [u, u2], .cons ru (.cons ru2 .nil), ⟨_, hT, rfl, _, rfl⟩⟩
    have hfr : H s.heap.objs.size = none := I.hok.fresh (Nat.le_refl _)
    have I1 : Inv X pins σ (upd H s.heap.objs.size (.tup [xs[i], ys[i]])) { s with heap := h' } := I.turnedNew (t' := s.toks) hkp hf (Nat.le_refl _) new
    have hST : S ≠ s.heap.objs.size := Nat.ne_of_lt (Heap.lt_size hSo)
    have e2' : upd H s.heap.objs.size (.tup [xs[i], ys[i]]) S = some (.lst vs) := by rw [upd_ne hST]; exact e2
    obtain ⟨_, its', n', r', hlen', hSo'⟩ := I1.lstM e2'
    show wpAny _ A.in1 (updateSeq S (·.push (.ref s.heap.objs.size)) >>= _) _ _ _
    refine wpAny_bind ?_
    refine wpAny_updateSeq (s := { s with heap := h' }) hSo' rfl (wpAny_pure ⟨plainId_quiet F.plain_extend_loop _, ?_⟩) (by
      rw [List.size_toArray]
      exact sz_of (by omega)) (by
      show (its'.toArray.push (.ref s.heap.objs.size)).size ≤ sizeLine + 1
      rw [Array.size_push, List.size_toArray]
      have : its'.length ≤ sizeLine := sz_of (by omega)
      omega)
    have I2 := I1.lset (its' := its' ++ [.ref s.heap.objs.size]) (f := (·.push (.ref s.heap.objs.size))) (ys := vs ++ [V.ref s.heap.objs.size]) (t' := s.toks) e2' hSo' (by simp) (r'.append (.cons (show L2.RelV (V.ref s.heap.objs.size) (.ref s.heap.objs.size) from rfl) .nil)) (by
      rw [List.length_append, List.length_singleton]
      exact sz_of (by omega))
    have ex1 : Ex H (upd H s.heap.objs.size (.tup [xs[i], ys[i]])) := Ex.new hfr
    have h1T : H1 s.heap.objs.size = none := none_of e1 hfr
    refine ih (i + 1) _ _ (vs ++ [V.ref s.heap.objs.size]) (by omega) hlt ?_ I2 (fun b hb => ?_) (fun b hb => ?_) (Ex.mut (e1.trans ex1) hS1) upd_same (by rw [List.length_append, e3]; rfl) fun j hj => ?_
    · exact st'.at hS fun b o hb e => (Heap.get?_update_other _ _ (Ne.symm hb)).trans e
    · obtain ⟨g0, g⟩ := hf b hb
      refine ⟨?_, g⟩
      have b1 : b ≠ S := fun q => hS (by
        rw [← q]
        simp only [List.mem_cons, List.not_mem_nil, or_false] at hb ⊢
        rcases hb with hb | hb | hb | hb | hb <;> simp [hb])
      have b2 : b ≠ s.heap.objs.size := Nat.ne_of_lt (hb0 b hb)
      rw [upd_ne b1, upd_ne b2]
      exact g0
    · have h1 := hb0 b hb
      show b < (h'.update S _).objs.size
      rw [Heap.size_update, hsz]
      exact Nat.lt_succ_of_lt h1
    · rw [List.length_append, e3] at hj
      by_cases hj2 : j < vs.length
      · obtain ⟨T, x, y, f1, f2, f3, f4, f5⟩ := e4 j hj2
        refine ⟨T, x, y, by rw [List.getElem?_append_left hj2]; exact f1, f2, f3, ?_, f5⟩
        have hTS : T ≠ S := fun q => by
          rw [q, e2] at f4
          cases f4
        rw [upd_ne hTS]
        exact ex1 _ _ f4
      · have ej : j = i := by
          simp at hj
          omega
        subst ej
        refine ⟨s.heap.objs.size, xs[j], ys[j], by rw [List.getElem?_append_right (by omega), e3]; simp, List.getElem?_eq_getElem hlt, List.getElem?_eq_getElem hlt2, ?_, h1T⟩
        rw [upd_ne (Ne.symm hST)]
        exact upd_same

/-- list(z), z a new zip -/
theorem call_list_zip {s : Shared} {Q : Value → Shared → Prop} {E : Value → Shared → Prop} (hh : X.A.in1.in1.handled = none) (D : ZipApart z TI TO i1 i2 l1 l2) (rv : Vals xs us) (rv2 : Vals ys ws) (hl : xs.length = ys.length) (hz : xs.length ≤ 40000) (I : Inv X pins σ H1 s) (hf : ∀ b ∈ [z, TI, TO, i1, i2], FpOk X pins H1 b) (hb0 : ∀ b ∈ [z, TI, TO, i1, i2, l1, l2], b < s.heap.objs.size)
    (st : ∀ S, S ∉ [z, TI, TO, i1, i2, l1, l2] → ZSt z TI TO i1 i2 l1 l2 us.toArray ws.toArray S 0 s.heap)
    (hQ : ∀ s' H' vs', Inv X pins σ H' s' → Ex H1 H' → H1 s.heap.objs.size = none → H' s.heap.objs.size = some (.lst vs') → vs'.length = xs.length → Prs H1 H' xs ys vs' → Q (.ref s.heap.objs.size) s') :
    wpAny (model X.prog X.w) X.A (call (.type "list") [.ref z]) Q E s := by
  have hfr : H1 s.heap.objs.size = none := I.hok.fresh (Nat.le_refl _)
  have hS : s.heap.objs.size ∉ [z, TI, TO, i1, i2, l1, l2] := fun hm => Nat.lt_irrefl _ (hb0 _ hm)
  have hSz : s.heap.objs.size ≠ z := fun e => hS (by rw [e]; simp)
  refine callType_codes (Q₁ := fun obj s₁ => obj = .ref s.heap.objs.size ∧ s₁ = { s with heap := s.heap.push { cls := .type "list", data := .seq #[] } }) F.called_list (F.typeCall_list_1 _) F.entry_list_init
    (code_list_new _ ⟨rfl, rfl⟩) fun obj s₁ h₁ => ?_
  obtain ⟨rfl, rfl⟩ := h₁
  have I1 : Inv X pins σ (upd H1 s.heap.objs.size (.lst [])) { s with heap := s.heap.push { cls := .type "list", data := .seq #[] } } := I.lnew (its := []) (t' := s.toks) .nil (Nat.zero_le _)
  have hS1 : (s.heap.push { cls := .type "list", data := .seq #[] }).get? s.heap.objs.size = some { cls := .type "list", data := .seq #[] } := Heap.get?_push_size _ rfl
  refine ⟨⟨_, hS1, rfl⟩, F.args_list_init_2 _ _, ?_⟩
  show wpAny _ X.A.in1.in1 (do let old ← Builtin.List.listItems (.ref s.heap.objs.size); Builtin.List.listUpdate (.ref s.heap.objs.size) (fun _ => #[]); letGo old.toList.reverse; Builtin.List.listExtendWith (.ref s.heap.objs.size) (.ref z) .none) _ _ _
  refine wpAny_bind ?_
  unfold Builtin.List.listItems
  refine wpAny_bind (wpAny_seqItems hS1 rfl (wpAny_pure ?_))
  show wpAny _ X.A.in1.in1 (updateSeq s.heap.objs.size (fun _ => #[]) >>= fun _ => letGo (#[] : Array Value).toList.reverse >>= fun _ => Builtin.List.listExtendWith (.ref s.heap.objs.size) (.ref z) .none) _ _ _
  refine wpAny_bind (wpAny_updateSeq (s := { s with heap := s.heap.push { cls := .type "list", data := .seq #[] } }) hS1 rfl ?_)
  have I2 := I1.lset (its := []) (its' := []) (f := fun _ => #[]) (ys := []) (t' := s.toks) upd_same hS1 rfl .nil (Nat.zero_le _)
  refine wpAny_bind (wpAny_letGo ?_)
  have hS2 := Heap.get?_update_self (Obj.mapSeq (fun _ => (#[] : Array Value))) hS1 rfl
  have k1 : ∀ b o, b ≠ s.heap.objs.size → s.heap.get? b = some o → ((s.heap.push { cls := .type "list", data := .seq #[] }).update s.heap.objs.size (Obj.mapSeq (fun _ => (#[] : Array Value)))).get? b = some o := fun b o hb e => (Heap.get?_update_other _ _ (Ne.symm hb)).trans (Heap.get?_push_of_some _ e)
  have st2 := (st _ hS).at hS k1
  unfold Builtin.List.listExtendWith
  refine wpAny_bind (wpAny_typeOf (T := "zip") (ZSt.ty (s := { s with heap := (s.heap.push { cls := .type "list", data := .seq #[] }).update s.heap.objs.size (Obj.mapSeq (fun _ => (#[] : Array Value))) }) st2) ?_)
  have h1 : Builtin.List.listSameRef (.ref s.heap.objs.size) (.ref z) = false := by simp [Builtin.List.listSameRef, hSz]
  have h2 : (Value.type "zip" == Value.type "list") = false := by decide
  have h3 : (Value.type "zip" == Value.type "tuple") = false := by decide
  simp only [h1, h2, h3, Bool.or_false, Bool.false_eq_true, if_false]
  refine wpAny_bind (ZSt.self (s := { s with heap := (s.heap.push { cls := .type "list", data := .seq #[] }).update s.heap.objs.size (Obj.mapSeq (fun _ => (#[] : Array Value))) }) st2 ?_)
  refine wpAny_bind (wpAny_holding ?_)
  unfold Builtin.List.listLengthHint
  refine wpAny_bind (wpAny_specialOf (ZSt.ty (s := { s with heap := (s.heap.push { cls := .type "list", data := .seq #[] }).update s.heap.objs.size (Obj.mapSeq (fun _ => (#[] : Array Value))) }) st2) zl_nolen ?_)
  show wpAny _ X.A.in1.in1 (specialOf (Value.ref z) (Str.ofString "__length_hint__") >>= _) _ _ _
  refine wpAny_bind (wpAny_specialOf (ZSt.ty (s := { s with heap := (s.heap.push { cls := .type "list", data := .seq #[] }).update s.heap.objs.size (Obj.mapSeq (fun _ => (#[] : Array Value))) }) st2) zl_nohint ?_)
  refine wpAny_pure ?_
  show wpAny _ X.A.in1.in1 (rule "list.extend.makes-room" >>= fun _ => Builtin.List.listTouch (.ref s.heap.objs.size) >>= fun _ =>
    again (.builtin "list.extend.loop" ⟨[.ref s.heap.objs.size, .ref z, .none], []⟩)) _ _ _
  refine wpAny_bind (wpAny_rule ?_)
  refine wpAny_bind ?_
  show wpAny _ X.A.in1.in1 (updateSeq s.heap.objs.size (·.push .none) >>= fun _ => updateSeq s.heap.objs.size (·.pop)) _ _ _
  refine wpAny_bind (wpAny_updateSeq (s := { s with heap := (s.heap.push { cls := .type "list", data := .seq #[] }).update s.heap.objs.size (Obj.mapSeq (fun _ => (#[] : Array Value))) }) hS2 rfl ?_)
  have I3 := I2.lset (its := []) (its' := [.none]) (f := (·.push Value.none)) (ys := [V.non]) (t' := s.toks) upd_same hS2 rfl (.cons rfl .nil) (by show 1 ≤ sizeLine; decide)
  have hS3 := Heap.get?_update_self (Obj.mapSeq (·.push Value.none)) hS2 rfl
  refine wpAny_updateSeq (s := { s with heap := ((s.heap.push { cls := .type "list", data := .seq #[] }).update s.heap.objs.size (Obj.mapSeq (fun _ => (#[] : Array Value)))).update s.heap.objs.size (Obj.mapSeq (·.push Value.none)) }) hS3 rfl ?_
  have I4 := I3.lset (its := [.none]) (its' := []) (f := (·.pop)) (ys := []) (t' := s.toks) upd_same hS3 rfl .nil (Nat.zero_le _)
  have st4 := (st2.at hS fun b o hb e => (Heap.get?_update_other _ (Obj.mapSeq (·.push Value.none)) (Ne.symm hb)).trans e).at hS fun b o hb e => (Heap.get?_update_other _ (Obj.mapSeq (·.pop)) (Ne.symm hb)).trans e
  refine wpAny_pure ⟨plainId_quiet F.plain_extend_loop _, loop_zip (A := X.A.in1) (H1 := H1) hh D hS rv rv2 hl hz _ hfr (fun s' H' vs' g1 g2 g3 g4 g5 => ?_) _ 0 _ _ [] rfl (Nat.zero_le _) st4 I4 (fun b hb => ?_) (fun b hb => ?_) (Ex.mut (Ex.mut (Ex.mut (Ex.new hfr) hfr) hfr) hfr) upd_same rfl fun j hj => absurd hj (Nat.not_lt_zero j)⟩
  · exact ⟨rfl, hQ s' H' vs' g1 g2 hfr g3 g4 g5⟩
  · obtain ⟨g0, g⟩ := hf b hb
    have b1 : b ≠ s.heap.objs.size := fun q => hS (by
      rw [← q]
      simp only [List.mem_cons, List.not_mem_nil, or_false] at hb ⊢
      rcases hb with hb | hb | hb | hb | hb <;> simp [hb])
    refine ⟨?_, g⟩
    rw [upd_ne b1, upd_ne b1, upd_ne b1, upd_ne b1]
    exact g0
  · have h1 : b < s.heap.objs.size := hb0 b (by
      simp only [List.mem_cons, List.not_mem_nil, or_false] at hb ⊢
      rcases hb with hb | hb | hb | hb | hb <;> simp [hb])
    show b < (((((s.heap.push _).update _ _).update _ _).update _ _)).objs.size
    rw [Heap.size_update, Heap.size_update, Heap.size_update, Heap.size_push]
    exact Nat.lt_succ_of_lt h1
end
/-- list(zip(xs, ys)) -/
def tLZ (K : PySem.W.Frag) (ta : TA) : TE := fun σ H Q => ta σ H fun vs H1 => ∃ a b xs ys, vs = [.ref a, .ref b] ∧ SqL K H1 a xs ∧ SqL K H1 b ys ∧ xs.length = ys.length ∧ xs.length ≤ 40000 ∧ ∀ l vs' H', Ex H1 H' → H1 l = none → H' l = some (.lst vs') → vs'.length = xs.length → Prs H1 H' xs ys vs' → Q (.ref l) H'
theorem pe_listZip {X : Cx} {e e2 : Expr} {ta : TA} {p0 p pos pos2 : Pos} (hc : X.calm = true) (hg0 : Gl X "list") (hm0 : X.mg "list" = none) (hg : Gl X "zip") (hm : X.mg "zip" = none) (ha : PA X [e, e2] ta)
    (hs1 : starEach [.Call (.Name "zip" p) [e, e2] [] pos2] X.env = [(false, eval (.Call (.Name "zip" p) [e, e2] [] pos2) X.env)] := by rfl)
    (hs : starEach [e, e2] X.env = (false, eval e X.env) :: starEach [e2] X.env := by rfl) (hpl : (backTo pos2 (starEach [e2] X.env)).any (·.1) = false := by rfl) :
    PE X (.Call (.Name "list" p0) [.Call (.Name "zip" p) [e, e2] [] pos2] [] pos) (tLZ X.K ta) := by
  refine ⟨fun pins s σ H Q I h => ?_⟩
  refine wpAny_Call_Name_kw (ld_blt I hg0 hm0 rfl ?_)
  refine PyProof.Rows.callWith_type1 ?_ hs1 rfl
  rw [hs1]
  refine Calls.spliced_cons (Call_ (ld_blt I hg hm PyProof.Rows.boot_zip (PyProof.Rows.callWith_type1 (thn (ha.run pos2 pins s σ H _ I h) fun us s1 ⟨vs, H1, I1, r1, q1⟩ => ?_) hs hpl)))
  obtain ⟨a, b, xs, ys, ex, hqx, hqy, hl, hz, q1⟩ := q1
  subst ex
  cases r1 with
  | cons r rr =>
    cases rr with
    | cons r' rr =>
      cases rr
      cases r
      cases r'
      have fresh5 : ∀ c, c ∈ [s1.heap.objs.size + 4, s1.heap.objs.size + 2, s1.heap.objs.size + 3, s1.heap.objs.size, s1.heap.objs.size + 1] → FpOk X pins H1 c := fun c hcm => by
        have hle : s1.heap.objs.size ≤ c := by
          simp only [List.mem_cons, List.not_mem_nil, or_false] at hcm
          omega
        exact I1.fpOk hle (I1.hok.fresh hle)
      obtain ⟨its, rv, p1, _⟩ := I1.list hqx
      obtain ⟨its2, rv2, p2, _⟩ := I1.list hqy
      refine call_zip_2 p1.isList p2.isList fun h' hzz hTI hTO h1 h2 hsz hk => Calls.spliced_nil ?_
      have I2 : Inv X pins σ H1 { s1 with heap := h' } := I1.kept (t' := s1.toks) hk
      obtain ⟨its', rv', p1', _⟩ := I2.list hqx
      obtain ⟨its2', rv2', p2', _⟩ := I2.list hqy
      refine call_list_zip (s := { s1 with heap := h' }) (I1.ok.hd hc) (PySem.W.ktu_apart s1.heap.objs.size a b p1.lt p2.lt) rv' rv2' hl hz I2 fresh5 (fun c hcm => ?_) (fun S hS => ⟨hTI, h1, h2, p1'.isList, p2'.isList, .inl ⟨hzz, _, _, hTO⟩⟩) fun s' H' vs' g1 g2 g3 g4 g5 g6 => ?_
      · show c < h'.objs.size
        rw [hsz]
        simp only [List.mem_cons, List.not_mem_nil, or_false] at hcm
        rcases hcm with q | q | q | q | q | q | q
        · rw [q]; exact Nat.add_lt_add_left (by decide) _
        · rw [q]; exact Nat.add_lt_add_left (by decide) _
        · rw [q]; exact Nat.add_lt_add_left (by decide) _
        · rw [q]; exact Nat.lt_add_of_pos_right (by decide)
        · rw [q]; exact Nat.add_lt_add_left (by decide) _
        · rw [q]; exact Nat.lt_of_lt_of_le p1.lt (Nat.le_add_right _ _)
        · rw [q]; exact Nat.lt_of_lt_of_le p2.lt (Nat.le_add_right _ _)
      · exact ⟨.ref _, H', g1, rfl, q1 _ vs' H' g2 g3 g4 g5 g6⟩
section
variable {K : PySem.W.Frag} {B0 H0 : Hp} {δ : List Sl} {ds es : List PyData} {ta : TA}
theorem n_listZip (h : EvD K B0 H0 ta δ [.list ds, .list es]) (hl : ds.length = es.length) (hz : ds.length ≤ 40000) : EvN K B0 H0 (tLZ K ta) δ (zipD ds es) := fun B H σ S Q q => h B H σ S _ fun vs B1 H1 s1 i1 => by
  cases i1 with
  | cons g1 g2 =>
    cases g2 with
    | cons g3 g4 =>
      cases g4
      cases g1 with
      | @lst a xs _ h1 h2 =>
        cases g3 with
        | @lst b ys _ k1 k2 =>
          refine ⟨a, b, xs, ys, rfl, sq_of (s1.bh _ _ h1), sq_of (s1.bh _ _ k1), by rw [h2.len, k2.len, hl], by rw [h2.len]; exact hz, fun l vs' H' e1 f1 f2 f3 f4 => ?_⟩
          -- the base: B1 with the new pairs in it
          let B2 : Hp := fun c => if H1 c = none ∧ c ≠ l then H' c else B1 c
          have b2l : B2 l = none := by
            show (if H1 l = none ∧ l ≠ l then H' l else B1 l) = none
            rw [if_neg (fun z => z.2 rfl)]
            exact none_of s1.bh f1
          have eb : Ex B1 B2 := fun c u hc => by
            show (if H1 c = none ∧ c ≠ l then H' c else B1 c) = some u
            rw [if_neg (fun z => by
              have := s1.bh _ _ hc
              rw [z.1] at this
              cases this)]
            exact hc
          have bh : Ex B2 H' := fun c u hc => by
            have hc' : (if H1 c = none ∧ c ≠ l then H' c else B1 c) = some u := hc
            split at hc'
            · exact hc'
            · exact e1 _ _ (s1.bh _ _ hc')
          have n2 : ∀ c, B2 c ≠ none → B1 c ≠ none ∨ H1 c = none := fun c hc => by
            by_cases z : H1 c = none
            · exact .inr z
            · left
              intro z2
              apply hc
              show (if H1 c = none ∧ c ≠ l then H' c else B1 c) = none
              rw [if_neg (fun y => z y.1)]
              exact z2
          refine q l vs' B2 H' (s1.trans ⟨eb, bh, e1, n2⟩) (none_of s1.h f1) b2l f2 ?_
          have hlen : (zipD ds es).length = ds.length := by
            unfold zipD
            rw [List.length_map, List.length_zip, ← hl, Nat.min_self]
          refine DtAll.of (by rw [f3, h2.len, hlen]) fun i v d hv hd => ?_
          obtain ⟨T, x, y, y1, y2, y3, y4, y5⟩ := f4 i (List.getElem?_eq_some_iff.mp hv).1
          rw [y1] at hv
          cases Option.some.inj hv
          obtain ⟨f, hf, df⟩ := h2.getV y2
          obtain ⟨g, hg, dg⟩ := k2.getV y3
          have e : d = .tuple [f, g] := by
            unfold zipD at hd
            rw [List.getElem?_map, show (ds.zip es)[i]? = some (f, g) from List.getElem?_zip_eq_some.mpr ⟨hf, hg⟩] at hd
            exact (Option.some.inj hd).symm
          rw [e]
          have hTl : T ≠ l := fun z => by
            rw [z, f2] at y4
            cases y4
          have bT : B2 T = some (.tup [x, y]) := by
            show (if H1 T = none ∧ T ≠ l then H' T else B1 T) = _
            rw [if_pos ⟨y5, hTl⟩]
            exact y4
          exact .tup (st_of bT) (.cons (dt_mono eb _ _ df) (.cons (dt_mono eb _ _ dg) .nil))
end
end Ja

/-! Own data layer: isinstance, x in (a, b, c) of ints, ranges with a step. -/
namespace Ja
open PySem PySem.Spec PyProof.Rows L2 Evl Cm
def tyD : PyData → Option String
  | .bool _ => some "bool"
  | .int _ => some "int"
  | .str _ => some "str"
  | .list _ => some "list"
  | .tuple _ => some "tuple"
  | _ => none
section
variable {K : PySem.W.Frag} {B0 H0 : Hp} {δ : List Sl} {te ta tb : TE} {d : PyData} {i : Int}
theorem ty_rd_l {H : Hp} {a : Addr} {xs : List V} (h : SqL K H a xs) : TyX K H (.ref a) (.type "list") := by
  rcases h with (h | ⟨o, h⟩) | ⟨o, its, n, h, hc, _⟩
  · exact .base (.lst h)
  · exact .base (.frz h)
  · exact .kList h hc
theorem ty_rd_t {H : Hp} {a : Addr} {xs : List V} (h : SqT K H a xs) : TyX K H (.ref a) (.type "tuple") := by
  rcases h with (h | ⟨o, h⟩) | ⟨o, its, n, h, hc, _⟩
  · exact .base (.tup h)
  · exact .fTuple h
  · exact .kTuple h hc
theorem ty_of {B : Hp} {v : V} {t : String} (h : Dt K B v d) (ht : tyD d = some t) : TyX K B v (.type t) := by
  cases h with
  | non => cases ht
  | bl b => cases ht; exact .base (.bl _)
  | int i => cases ht; exact .base (.int _)
  | str x => cases ht; exact .base (.str _)
  | lst h1 h2 => cases ht; exact ty_rd_l (sq_of h1)
  | tup h1 h2 => cases ht; exact ty_rd_t h1
theorem d_isi {T t : String} {b : Bool} (h : EvS K B0 H0 te δ (.dat d)) (ht : tyD d = some t) (hk : kitB t T = some b) : EvS K B0 H0 (tCB (rIsi K) (tCons te (tCons (tC (.ty T)) tNil))) δ (nB b) := fun B H σ S Q q => h B H σ S _ fun v B1 H1 s1 i1 => by
  have hty := ty_of (dt_mono s1.bh _ _ i1) ht
  exact ⟨v, .ty T, .type t, .type T, b, rfl, .ty T, hty, kit_ty hk, q _ B1 H1 s1 (Dt.bl _)⟩
theorem inV_ints (i : Int) : ∀ ns : List Int, inV (.int i) (ns.map V.int) = decide (i ∈ ns)
  | [] => rfl
  | n :: r => by
    have h := inV_ints i r
    unfold inV at h ⊢
    rw [List.map_cons, List.any_cons, h]
    show ((n == i) || decide (i ∈ r)) = _
    by_cases e : n = i
    · subst e
      simp
    · have e2 : ¬ i = n := fun z => e z.symm
      simp [e, e2]
theorem flat_ints : ∀ ns : List Int, (ns.map V.int).all flatV = true
  | [] => rfl
  | n :: r => flat_ints r
theorem d_inT {ns : List Int} (ha : EvS K B0 H0 ta δ (nI i)) (hb : EvS K B0 H0 tb δ (.dat (.tuple (ns.map PyData.int)))) : EvS K B0 H0 (tOp (rIn K false) ta tb) δ (nB (decide (i ∈ ns))) := fun B H σ S Q q => ha B H σ S _ fun v B1 H1 s1 i1 => hb B1 H1 σ (S.go s1) _ fun w B2 H2 s2 i2 => by
  cases i1
  cases i2 with
  | tup g1 g2 =>
    rw [dt_ints_inv ns g2] at g1
    refine ⟨_, ns.map V.int, rfl, .inr (ex_t s2.bh g1), rfl, flat_ints ns, ?_⟩
    rw [if_neg (by decide), inV_ints]
    exact q _ B2 H2 (s1.trans s2) (Dt.bl _)
/-- lo, lo + c, .. -/
def stepD (lo c : Int) (n : Nat) : List PyData := (List.range n).map fun i : Nat => PyData.int (lo + (i : Int) * c)
theorem stepD_len (lo c : Int) (n : Nat) : (stepD lo c n).length = n := by
  unfold stepD
  rw [List.length_map, List.length_range]
theorem stepD_get {lo c : Int} {n i : Nat} {d : PyData} (h : (stepD lo c n)[i]? = some d) : i < n ∧ d = .int (lo + (i : Int) * c) := by
  have hi : i < n := by
    have := (List.getElem?_eq_some_iff.mp h).1
    rwa [stepD_len] at this
  unfold stepD at h
  rw [List.getElem?_map, List.getElem?_range hi] at h
  exact ⟨hi, (Option.some.inj h).symm⟩
theorem w_rng3 {ta : TA} {lo hi c : Int} {n : Nat} (h : EvD K B0 H0 ta δ [.int lo, .int hi, .int c]) (h1 : RgC lo hi c n) : EvW K B0 H0 (iRng3 ta) δ (stepD lo c n) := fun B H σ S R q => h B H σ S _ fun vs B1 H1 s1 i1 => by
  cases i1 with
  | cons g1 g2 =>
    cases g1
    cases g2 with
    | cons g3 g4 =>
      cases g3
      cases g4 with
      | cons g5 g6 =>
        cases g5
        cases g6
        refine ⟨lo, hi, c, n, rfl, h1, q _ _ _ B1 H1 s1 (by rw [stepD_len]; exact walk_rangeC) (fun _ _ _ _ => trivial) fun i H2 x H3 B2 d hd e1 e2 y => ?_⟩
        obtain ⟨rfl, rfl⟩ := y
        obtain ⟨_, rfl⟩ := stepD_get hd
        exact ⟨B2, .refl e2, .int _⟩
end
/-- range(1, m - 1, 2) -/
theorem rg_odd : ∀ m : Nat, m ≤ 40 → RgC 1 ((m : Int) - 1) 2 ((m - 1) / 2) := by
  have h : ∀ m : Fin 41, RgC 1 ((m.val : Int) - 1) 2 ((m.val - 1) / 2) := by
    unfold RgC
    decide +kernel
  exact fun m hm => h ⟨m, by omega⟩
end Ja

/-! Own data layer: slices of mapped lists, points. -/
namespace Ja
open PySem PySem.Spec PyProof.Rows L2 Evl Cm
section
variable {A : Type}
def cutL (xs : List A) (lo hi : Option Int) : List A := (xs.drop (HT.sIx xs.length 0 lo)).take (HT.sIx xs.length xs.length hi - HT.sIx xs.length 0 lo)
theorem cutD_map (f : A → PyData) (xs : List A) (lo hi : Option Int) : cutD (xs.map f) lo hi = (cutL xs lo hi).map f := by
  unfold cutD cutL
  rw [List.length_map, ← List.map_drop, ← List.map_take]
theorem drop_min (xs : List A) (n : Nat) : xs.drop (min n xs.length) = xs.drop n := by
  by_cases h : n ≤ xs.length
  · rw [Nat.min_eq_left h]
  · rw [Nat.min_eq_right (by omega), List.drop_length, List.drop_eq_nil_of_le (by omega)]
theorem cut_from (xs : List A) (n : Nat) : cutL xs (some (n : Int)) none = xs.drop n := by
  unfold cutL
  rw [HT.sIx_none, HT.sIx_nat, drop_min, List.take_of_length_le]
  rw [List.length_drop]
  omega
theorem cut_to (xs : List A) (n : Nat) : cutL xs none (some (n : Int)) = xs.take n := by
  unfold cutL
  rw [HT.sIx_none, HT.sIx_nat, List.drop_zero, Nat.sub_zero]
  refine List.take_eq_take_iff.mpr ?_
  omega
theorem cut_mid (xs : List A) (a b : Nat) : cutL xs (some (a : Int)) (some (b : Int)) = (xs.drop a).take (b - a) := by
  unfold cutL
  rw [HT.sIx_nat, HT.sIx_nat, drop_min]
  refine List.take_eq_take_iff.mpr ?_
  rw [List.length_drop]
  omega
end
section
variable {K : PySem.W.Frag} {B0 H0 : Hp} {δ : List Sl} {te tb : TE} {A : Type} {f : A → PyData} {xs ys : List A}
theorem n_slF {tl th : TO} {lo hi : Option Int} (h : EvS K B0 H0 te δ (.dat (.list (xs.map f)))) (h1 : EvO K B0 H0 tl δ lo) (h2 : EvO K B0 H0 th δ hi) (e : cutL xs lo hi = ys) : EvN K B0 H0 (tSl (rSlL K) te tl th) δ (ys.map f) := by
  have := n_sl h h1 h2
  rwa [cutD_map, e] at this
theorem n_catF (ha : EvS K B0 H0 te δ (.dat (.list (xs.map f)))) (hb : EvS K B0 H0 tb δ (.dat (.list (ys.map f)))) (hz : xs.length + ys.length ≤ 100000) : EvN K B0 H0 (tOp rCat te tb) δ ((xs ++ ys).map f) := by
  have := n_cat ha hb (by rw [List.length_map, List.length_map]; exact hz)
  rwa [← List.map_append] at this
theorem n_zipF {B : Type} {g : B → PyData} {zs : List B} (h1 : EvS K B0 H0 te δ (.dat (.list (xs.map f)))) (h2 : EvS K B0 H0 tb δ (.dat (.list (zs.map g)))) (hl : xs.length = zs.length) (hz : xs.length ≤ 40000) : EvN K B0 H0 (tLZ K (tCons te (tCons tb tNil))) δ ((xs.zip zs).map fun p => .tuple [f p.1, g p.2]) := by
  have := n_listZip (ds_cons h1 (ds_cons h2 ds_nil)) (by rw [List.length_map, List.length_map]; exact hl) (by rw [List.length_map]; exact hz)
  unfold zipD at this
  rw [List.zip_map, List.map_map] at this
  exact this
theorem d_sumF {xs : List A} {g : A → Int} (h : EvN K B0 H0 te δ (xs.map fun x => .int (g x))) : EvS K B0 H0 (tCB (rSum K) (tCons te tNil)) δ (nI (xs.map g).sum) := by
  have e : (xs.map fun x => PyData.int (g x)) = (xs.map g).map PyData.int := by
    rw [List.map_map]
    rfl
  rw [e] at h
  exact d_sum (d_new h)
end
theorem enc_int : Enc PyData.int := ⟨fun x y => rfl, ⟨1, by decide, fun x => shp_int x⟩⟩
/-! ### points -/
open Pg
abbrev encP (p : Pt) : PyData := .tuple [.int p.1, .int p.2]
theorem shp_P (p : Pt) : Shp 1 (encP p) := shp_tup (shp_cons (n := 0) (shp_int _) (shp_cons (shp_int _) shp_nil))
theorem enc_P : Enc encP := by
  refine ⟨fun x y => ?_, ⟨1, by decide, shp_P⟩⟩
  have e : PyData.eqv (encP x) (encP y) = ((x.1 == y.1) && ((x.2 == y.2) && true)) := by simp only [encP, PyData.eqv, PyData.eqvAll]
  rw [e]
  obtain ⟨a, b⟩ := x
  obtain ⟨d, f⟩ := y
  by_cases h : (a, b) = (d, f)
  · rw [decide_eq_true h]
    cases h
    simp
  · rw [decide_eq_false h]
    have h2 : ¬ (a = d ∧ b = f) := fun ⟨h1, h2⟩ => h (by rw [h1, h2])
    simp only [Bool.and_true, Bool.and_eq_false_iff, beq_eq_false_iff_ne]
    omega
/-- the sides, as pairs -/
def sidesL (ps : List Pt) : List (Pt × Pt) := ps.zip (ps.drop 1 ++ ps.take 1)
abbrev encS (s : Pt × Pt) : PyData := .tuple [encP s.1, encP s.2]
theorem sides_len (ps : List Pt) : (sidesL ps).length = ps.length := by
  unfold sidesL
  cases ps <;> simp
theorem path_zip (q : Pt) : ∀ (p : Pt) (r : List Pt), (((p :: r).zip (r ++ [q])).map fun s => cr s.1 s.2).sum = path (p :: r ++ [q])
  | p, [] => by simp [path]
  | p, b :: r => by
    have h := path_zip q b r
    show cr p b + (((b :: r).zip (r ++ [q])).map fun s => cr s.1 s.2).sum = cr p b + path (b :: (r ++ [q]))
    rw [h]
    rfl
theorem sum_sides : ∀ ps : List Pt, ((sidesL ps).map fun s => cr s.1 s.2).sum = area2 ps
  | [] => rfl
  | p :: r => path_zip p p r
/-- both numbers are small -/
def Pb (k : Nat) (p : Pt) : Prop := p.1.natAbs < 2 ^ k ∧ p.2.natAbs < 2 ^ k
theorem sides_mem {ps : List Pt} {s : Pt × Pt} (h : s ∈ sidesL ps) : s.1 ∈ ps ∧ s.2 ∈ ps := by
  unfold sidesL at h
  have := List.of_mem_zip h
  refine ⟨this.1, ?_⟩
  rcases List.mem_append.mp this.2 with z | z
  · exact List.mem_of_mem_drop z
  · exact List.mem_of_mem_take z
end Ja

/-! Own data layer: max of three, insert, pop, items of mapped lists. -/
namespace Ja
open PySem PySem.Spec PyProof.Rows L2 Evl Cm
theorem hu65 {A : Around} {k : Nat} (hr : Room k A) : A.units + 65 < cLine := by
  have := hr.un
  omega
section
variable {K : PySem.W.Frag} {B0 H0 : Hp} {W : WX} {δ δ1 : List Sl} {E : DE} {ta tb tc te : TE} {u : TS} {d : PyData} {ds : List PyData} {i j k : Int} {A : Type} {f : A → PyData} {xs : List A} {x : A}
theorem at_map (h : atI xs i = some x) : atI (xs.map f) i = some (f x) := by
  unfold atI at h ⊢
  rw [List.length_map]
  cases hx : ixN xs.length i with
  | none =>
    rw [hx] at h
    cases h
  | some n =>
    rw [hx] at h
    show (xs.map f)[n]? = _
    rw [List.getElem?_map, show xs[n]? = some x from h]
    rfl
theorem d_ixM (ha : EvS K B0 H0 ta δ (.dat (.list (xs.map f)))) (hb : EvS K B0 H0 tb δ (nI i)) (h : atI xs i = some x) : EvS K B0 H0 (tOp (rIxL K) ta tb) δ (.dat (f x)) := d_ixL ha hb (at_map h)
theorem d_ixOM {n : Nat} (ho : δ[n]? = some (Sl.own (xs.map f))) (hb : EvS K B0 H0 tb δ (nI i)) (h : atI xs i = some x) : EvS K B0 H0 (tOp (rIxL K) (tVar n) tb) δ (.dat (f x)) := d_ixO ho hb (at_map h)
theorem d_max3 (h : EvS K B0 H0 ta δ (nI i)) (h2 : EvS K B0 H0 tb δ (nI j)) (h3 : EvS K B0 H0 tc δ (nI k)) : EvS K B0 H0 (tCB (rNuC3 nuMax3) (tCons ta (tCons tb (tCons tc tNil)))) δ (nI (max (max i j) k)) := fun B H σ S Q q =>
  h B H σ S _ fun v B1 H1 s1 i1 => h2 B1 H1 σ (S.go s1) _ fun w B2 H2 s2 i2 => h3 B2 H2 σ (S.go (s1.trans s2)) _ fun z B3 H3 s3 i3 => by
    cases i1
    cases i2
    cases i3
    refine ⟨.int i, .int j, .int k, .int (max (max i j) k), rfl, ?_, q _ B3 H3 ((s1.trans s2).trans s3) (Dt.int _)⟩
    by_cases a : i < j
    · have e1 : max i j = j := by omega
      rw [e1]
      have e2 : (nuMax2 (.int i) (.int j)) = some (.int j) := by
        show some (if decide (i < j) = true then V.int j else V.int i) = _
        rw [decide_eq_true a]
        rfl
      show (nuMax2 (.int i) (.int j)).bind _ = _
      rw [e2]
      show some (if decide (j < k) = true then V.int k else V.int j) = _
      by_cases b : j < k
      · rw [decide_eq_true b, show max j k = k by omega]
        rfl
      · rw [decide_eq_false b, show max j k = j by omega]
        rfl
    · have e1 : max i j = i := by omega
      rw [e1]
      have e2 : (nuMax2 (.int i) (.int j)) = some (.int i) := by
        show some (if decide (i < j) = true then V.int j else V.int i) = _
        rw [decide_eq_false a]
        rfl
      show (nuMax2 (.int i) (.int j)).bind _ = _
      rw [e2]
      show some (if decide (i < k) = true then V.int k else V.int i) = _
      by_cases b : i < k
      · rw [decide_eq_true b, show max i k = k by omega]
        rfl
      · rw [decide_eq_false b, show max i k = i by omega]
        rfl
/-- x not in xs, xs of its own -/
theorem d_niO {n : Nat} (ha : EvS K B0 H0 ta δ (.dat d)) (ho : δ[n]? = some (Sl.own ds)) (h1 : SeqAt.shaped d = true) (h2 : SeqAt.shaped (.list ds) = true) : EvS K B0 H0 (tOp (rNotInD K) ta (tVar n)) δ (nB (!ds.any fun z => PyData.eqv z d)) := fun B H σ S Q q =>
  ha B H σ S _ fun v B1 H1 s1 i1 => by
    obtain ⟨l, vs, g1, g2, g3, g4, g5⟩ := (S.go s1).own n ds ho
    have eb : Ex B1 (upd B1 l (.lst vs)) := Ex.new g3
    have bh : Ex (upd B1 l (.lst vs)) H1 := fun a o ha => by
      by_cases z : a = l
      · subst z
        rw [upd_same] at ha
        rw [g2]
        exact ha
      · rw [upd_ne z] at ha
        exact s1.bh a o ha
    exact ⟨.ref l, g1, d, ds, dp_mono s1.bh _ _ (dt_dp _ _ i1), dp_mono bh _ _ (dt_dp _ _ (Dt.lst upd_same (dts_mono eb _ _ g5))), h1, h2, q _ B1 H1 s1 (Dt.bl _)⟩
theorem d_niEO {A : Type} [DecidableEq A] {f : A → PyData} {x : A} {l : List A} {n : Nat} (h : Enc f) (ha : EvS K B0 H0 ta δ (.dat (f x))) (ho : δ[n]? = some (Sl.own (l.map f))) : EvS K B0 H0 (tOp (rNotInD K) ta (tVar n)) δ (nB (!decide (x ∈ l))) := d_isB (d_niO ha ho (h.shx x) (h.shl l)) (by rw [any_map h.eq x l])
theorem atI_prev {A : Type} {xs : List A} {z : A} (hz : xs.getLast? = some z) {k : Nat} (hk : k < xs.length) : atI xs ((k : Int) - 1) = (z :: xs)[k]? := by
  cases k with
  | zero =>
    show atI xs (-1) = some z
    rw [← hz, List.getLast?_eq_getElem?]
    have h1 : ixN xs.length (-1) = some (xs.length - 1) := by
      unfold ixN
      rw [if_neg (by omega)]
      first | rw [if_pos (by omega)] | skip
      congr 1
      omega
    unfold atI
    rw [h1]
    rfl
  | succ k =>
    show atI xs (((k + 1 : Nat) : Int) - 1) = xs[k]?
    rw [show ((k + 1 : Nat) : Int) - 1 = (k : Int) by omega]
    rw [List.getElem?_eq_getElem (show k < xs.length by omega)]
    exact atI_nat (List.getElem?_eq_getElem (show k < xs.length by omega))
/-- the item behind, going around -/
theorem atI_next {A : Type} {xs : List A} {k : Nat} (hk : k < xs.length) : ∃ x, x ∈ xs ∧ atI xs ((k : Int) + 1 - (xs.length : Int) * (((k : Int) + 1) / (xs.length : Int))) = some x := by
  have h0 : 0 < xs.length := by omega
  have h1 : (k + 1) % xs.length < xs.length := Nat.mod_lt _ h0
  have e : (k : Int) + 1 - (xs.length : Int) * (((k : Int) + 1) / (xs.length : Int)) = (((k + 1) % xs.length : Nat) : Int) := by
    rw [Int.natCast_emod, Int.emod_def, Int.natCast_add]
    rfl
  rw [e]
  exact ⟨xs[(k + 1) % xs.length], List.getElem_mem h1, atI_nat (List.getElem?_eq_getElem h1)⟩
theorem mul_div_ok {k n : Nat} (hn : n ≤ 1000) (hk : k ≤ 1000) : CMulX (n : Int) (((k : Int) + 1) / (n : Int)) := by
  have h1 : (((k : Int) + 1) / (n : Int)) = (((k + 1) / n : Nat) : Int) := by
    rw [Int.natCast_ediv, Int.natCast_add]
    rfl
  rw [h1]
  have h2 : (k + 1) / n ≤ k + 1 := Nat.div_le_self _ _
  generalize (k + 1) / n = m at h2 ⊢
  exact mulx_ok (a := 20) (b := 20) (by omega) (by omega) (by decide)
theorem r_newR {P : List PyData → Prop} (h : EvNR K B0 H0 te δ P) : EvR K B0 H0 te δ fun d => ∃ ds, P ds ∧ d = .list ds := fun B H σ S Q q => h B H σ S Q fun l vs ds B1 H1 p s1 f1 f2 f3 f4 => by
  have eb : Ex B1 (upd B1 l (.lst vs)) := Ex.new f2
  refine q _ _ (upd B1 l (.lst vs)) H1 ⟨ds, p, rfl⟩ ⟨s1.b.trans eb, fun a o ha => ?_, s1.h, fun a ha => ?_⟩ (.lst upd_same (dts_mono eb _ _ f4))
  · by_cases z : a = l
    · subst z
      rw [upd_same] at ha
      rw [f3]
      exact ha
    · rw [upd_ne z] at ha
      exact s1.bh a o ha
  · by_cases z : a = l
    · subst z
      exact .inr f1
    · rw [upd_ne z] at ha
      exact s1.n a ha
/-- a def called with one thing of which something is told -/
theorem r_call1 {A : Type} {enc : A → List Sl} {pre : A → Prop} {post : A → PyData → Prop} {R : XK} {P : PyData → Prop} (h : EvR K B0 H0 te δ P) (hh : ∀ d, P d → ∃ a, enc a = [.dat d] ∧ pre a) : EvR K B0 H0 (tCall (SpA K enc pre post) [] R (tCons te tNil)) δ fun d => ∃ a, pre a ∧ post a d := fun B H σ S Q q => h B H σ S _ fun v d B1 H1 p s1 i1 => by
  obtain ⟨a, e, hp⟩ := hh d p
  exact ⟨B1, a, s1.bh, by rw [List.append_nil, e]; exact .cons i1 .nil, hp, fun v2 d2 B2 H2 p2 st dv => q v2 d2 B2 H2 ⟨a, hp, p2⟩ (s1.trans st) dv⟩
/-- some answer -/
def EvBR (K : PySem.W.Frag) (B0 H0 : Hp) (tt : TT) (δ : List Sl) : Prop := ∀ B H σ, Sc K B0 H0 B H σ δ → ∀ Q : Bool → Hp → Prop, (∀ b B' H', Stp B H B' H' → Q b H') → tt σ H Q
theorem br_val (h : EvR K B0 H0 te δ fun d => ∃ b, d = .bool b) : EvBR K B0 H0 (tB te) δ := fun B H σ S Q q => h B H σ S _ fun v d B1 H1 ⟨b, e⟩ s1 i1 => by
  subst e
  cases i1
  exact ⟨b, rfl, q b B1 H1 s1⟩
theorem br_not {tt : TT} (h : EvBR K B0 H0 tt δ) : EvBR K B0 H0 (tNot tt) δ := fun B H σ S Q q => h B H σ S _ fun b B1 H1 s1 => q _ B1 H1 s1
theorem sd_ifBR {tt : TT} {t u : TS} (h : EvBR K B0 H0 tt δ) (h1 : SD K B0 H0 W t δ E) (h2 : SD K B0 H0 W u δ E) : SD K B0 H0 W (tIfS tt t u) δ E := fun D B H σ S L => h B H σ S _ fun b B1 H1 s1 => by
  cases b with
  | true => exact h1 D B1 H1 σ (S.go s1) (L.mono s1.b)
  | false => exact h2 D B1 H1 σ (S.go s1) (L.mono s1.b)
def rInsD : V → List V → Hp → VK → Prop := fun x vs H Q => ∃ (l : Addr) (xs : List V) (i : Int) (y : V), x = .ref l ∧ vs = [.int i, y] ∧ H l = some (.lst xs) ∧ xs.length < sizeLine ∧ 0 ≤ i ∧ i < 2 ^ 63 ∧ Q .non (upd H l (.lst (xs.take i.toNat ++ [y] ++ xs.drop i.toNat)))
theorem mt_insD {X : Cx} : MtR X "list.insert" rInsD := mt_insert
/-- xs.insert(m, e), xs of its own -/
theorem sd_ins {n m : Nat} (hn : δ[n]? = some (Sl.own ds)) (hi : EvS K B0 H0 tb δ (nI (m : Int))) (h : EvS K B0 H0 te δ (.dat d)) (hz : ds.length < 100000) (hm : m ≤ 100000) (k : E.nx (δ.set n (.own (ds.take m ++ [d] ++ ds.drop m)))) : SD K B0 H0 W (tDrop (tBM K "list" rInsD (tVar n) (tCons tb (tCons te tNil)))) δ E := fun D B H σ S L => by
  obtain ⟨l, vs, h1, h2, h3, h4, h5⟩ := S.own n ds hn
  refine ⟨.ref l, h1, .inl ⟨rfl, _, sq_of h2⟩, hi B H σ S _ fun w B1 H1 s1 i1 => h B1 H1 σ (S.go s1) _ fun v B2 H2 s2 i2 => ?_⟩
  cases i1
  have s := s1.trans s2
  obtain ⟨l', ws, g1, g2, g3, g4, g5⟩ := (S.go s).own n ds hn
  rw [h1] at g1
  cases Option.some.inj (Option.some.inj g1)
  refine ⟨l, ws, (m : Int), v, rfl, rfl, g2, by rw [g5.len]; exact sz_lt hz, by omega, by have : (100000 : Int) < 2 ^ 63 := by decide
                                                                                          omega, ?_⟩
  refine L.nx B2 _ σ _ s.b ((S.go s).mut hn h1 ?_) k
  rw [Int.toNat_natCast]
  exact ((g5.take m).app (.cons i2 .nil)).app (g5.drop m)
/-- xs.pop(), xs of its own -/
theorem sd_pop {n : Nat} {e : PyData} (hn : δ[n]? = some (Sl.own (ds ++ [e]))) (k : E.nx (δ.set n (.own ds))) : SD K B0 H0 W (tDrop (tBM0 K "list" rPop (tVar n))) δ E := fun D B H σ S L => by
  obtain ⟨l, vs, h1, h2, h3, h4, h5⟩ := S.own n _ hn
  have hl := h5.len
  rw [List.length_append] at hl
  have hlt : vs.length - 1 < vs.length := by
    have : [e].length = 1 := rfl
    omega
  refine ⟨.ref l, h1, .inl ⟨rfl, _, sq_of h2⟩, l, vs, vs[vs.length - 1], rfl, rfl, h2, List.getElem?_eq_getElem hlt, ?_⟩
  refine L.nx B _ σ _ (.refl _) (S.mut hn h1 ?_) k
  have h6 := h5.take (vs.length - 1)
  rw [List.dropLast_eq_take]
  have e1 : (ds ++ [e]).take (vs.length - 1) = ds := by
    have : [e].length = 1 := rfl
    rw [show vs.length - 1 = ds.length by omega, List.take_left]
  rwa [e1] at h6
end
end Ja

/-! Own data layer: sorted(a list of pairs of ints). -/
namespace Ja
open PySem PySem.Spec PyProof.Rows L2 Evl Cm
open Pg (Pt)
/-- the pair that stands at a reference -/
def rdP (h : Heap) (u : Value) : Int × Int := match u with
  | .ref t => match h.get? t with
    | some o => match o.data with
      | .seq zs _ => match zs.toList with
        | [.int i _, .int j _] => (i, j)
        | _ => (0, 0)
      | _ => (0, 0)
    | none => (0, 0)
  | _ => (0, 0)
abbrev PairOf (K : PySem.W.Frag) (H : Hp) (x : V) (p : Pt) : Prop := ∃ t, x = V.ref t ∧ SqT K H t [.int p.1, .int p.2]
def rSortedD (K : PySem.W.Frag) : List V → Hp → VK → Prop := fun vs H Q => ∃ (a : Addr) (xs : List V) (ps : List Pt) (R : V → Pt → Prop), vs = [V.ref a] ∧ SqL K H a xs ∧ Paired (fun x p => PairOf K H x p ∧ R x p) xs ps ∧
  ∀ ys qs p, Paired R ys qs → qs.Perm ps → qs.Pairwise (fun p q => SrtO.lexB q p = false) → H p = none → Q (.ref p) (upd H p (.lst ys))
section
variable {X : Cx} {R : V → Pt → Prop}
theorem pairs_read {pins : List (Addr × Obj)} {s : Shared} {σ : L2.St} {H : Hp} (I : Inv X pins σ H s) : ∀ {xs : List V} {its : List Value} {ps : List Pt}, Vals xs its → Paired (fun x p => PairOf X.K H x p ∧ R x p) xs ps → its.map (rdP s.heap) = ps ∧ ∀ u ∈ its, ∃ t, u = .ref t ∧ R (V.ref t) (rdP s.heap u) ∧ Srt.IsPair s.heap u (rdP s.heap u).1 (rdP s.heap u).2
  | _, _, _, .nil, .nil => ⟨rfl, fun u hu => nomatch hu⟩
  | _, u :: its, p :: ps, .cons r rr, .cons ⟨⟨t, e, ht⟩, hR⟩ hr => by
    obtain ⟨h1, h2⟩ := pairs_read I rr hr
    subst e
    cases r
    obtain ⟨zs, rz, ⟨o, ho, hc, n, hd⟩, _⟩ := I.tuple ht
    obtain ⟨u1, u2, rfl, ri, rj⟩ := vals2 rz
    obtain ⟨t1, rfl⟩ := ri
    obtain ⟨t2, rfl⟩ := rj
    have hk : rdP s.heap (.ref t) = p := by
      unfold rdP
      simp [ho, hd]
    refine ⟨by rw [List.map_cons, h1, hk], fun v hv => ?_⟩
    rcases List.mem_cons.mp hv with z | z
    · subst z
      rw [hk]
      exact ⟨t, rfl, hR, t, o, t1, t2, n, rfl, ho, hc, hd⟩
    · exact h2 v z
theorem pairs_back {k : Value → Int × Int} : ∀ {out : List Value}, (∀ u ∈ out, ∃ t, u = .ref t ∧ R (V.ref t) (k u)) → Paired R (out.map backV) (out.map k)
  | [], _ => .nil
  | u :: r, h => by
    obtain ⟨t, e, ht⟩ := h u (List.mem_cons_self ..)
    refine .cons ?_ (pairs_back fun v hv => h v (List.mem_cons_of_mem _ hv))
    have : backV u = V.ref t := by rw [e]; rfl
    rw [this]
    exact ht
theorem cr_sortedD : CallR X (.builtin "sorted") (rSortedD X.K) := by
  intro pins s σ H vs us Q I r h
  obtain ⟨a, xs, ps, R, rfl, hs, hp, q⟩ := h
  obtain ⟨its, rv, hl, hsz⟩ := I.list hs
  obtain ⟨h1, h2⟩ := pairs_read I rv hp
  rw [Vals.ref1 r]
  refine SrtO.sorted_pairsO (k := rdP s.heap) hl.isList (rv.length ▸ hsz) (fun v hv => ?_) fun h' d out g1 g2 kp hd hn => ?_
  · obtain ⟨t, _, _, z⟩ := h2 v hv
    exact z
  · have hm : ∀ u ∈ out, ∃ t, u = .ref t ∧ R (V.ref t) (rdP s.heap u) := fun u hu => by
      obtain ⟨t, e1, e2, _⟩ := h2 u (g2.perm.mem_iff.mp hu)
      exact ⟨t, e1, e2⟩
    obtain ⟨n, hn⟩ := hn
    have ho : ∀ u ∈ out, ∃ a, u = Value.ref a := fun u hu => by
      obtain ⟨t, e, _⟩ := hm u hu
      exact ⟨t, e⟩
    have hlen : (out.map backV).length ≤ sizeLine := by
      rw [List.length_map, g2.len, ← rv.length]
      exact hsz
    refine ⟨.ref d, upd H d (.lst (out.map backV)), I.laid (t' := s.toks) kp hd ⟨hlen, out, n, vals_back ho, hn⟩, rfl, q _ (out.map (rdP s.heap)) d (pairs_back hm) ?_ (List.pairwise_map.mpr g1) (I.hok.fresh hd)⟩
    rw [← h1]
    exact g2.perm.map _
end
section
variable {K : PySem.W.Frag} {B0 H0 : Hp} {δ : List Sl} {ta : TE} {ps : List Pt}
theorem pairs_of {B H : Hp} (e : Ex B H) : ∀ {xs : List V} {ps : List Pt}, DtAll K B xs (ps.map encP) → Paired (fun x p => PairOf K H x p ∧ Dt K B x (encP p)) xs ps
  | _, [], .nil => .nil
  | _, p :: ps, .cons h r => by
    refine .cons ⟨?_, h⟩ (pairs_of e r)
    cases h with
    | tup h1 h2 => exact ⟨_, rfl, by
      have := dt_ints_inv [p.1, p.2] h2
      rw [this] at h1
      exact ex_t e h1⟩
theorem pairs_to {B : Hp} : ∀ {xs : List V} {ps : List Pt}, Paired (fun x p => Dt K B x (encP p)) xs ps → DtAll K B xs (ps.map encP)
  | _, [], .nil => .nil
  | _, p :: ps, .cons h r => .cons h (pairs_to r)
theorem d_niT {tb : TE} {i : Int} {ns : List Int} (ha : EvS K B0 H0 ta δ (nI i)) (hb : EvS K B0 H0 tb δ (.dat (.tuple (ns.map PyData.int)))) : EvS K B0 H0 (tOp (rIn K true) ta tb) δ (nB (!decide (i ∈ ns))) := fun B H σ S Q q => ha B H σ S _ fun v B1 H1 s1 i1 => hb B1 H1 σ (S.go s1) _ fun w B2 H2 s2 i2 => by
  cases i1
  cases i2 with
  | tup g1 g2 =>
    rw [dt_ints_inv ns g2] at g1
    refine ⟨_, ns.map V.int, rfl, .inr (ex_t s2.bh g1), rfl, flat_ints ns, ?_⟩
    rw [if_pos rfl, inV_ints]
    exact q _ B2 H2 (s1.trans s2) (Dt.bl _)
/-- sorted: a new list, the same pairs in order -/
theorem nr_sortedP (h : EvS K B0 H0 ta δ (.dat (.list (ps.map encP)))) : EvNR K B0 H0 (tCB (rSortedD K) (tCons ta tNil)) δ fun ds => ∃ qs : List Pt, ds = qs.map encP ∧ qs.Perm ps ∧ qs.Pairwise fun p q => SrtO.lexB q p = false := fun B H σ S Q q => h B H σ S _ fun v B1 H1 s1 i1 => by
  cases i1 with
  | @lst a xs _ g1 g2 =>
    refine ⟨a, xs, ps, fun x p => Dt K B1 x (encP p), rfl, sq_of (s1.bh _ _ g1), pairs_of s1.bh g2, fun ys qs p f1 f2 f3 f4 => ?_⟩
    exact q p ys _ B1 _ ⟨qs, rfl, f2, f3⟩ (s1.trans (.same s1.bh (.new f4))) (none_of s1.h f4) (none_of s1.bh f4) upd_same (pairs_to f1)
end
end Ja

/-! Own data: when two sides of a polygon meet; simple polygons. -/
namespace Sg
abbrev Pt := Int × Int
open Wh (side onL between)
theorem sq_nonneg (x : Int) : 0 ≤ x * x := by
  rcases Int.le_total 0 x with h | h
  · exact Int.mul_nonneg h h
  · have := Int.mul_nonneg (show 0 ≤ -x by omega) (show 0 ≤ -x by omega)
    rwa [Int.neg_mul_neg] at this
theorem sq_pos {x : Int} (h : x ≠ 0) : 0 < x * x := by
  have h1 := sq_nonneg x
  have h2 : x * x ≠ 0 := Int.mul_ne_zero h h
  omega
/-- x * k has the sign of x -/
theorem le_of_mul {x k : Int} (hk : 0 < k) (h : k * x ≤ 0) : x ≤ 0 := by
  rcases Int.lt_or_le 0 x with h1 | h1
  · have := Int.mul_pos hk h1
    omega
  · exact h1
theorem mul_le {x k : Int} (hk : 0 ≤ k) (h : x ≤ 0) : k * x ≤ 0 := by
  have := Int.mul_nonneg hk (show 0 ≤ -x by omega)
  rw [Int.mul_neg] at this
  omega
theorem opp_iff {x y : Int} : x * y ≤ 0 ↔ ¬ (x > 0 ∧ y > 0) ∧ ¬ (x < 0 ∧ y < 0) := by
  constructor
  · intro h
    refine ⟨fun ⟨h1, h2⟩ => ?_, fun ⟨h1, h2⟩ => ?_⟩
    · have := Int.mul_pos h1 h2
      omega
    · have := Int.mul_pos_of_neg_of_neg h1 h2
      omega
  · intro ⟨h1, h2⟩
    rcases Int.lt_trichotomy x 0 with hx | hx | hx
    · have hy : 0 ≤ y := by omega
      have := Int.mul_nonneg (show 0 ≤ -x by omega) hy
      rw [Int.neg_mul] at this
      omega
    · rw [hx, Int.zero_mul]
      exact Int.le_refl _
    · exact mul_le (by omega) (by omega)
/-! ### the four signs -/
section
variable (a b c d : Pt)
theorem D_eq : side a b d - side a b c = side c d a - side c d b := by
  unfold side
  grind
theorem on0 (h : side a b c = 0) : (side a b d * side a b d) * ((c.1 - a.1) * (c.1 - b.1)) = (side c d a * side c d b) * ((b.1 - a.1) * (b.1 - a.1)) := by
  have e := D_eq a b c d
  have h1 : side a b d * (c.1 - a.1) = side c d a * (b.1 - a.1) := by
    unfold side at *
    grind
  have h2 : side a b d * (c.1 - b.1) = side c d b * (b.1 - a.1) := by
    unfold side at *
    grind
  grind
theorem on1 (h : side a b c = 0) : (side a b d * side a b d) * ((c.2 - a.2) * (c.2 - b.2)) = (side c d a * side c d b) * ((b.2 - a.2) * (b.2 - a.2)) := by
  have h1 : side a b d * (c.2 - a.2) = side c d a * (b.2 - a.2) := by
    unfold side at *
    grind
  have h2 : side a b d * (c.2 - b.2) = side c d b * (b.2 - a.2) := by
    unfold side at *
    grind
  grind
theorem cross0 : side c d a * b.1 - side c d b * a.1 = side a b d * c.1 - side a b c * d.1 := by
  unfold side
  grind
theorem cross1 : side c d a * b.2 - side c d b * a.2 = side a b d * c.2 - side a b c * d.2 := by
  unfold side
  grind
theorem onB {a b c : Pt} : onL a b c = true ↔ side a b c = 0 ∧ (c.1 - a.1) * (c.1 - b.1) ≤ 0 ∧ (c.2 - a.2) * (c.2 - b.2) ≤ 0 := by
  unfold onL
  simp only [Bool.and_eq_true, decide_eq_true_eq]
end
/-- the two boxes have a place in common -/
def Boxes (a b c d : Pt) : Prop := (min a.1 b.1 ≤ max c.1 d.1 ∧ min c.1 d.1 ≤ max a.1 b.1) ∧ (min a.2 b.2 ≤ max c.2 d.2 ∧ min c.2 d.2 ≤ max a.2 b.2)
/-- two sides have a place in common: boxes and signs -/
def MM (a b c d : Pt) : Prop := Boxes a b c d ∧ side a b c * side a b d ≤ 0 ∧ side c d a * side c d b ≤ 0
/-- .. as the law finds it -/
def meetL (p q r s : Pt) : Bool := (onL p q r || (onL p q s || (onL r s p || onL r s q))) || ((!decide (decide (side p q r > 0) = decide (side p q s > 0))) && !decide (decide (side r s p > 0) = decide (side r s q > 0)))
theorem side_swap (p q r : Pt) : side q p r = -side p q r := Wh.side_swap p q r
theorem boxes_sym {a b c d : Pt} (h : Boxes a b c d) : Boxes c d a b := ⟨⟨h.1.2, h.1.1⟩, h.2.2, h.2.1⟩
theorem MM_sym {a b c d : Pt} (h : MM a b c d) : MM c d a b := ⟨boxes_sym h.1, h.2.2, h.2.1⟩
theorem MM_swap {a b c d : Pt} (h : MM a b c d) : MM a b d c := by
  obtain ⟨⟨⟨h1, h2⟩, h3, h4⟩, h5, h6⟩ := h
  refine ⟨⟨⟨by omega, by omega⟩, by omega, by omega⟩, by rw [Int.mul_comm]; exact h5, ?_⟩
  rw [side_swap c d, side_swap c d, Int.neg_mul_neg]
  exact h6
theorem onL_swap (a b c : Pt) : onL b a c = onL a b c := by
  rw [Bool.eq_iff_iff, onB, onB, side_swap a b]
  constructor
  · intro ⟨h1, h2, h3⟩
    exact ⟨by omega, by rw [Int.mul_comm]; exact h2, by rw [Int.mul_comm]; exact h3⟩
  · intro ⟨h1, h2, h3⟩
    exact ⟨by omega, by rw [Int.mul_comm]; exact h2, by rw [Int.mul_comm]; exact h3⟩
theorem box_on {a b c : Pt} (h : onL a b c = true) (d : Pt) : Boxes a b c d := by
  obtain ⟨_, h1, h2⟩ := onB.mp h
  have b1 := between.mp h1
  have b2 := between.mp h2
  exact ⟨⟨by omega, by omega⟩, by omega, by omega⟩
/-- a corner on the other side -/
theorem MM_on {a b c : Pt} (hab : a ≠ b) (h : onL a b c = true) (d : Pt) : MM a b c d := by
  refine ⟨box_on h d, ?_⟩
  obtain ⟨h0, h1, h2⟩ := onB.mp h
  refine ⟨by rw [h0, Int.zero_mul]; exact Int.le_refl _, ?_⟩
  have e1 := on0 a b c d h0
  have e2 := on1 a b c d h0
  have q1 := mul_le (sq_nonneg (side a b d)) h1
  have q2 := mul_le (sq_nonneg (side a b d)) h2
  rw [e1] at q1
  rw [e2] at q2
  by_cases h3 : b.1 - a.1 = 0
  · have h4 : b.2 - a.2 ≠ 0 := fun z => hab (Prod.ext (by omega) (by omega))
    rw [Int.mul_comm] at q2
    exact le_of_mul (sq_pos h4) q2
  · rw [Int.mul_comm] at q1
    exact le_of_mul (sq_pos h3) q1
/-- weights -/
theorem weight {u v x y m : Int} (hu : 0 ≤ u) (hv : 0 ≤ v) (hx : x ≤ m) (hy : y ≤ m) : u * x + v * y ≤ (u + v) * m := by
  have h1 := Int.mul_le_mul_of_nonneg_left hx hu
  have h2 := Int.mul_le_mul_of_nonneg_left hy hv
  rw [Int.add_mul]
  omega
theorem weight' {u v x y m : Int} (hu : 0 ≤ u) (hv : 0 ≤ v) (hx : m ≤ x) (hy : m ≤ y) : (u + v) * m ≤ u * x + v * y := by
  have h1 := Int.mul_le_mul_of_nonneg_left hx hu
  have h2 := Int.mul_le_mul_of_nonneg_left hy hv
  rw [Int.add_mul]
  omega
/-- one coordinate of two sides that cross -/
theorem cross_box {a b c d s1 s2 s3 s4 : Int} (hD : s2 - s1 = s3 - s4) (hp : 0 < s2 - s1) (h12 : s1 ≤ 0 ∧ 0 ≤ s2) (h34 : s4 ≤ 0 ∧ 0 ≤ s3) (e : s3 * b - s4 * a = s2 * c - s1 * d) : min a b ≤ max c d ∧ min c d ≤ max a b := by
  have e2 : s3 * b + (-s4) * a = s2 * c + (-s1) * d := by
    rw [Int.neg_mul, Int.neg_mul]
    omega
  constructor
  · refine Decidable.byContradiction fun h => ?_
    have w1 := weight (m := max c d) (show 0 ≤ s2 by omega) (show 0 ≤ -s1 by omega) (show c ≤ max c d by omega) (show d ≤ max c d by omega)
    have w2 := weight' (m := max c d + 1) (show 0 ≤ s3 by omega) (show 0 ≤ -s4 by omega) (show max c d + 1 ≤ b by omega) (show max c d + 1 ≤ a by omega)
    rw [show s3 + -s4 = s2 - s1 by omega, Int.mul_add, Int.mul_one] at w2
    rw [show s2 + -s1 = s2 - s1 by omega] at w1
    omega
  · refine Decidable.byContradiction fun h => ?_
    have w1 := weight (m := max a b) (show 0 ≤ s3 by omega) (show 0 ≤ -s4 by omega) (show b ≤ max a b by omega) (show a ≤ max a b by omega)
    have w2 := weight' (m := max a b + 1) (show 0 ≤ s2 by omega) (show 0 ≤ -s1 by omega) (show max a b + 1 ≤ c by omega) (show max a b + 1 ≤ d by omega)
    rw [show s2 + -s1 = s2 - s1 by omega, Int.mul_add, Int.mul_one] at w2
    rw [show s3 + -s4 = s2 - s1 by omega] at w1
    omega
theorem cross_boxes {a b c d : Pt} (h12 : side a b c * side a b d ≤ 0) (h34 : side c d a * side c d b ≤ 0) (hD : side a b d - side a b c ≠ 0) : Boxes a b c d := by
  have e := D_eq a b c d
  have x0 := cross0 a b c d
  have x1 := cross1 a b c d
  have o1 := opp_iff.mp h12
  have o2 := opp_iff.mp h34
  generalize side a b c = s1 at *
  generalize side a b d = s2 at *
  generalize side c d a = s3 at *
  generalize side c d b = s4 at *
  rcases Int.lt_or_gt_of_ne hD with h | h
  · have f : ∀ {x y z w : Int}, s3 * y - s4 * x = s2 * z - s1 * w → (-s3) * y - (-s4) * x = (-s2) * z - (-s1) * w := fun {x y z w} h => by
      rw [Int.neg_mul, Int.neg_mul, Int.neg_mul, Int.neg_mul]
      omega
    exact ⟨cross_box (s1 := -s1) (s2 := -s2) (s3 := -s3) (s4 := -s4) (by omega) (by omega) (by omega) (by omega) (f x0), cross_box (s1 := -s1) (s2 := -s2) (s3 := -s3) (s4 := -s4) (by omega) (by omega) (by omega) (by omega) (f x1)⟩
  · exact ⟨cross_box e (by omega) (by omega) (by omega) x0, cross_box e (by omega) (by omega) (by omega) x1⟩
theorem meet_MM {a b c d : Pt} (hab : a ≠ b) (hcd : c ≠ d) (h : meetL a b c d = true) : MM a b c d := by
  unfold meetL at h
  rcases (Bool.or_eq_true ..).mp h with h | h
  · rcases (Bool.or_eq_true ..).mp h with h | h
    · exact MM_on hab h d
    · rcases (Bool.or_eq_true ..).mp h with h | h
      · exact MM_swap (MM_on hab h c)
      · rcases (Bool.or_eq_true ..).mp h with h | h
        · exact MM_sym (MM_on hcd h b)
        · exact MM_sym (MM_swap (MM_on hcd h a))
  · simp only [Bool.and_eq_true, Bool.not_eq_true', decide_eq_false_iff_not, decide_eq_decide] at h
    have h12 : side a b c * side a b d ≤ 0 := opp_iff.mpr (by omega)
    have h34 : side c d a * side c d b ≤ 0 := opp_iff.mpr (by omega)
    exact ⟨cross_boxes h12 h34 (by omega), h12, h34⟩
/-- all on one line -/
theorem on_line {a b x y z : Pt} (hab : a.1 ≠ b.1) (h1 : (x.2 - y.2) * (b.1 - a.1) = (x.1 - y.1) * (b.2 - a.2)) (h2 : (x.2 - z.2) * (b.1 - a.1) = (x.1 - z.1) * (b.2 - a.2)) (h : (x.1 - y.1) * (x.1 - z.1) ≤ 0) : (x.2 - y.2) * (x.2 - z.2) ≤ 0 := by
  have e : ((b.1 - a.1) * (b.1 - a.1)) * ((x.2 - y.2) * (x.2 - z.2)) = ((b.2 - a.2) * (b.2 - a.2)) * ((x.1 - y.1) * (x.1 - z.1)) := by grind
  have q := mul_le (sq_nonneg (b.2 - a.2)) h
  rw [← e] at q
  exact le_of_mul (sq_pos (by omega)) q
theorem MM_line {a b c d : Pt} (hab : a.1 ≠ b.1) (hb : Boxes a b c d) (h1 : side a b c = 0) (h2 : side a b d = 0) (h3 : side c d a = 0) (h4 : side c d b = 0) : onL a b c = true ∨ onL a b d = true ∨ onL c d a = true ∨ onL c d b = true := by
  have r1 : (c.2 - a.2) * (b.1 - a.1) = (c.1 - a.1) * (b.2 - a.2) := by
    unfold side at h1
    grind
  have r2 : (d.2 - a.2) * (b.1 - a.1) = (d.1 - a.1) * (b.2 - a.2) := by
    unfold side at h2
    grind
  have ov : (min a.1 b.1 ≤ c.1 ∧ c.1 ≤ max a.1 b.1) ∨ (min a.1 b.1 ≤ d.1 ∧ d.1 ≤ max a.1 b.1) ∨ (min c.1 d.1 ≤ a.1 ∧ a.1 ≤ max c.1 d.1) ∨ (min c.1 d.1 ≤ b.1 ∧ b.1 ≤ max c.1 d.1) := by
    have := hb.1
    omega
  rcases ov with o | o | o | o
  · exact .inl (onB.mpr ⟨h1, between.mpr o, on_line hab r1 (by grind) (between.mpr o)⟩)
  · exact .inr (.inl (onB.mpr ⟨h2, between.mpr o, on_line hab r2 (by grind) (between.mpr o)⟩))
  · exact .inr (.inr (.inl (onB.mpr ⟨h3, between.mpr o, on_line hab (by grind) (by grind) (between.mpr o)⟩)))
  · exact .inr (.inr (.inr (onB.mpr ⟨h4, between.mpr o, on_line hab (by grind) (by grind) (between.mpr o)⟩)))
/-- latitude and longitude changed -/
def fl (p : Pt) : Pt := (p.2, p.1)
theorem side_fl (a b c : Pt) : side (fl a) (fl b) (fl c) = -side a b c := by
  unfold side fl
  grind
theorem onL_fl (a b c : Pt) : onL (fl a) (fl b) (fl c) = onL a b c := by
  rw [Bool.eq_iff_iff, onB, onB, side_fl]
  constructor
  · intro ⟨h1, h2, h3⟩
    exact ⟨by omega, h3, h2⟩
  · intro ⟨h1, h2, h3⟩
    exact ⟨by omega, h3, h2⟩
theorem MM_meet {a b c d : Pt} (hab : a ≠ b) (h : MM a b c d) : meetL a b c d = true := by
  obtain ⟨hb, h12, h34⟩ := h
  have any : (onL a b c = true ∨ onL a b d = true ∨ onL c d a = true ∨ onL c d b = true) → meetL a b c d = true := fun h => by
    unfold meetL
    rcases h with h | h | h | h <;> simp [h]
  have e := D_eq a b c d
  by_cases hD : side a b d - side a b c = 0
  · have z1 : side a b c = 0 := by
      have e1 : side a b d = side a b c := by omega
      rw [e1] at h12
      refine Decidable.byContradiction fun z => ?_
      have := sq_pos z
      omega
    have z2 : side a b d = 0 := by omega
    have z3 : side c d a = 0 := by
      have e1 : side c d b = side c d a := by omega
      rw [e1] at h34
      refine Decidable.byContradiction fun z => ?_
      have := sq_pos z
      omega
    have z4 : side c d b = 0 := by omega
    by_cases h0 : a.1 = b.1
    · have h1 : a.2 ≠ b.2 := fun z => hab (Prod.ext h0 z)
      have := MM_line (a := fl a) (b := fl b) (c := fl c) (d := fl d) h1 ⟨hb.2, hb.1⟩ (by rw [side_fl]; omega) (by rw [side_fl]; omega) (by rw [side_fl]; omega) (by rw [side_fl]; omega)
      rw [onL_fl, onL_fl, onL_fl, onL_fl] at this
      exact any this
    · exact any (MM_line h0 hb z1 z2 z3 z4)
  · have on : ∀ {a b c d : Pt}, side a b d - side a b c ≠ 0 → side c d a * side c d b ≤ 0 → side a b c = 0 → onL a b c = true := fun {a b c d} hD h34 z => by
      have hd : side a b d ≠ 0 := by omega
      have e1 := on0 a b c d z
      have e2 := on1 a b c d z
      have q1 := mul_le (sq_nonneg (b.1 - a.1)) h34
      have q2 := mul_le (sq_nonneg (b.2 - a.2)) h34
      rw [Int.mul_comm, ← e1] at q1
      rw [Int.mul_comm, ← e2] at q2
      exact onB.mpr ⟨z, le_of_mul (sq_pos hd) q1, le_of_mul (sq_pos hd) q2⟩
    by_cases z1 : side a b c = 0
    · exact any (.inl (on hD h34 z1))
    by_cases z2 : side a b d = 0
    · refine any (.inr (.inl (on (d := c) (by omega) ?_ z2)))
      rw [side_swap c d, side_swap c d, Int.neg_mul_neg]
      exact h34
    by_cases z3 : side c d a = 0
    · exact any (.inr (.inr (.inl (on (d := b) (by omega) h12 z3))))
    by_cases z4 : side c d b = 0
    · refine any (.inr (.inr (.inr (on (d := a) (by omega) ?_ z4))))
      rw [side_swap a b, side_swap a b, Int.neg_mul_neg]
      exact h12
    have o1 := opp_iff.mp h12
    have o2 := opp_iff.mp h34
    unfold meetL
    have t1 : (!decide (decide (side a b c > 0) = decide (side a b d > 0))) = true := by
      simp only [Bool.not_eq_true', decide_eq_false_iff_not, decide_eq_decide]
      omega
    have t2 : (!decide (decide (side c d a > 0) = decide (side c d b > 0))) = true := by
      simp only [Bool.not_eq_true', decide_eq_false_iff_not, decide_eq_decide]
      omega
    rw [t1, t2]
    simp
theorem meet_iff {a b c d : Pt} (hab : a ≠ b) (hcd : c ≠ d) : meetL a b c d = true ↔ MM a b c d := ⟨meet_MM hab hcd, MM_meet hab⟩
/-! ### neighbors -/
def dot (a b c : Pt) : Int := (a.1 - b.1) * (c.1 - b.1) + (a.2 - b.2) * (c.2 - b.2)
def fold (a b c : Pt) : Bool := decide (side a b c = 0) && decide (dot a b c > 0)
theorem step_le {u v : Int} (h : v.natAbs ≤ u.natAbs) (hp : 0 ≤ u * v) : (v - u) * v ≤ 0 := by
  rcases Int.lt_trichotomy v 0 with hv | hv | hv
  · have hu : u ≤ 0 := by
      refine Decidable.byContradiction fun z => ?_
      have := Int.mul_pos (show 0 < u by omega) (show 0 < -v by omega)
      rw [Int.mul_neg] at this
      omega
    have := Int.mul_nonneg (show 0 ≤ v - u by omega) (show 0 ≤ -v by omega)
    rw [Int.mul_neg] at this
    omega
  · rw [hv, Int.mul_zero]
    exact Int.le_refl _
  · have hu : 0 ≤ u := by
      refine Decidable.byContradiction fun z => ?_
      have := Int.mul_pos (show 0 < -u by omega) hv
      rw [Int.neg_mul] at this
      omega
    have := Int.mul_nonneg (show 0 ≤ u - v by omega) (show 0 ≤ v by omega)
    rw [show u - v = -(v - u) by omega, Int.neg_mul] at this
    omega
theorem abs_order {A B C D : Nat} (h : A * D = B * C) : (C ≤ A ∧ D ≤ B) ∨ (A ≤ C ∧ B ≤ D) := by
  rcases Nat.lt_trichotomy C A with h1 | h1 | h1
  · rcases Nat.lt_or_ge B D with h2 | h2
    · have h3 : B * C < A * D := Nat.lt_of_le_of_lt (Nat.mul_le_mul_right _ (Nat.le_of_lt h2)) (by rw [Nat.mul_comm D C]; exact Nat.mul_lt_mul_of_pos_right h1 (by omega))
      omega
    · exact .inl ⟨by omega, h2⟩
  · rcases Nat.le_total D B with h2 | h2
    · exact .inl ⟨by omega, h2⟩
    · exact .inr ⟨by omega, h2⟩
  · rcases Nat.lt_or_ge D B with h2 | h2
    · have h3 : A * D < B * C := Nat.lt_of_le_of_lt (Nat.mul_le_mul_right _ (Nat.le_of_lt h1)) (by rw [Nat.mul_comm B C]; exact Nat.mul_lt_mul_of_pos_left h2 (by omega))
      omega
    · exact .inr ⟨by omega, h2⟩
theorem fold_raw {u0 u1 v0 v1 : Int} (h : u0 * v1 = u1 * v0) (hd : 0 < u0 * v0 + u1 * v1) : ((v0 - u0) * v0 ≤ 0 ∧ (v1 - u1) * v1 ≤ 0) ∨ ((u0 - v0) * u0 ≤ 0 ∧ (u1 - v1) * u1 ≤ 0) := by
  have e : (u0 * v0) * (u1 * v1) = (u0 * v1) * (u0 * v1) := by grind
  have q := sq_nonneg (u0 * v1)
  rw [← e] at q
  have hp0 : 0 ≤ u0 * v0 := by
    refine Decidable.byContradiction fun z => ?_
    have := Int.mul_pos (show 0 < -(u0 * v0) by omega) (show 0 < u1 * v1 by omega)
    rw [Int.neg_mul] at this
    omega
  have hp1 : 0 ≤ u1 * v1 := by
    refine Decidable.byContradiction fun z => ?_
    have := Int.mul_pos (show 0 < u0 * v0 by omega) (show 0 < -(u1 * v1) by omega)
    rw [Int.mul_neg] at this
    omega
  have ha : u0.natAbs * v1.natAbs = u1.natAbs * v0.natAbs := by rw [← Int.natAbs_mul, ← Int.natAbs_mul, h]
  rcases abs_order ha with ⟨h1, h2⟩ | ⟨h1, h2⟩
  · exact .inl ⟨step_le h1 hp0, step_le h2 hp1⟩
  · exact .inr ⟨step_le h1 (by rw [Int.mul_comm]; exact hp0), step_le h2 (by rw [Int.mul_comm]; exact hp1)⟩
theorem fold_iff {a b c : Pt} (hab : a ≠ b) (hbc : b ≠ c) : fold a b c = true ↔ (onL a b c = true ∨ onL b c a = true) := by
  have e1 : side b c a = side a b c := by
    unfold side
    grind
  unfold fold
  rw [Bool.and_eq_true, decide_eq_true_eq, decide_eq_true_eq, onB, onB, e1]
  constructor
  · intro ⟨h, hd⟩
    have hs : (a.1 - b.1) * (c.2 - b.2) = (a.2 - b.2) * (c.1 - b.1) := by
      unfold side at h
      grind
    have hd' : 0 < (a.1 - b.1) * (c.1 - b.1) + (a.2 - b.2) * (c.2 - b.2) := hd
    rcases fold_raw hs hd' with ⟨h1, h2⟩ | ⟨h1, h2⟩
    · refine .inl ⟨h, ?_, ?_⟩
      · rw [show c.1 - a.1 = c.1 - b.1 - (a.1 - b.1) by omega]
        exact h1
      · rw [show c.2 - a.2 = c.2 - b.2 - (a.2 - b.2) by omega]
        exact h2
    · refine .inr ⟨h, ?_, ?_⟩
      · rw [Int.mul_comm, show a.1 - c.1 = a.1 - b.1 - (c.1 - b.1) by omega]
        exact h1
      · rw [Int.mul_comm, show a.2 - c.2 = a.2 - b.2 - (c.2 - b.2) by omega]
        exact h2
  · intro hh
    have h : side a b c = 0 := by
      rcases hh with hh | hh
      · exact hh.1
      · exact hh.1
    refine ⟨h, ?_⟩
    rcases hh with ⟨_, h1, h2⟩ | ⟨_, h1, h2⟩
    · have e2 : dot a b c = (c.1 - b.1) * (c.1 - b.1) + (c.2 - b.2) * (c.2 - b.2) - ((c.1 - a.1) * (c.1 - b.1) + (c.2 - a.2) * (c.2 - b.2)) := by
        unfold dot
        grind
      have s1 := sq_nonneg (c.1 - b.1)
      have s2 := sq_nonneg (c.2 - b.2)
      by_cases z : c.1 - b.1 = 0
      · have z2 : c.2 - b.2 ≠ 0 := fun y => hbc (Prod.ext (by omega) (by omega))
        have := sq_pos z2
        omega
      · have := sq_pos z
        omega
    · have e2 : dot a b c = (a.1 - b.1) * (a.1 - b.1) + (a.2 - b.2) * (a.2 - b.2) - ((a.1 - b.1) * (a.1 - c.1) + (a.2 - b.2) * (a.2 - c.2)) := by
        unfold dot
        grind
      have s1 := sq_nonneg (a.1 - b.1)
      have s2 := sq_nonneg (a.2 - b.2)
      by_cases z : a.1 - b.1 = 0
      · have z2 : a.2 - b.2 ≠ 0 := fun y => hab (Prod.ext (by omega) (by omega))
        have := sq_pos z2
        omega
      · have := sq_pos z
        omega
theorem fold_sym (a b c : Pt) : fold c b a = fold a b c := by
  have e1 : side c b a = -side a b c := by
    unfold side
    grind
  have e2 : dot c b a = dot a b c := by
    unfold dot
    grind
  unfold fold
  rw [e1, e2]
  congr 1
  rw [decide_eq_decide]
  omega
/-! ### simple polygons, by indexes -/
def nx (n i : Nat) : Nat := if i + 1 = n then 0 else i + 1
/-- no neighbors, not the same -/
def Far (n i j : Nat) : Prop := i ≠ j ∧ nx n i ≠ j ∧ nx n j ≠ i
structure Good (n : Nat) (f : Nat → Pt) : Prop where
  ne : ∀ i, i < n → f i ≠ f (nx n i)
  fo : ∀ i, i < n → fold (f i) (f (nx n i)) (f (nx n (nx n i))) = false
  me : ∀ i j, i < n → j < n → Far n i j → ¬ MM (f i) (f (nx n i)) (f j) (f (nx n j))
theorem nx_lt {n i : Nat} (h : i < n) : nx n i < n := by
  unfold nx
  split <;> omega
theorem Good.congr {n : Nat} {f g : Nat → Pt} (h : Good n f) (e : ∀ i, i < n → g i = f i) : Good n g := by
  refine ⟨fun i hi => ?_, fun i hi => ?_, fun i j hi hj hf => ?_⟩
  · rw [e i hi, e _ (nx_lt hi)]
    exact h.ne i hi
  · rw [e i hi, e _ (nx_lt hi), e _ (nx_lt (nx_lt hi))]
    exact h.fo i hi
  · rw [e i hi, e _ (nx_lt hi), e j hj, e _ (nx_lt hj)]
    exact h.me i j hi hj hf
/-- going on from another corner -/
def ro (n a i : Nat) : Nat := if i + a < n then i + a else i + a - n
theorem Good.rot {n a : Nat} {f : Nat → Pt} (h : Good n f) (ha : a ≤ n) : Good n fun i => f (ro n a i) := by
  have lt : ∀ {i}, i < n → ro n a i < n := fun {i} hi => by
    unfold ro
    split <;> omega
  have nr : ∀ {i}, i < n → ro n a (nx n i) = nx n (ro n a i) := fun {i} hi => by
    unfold ro nx
    repeat' split
    all_goals omega
  have inj : ∀ {i j}, i < n → j < n → ro n a i = ro n a j → i = j := fun {i j} hi hj e => by
    unfold ro at e
    split at e <;> split at e <;> omega
  refine ⟨fun i hi => ?_, fun i hi => ?_, fun i j hi hj hf => ?_⟩
  · show f (ro n a i) ≠ f (ro n a (nx n i))
    rw [nr hi]
    exact h.ne _ (lt hi)
  · show fold (f (ro n a i)) (f (ro n a (nx n i))) (f (ro n a (nx n (nx n i)))) = false
    rw [nr (nx_lt hi), nr hi]
    exact h.fo _ (lt hi)
  · show ¬ MM (f (ro n a i)) (f (ro n a (nx n i))) (f (ro n a j)) (f (ro n a (nx n j)))
    rw [nr hi, nr hj]
    refine h.me _ _ (lt hi) (lt hj) ⟨fun e => hf.1 (inj hi hj e), fun e => hf.2.1 ?_, fun e => hf.2.2 ?_⟩
    · rw [← nr hi] at e
      exact inj (nx_lt hi) hj e
    · rw [← nr hj] at e
      exact inj (nx_lt hj) hi e
theorem rot_back {n a : Nat} (ha : a ≤ n) {i : Nat} (hi : i < n) : ro n a (ro n (n - a) i) = i := by
  unfold ro
  repeat' split
  all_goals omega
theorem good_rot {n a : Nat} {f : Nat → Pt} (ha : a ≤ n) : Good n (fun i => f (ro n a i)) ↔ Good n f := by
  constructor
  · intro h
    have h2 := h.rot (a := n - a) (by omega)
    exact h2.congr fun i hi => by
      show f i = f (ro n a (ro n (n - a) i))
      rw [rot_back ha hi]
  · intro h
    exact h.rot ha
theorem Good.rev {n : Nat} {f : Nat → Pt} (h : Good n f) : Good n fun i => f (n - 1 - i) := by
  have lt : ∀ {i}, i < n → n - 1 - i < n := fun {i} hi => by omega
  have nr : ∀ {i}, i < n → nx n (n - 1 - nx n i) = n - 1 - i := fun {i} hi => by
    unfold nx
    repeat' split
    all_goals omega
  refine ⟨fun i hi => ?_, fun i hi => ?_, fun i j hi hj hf => ?_⟩
  · have := h.ne (n - 1 - nx n i) (lt (nx_lt hi))
    rw [nr hi] at this
    exact fun e => this e.symm
  · have := h.fo (n - 1 - nx n (nx n i)) (lt (nx_lt (nx_lt hi)))
    rw [nr (nx_lt hi), nr hi] at this
    show fold (f (n - 1 - i)) (f (n - 1 - nx n i)) (f (n - 1 - nx n (nx n i))) = false
    rw [fold_sym]
    exact this
  · have hi1 := nx_lt hi
    have hj1 := nx_lt hj
    have := h.me (n - 1 - nx n i) (n - 1 - nx n j) (lt hi1) (lt hj1) (by
      obtain ⟨h1, h2, h3⟩ := hf
      unfold Far nx at *
      refine ⟨?_, ?_, ?_⟩
      all_goals (repeat' split at *)
      all_goals omega)
    rw [nr hi, nr hj] at this
    intro z
    apply this
    have z2 := MM_swap z
    have z3 := MM_sym z2
    have z4 := MM_swap z3
    exact MM_sym z4
theorem good_rev {n : Nat} {f : Nat → Pt} : Good n (fun i => f (n - 1 - i)) ↔ Good n f := by
  constructor
  · intro h
    exact h.rev.congr fun i hi => by
      show f i = f (n - 1 - (n - 1 - i))
      rw [show n - 1 - (n - 1 - i) = i by omega]
  · intro h
    exact h.rev
/-! ### side by side, as the law goes -/
/-- what the law finds of the sides k and j, k < j -/
def Cell (n : Nat) (f : Nat → Pt) (k j : Nat) : Bool :=
  if j = k + 1 then onL (f k) (f (nx n k)) (f (nx n j)) || onL (f j) (f (nx n j)) (f k)
  else if k = 0 ∧ j = n - 1 then onL (f k) (f (nx n k)) (f j) || onL (f j) (f (nx n j)) (f (nx n k))
  else meetL (f k) (f (nx n k)) (f j) (f (nx n j))
theorem good_of_rows {n : Nat} {f : Nat → Pt} (h3 : 3 ≤ n) (h1 : ∀ k, k < n → f k ≠ f (nx n k)) (h2 : ∀ k j, k < j → j < n → Cell n f k j = false) : Good n f := by
  have fo : ∀ i, i < n → fold (f i) (f (nx n i)) (f (nx n (nx n i))) = false := fun i hi => by
    have e1 := h1 i hi
    have e2 := h1 (nx n i) (nx_lt hi)
    cases hf : fold (f i) (f (nx n i)) (f (nx n (nx n i))) with
    | false => rfl
    | true =>
      have hon := (fold_iff e1 e2).mp hf
      by_cases hl : i + 1 = n
      · have hx : nx n i = 0 := by unfold nx; rw [if_pos hl]
        have hc := h2 0 i (by omega) hi
        unfold Cell at hc
        rw [if_neg (by omega), if_pos ⟨rfl, by omega⟩, hx, Bool.or_eq_false_iff] at hc
        rw [hx] at hon
        rcases hon with hon | hon
        · rw [hon] at hc
          cases hc.2
        · rw [hon] at hc
          cases hc.1
      · have hx : nx n i = i + 1 := by unfold nx; rw [if_neg hl]
        have hc := h2 i (i + 1) (by omega) (by omega)
        unfold Cell at hc
        rw [if_pos rfl, hx, Bool.or_eq_false_iff] at hc
        rw [hx] at hon
        rcases hon with hon | hon
        · rw [hon] at hc
          cases hc.1
        · rw [hon] at hc
          cases hc.2
  have me : ∀ i j, i < j → j < n → Far n i j → ¬ MM (f i) (f (nx n i)) (f j) (f (nx n j)) := fun i j hij hj hf hm => by
    have hc := h2 i j hij hj
    have c1 : ¬ j = i + 1 := fun z => hf.2.1 (by unfold nx; split <;> omega)
    have c2 : ¬ (i = 0 ∧ j = n - 1) := fun z => hf.2.2 (by unfold nx; split <;> omega)
    unfold Cell at hc
    rw [if_neg c1, if_neg c2] at hc
    rw [(meet_iff (h1 i (by omega)) (h1 j hj)).mpr hm] at hc
    cases hc
  refine ⟨h1, fo, fun i j hi hj hf hm => ?_⟩
  rcases Nat.lt_or_gt_of_ne hf.1 with z | z
  · exact me i j z hj hf hm
  · exact me j i z hi ⟨fun e => hf.1 e.symm, hf.2.2, hf.2.1⟩ (MM_sym hm)
theorem not_good_cell {n : Nat} {f : Nat → Pt} (h3 : 3 ≤ n) {k j : Nat} (hkj : k < j) (hj : j < n) (h : Cell n f k j = true) : ¬ Good n f := fun g => by
  have e1 := g.ne k (by omega)
  have e2 := g.ne j hj
  unfold Cell at h
  by_cases c1 : j = k + 1
  · rw [if_pos c1, Bool.or_eq_true] at h
    have hx : nx n k = j := by unfold nx; split <;> omega
    have hf := g.fo k (by omega)
    rw [hx] at h hf e1
    rw [(fold_iff e1 e2).mpr h] at hf
    cases hf
  · rw [if_neg c1] at h
    by_cases c2 : k = 0 ∧ j = n - 1
    · rw [if_pos c2, Bool.or_eq_true] at h
      have hx : nx n j = k := by unfold nx; split <;> omega
      have hf := g.fo j hj
      rw [hx] at h hf e2
      rw [(fold_iff e2 e1).mpr (h.elim .inr .inl)] at hf
      cases hf
    · rw [if_neg c2] at h
      refine g.me k j (by omega) hj ⟨by omega, ?_, ?_⟩ ((meet_iff e1 e2).mp h)
      · unfold nx
        split <;> omega
      · unfold nx
        split <;> omega
/-- two sides that are no neighbors have a place in common -/
def Meets (n : Nat) (f : Nat → Pt) : Prop := ∃ i j, i < n ∧ j < n ∧ Far n i j ∧ MM (f i) (f (nx n i)) (f j) (f (nx n j))
theorem good_iff {n : Nat} {f : Nat → Pt} : Good n f ↔ (∀ i, i < n → f i ≠ f (nx n i)) ∧ (∀ i, i < n → fold (f i) (f (nx n i)) (f (nx n (nx n i))) = false) ∧ ¬ Meets n f :=
  ⟨fun g => ⟨g.ne, g.fo, fun ⟨i, j, hi, hj, hf, hm⟩ => g.me i j hi hj hf hm⟩, fun ⟨h1, h2, h3⟩ => ⟨h1, h2, fun i j hi hj hf hm => h3 ⟨i, j, hi, hj, hf, hm⟩⟩⟩
theorem mod_far {n i j : Nat} (h3 : 3 ≤ n) (hi : i < n) (hj : j < n) (hij : i ≠ j) : ((i : Int) - (j : Int)) % (n : Int) ∈ ([1, (n : Int) - 1] : List Int) ↔ ¬ (nx n i ≠ j ∧ nx n j ≠ i) := by
  have hm : ((i : Int) - (j : Int)) % (n : Int) = if j ≤ i then (i : Int) - j else (i : Int) - j + n := by
    split
    · exact Int.emod_eq_of_lt (by omega) (by omega)
    · rw [← Int.add_emod_right]
      exact Int.emod_eq_of_lt (by omega) (by omega)
  rw [hm]
  simp only [List.mem_cons, List.not_mem_nil, or_false]
  unfold nx
  repeat' split
  all_goals omega
def parted (a b c d : Pt) : Bool := !(decide (side a b c > 0) && decide (side a b d > 0)) && !(decide (side a b c < 0) && decide (side a b d < 0))
theorem parted_iff {a b c d : Pt} : parted a b c d = true ↔ side a b c * side a b d ≤ 0 := by
  rw [opp_iff]
  unfold parted
  simp only [Bool.and_eq_true, Bool.not_eq_true', Bool.and_eq_false_iff, decide_eq_false_iff_not]
  omega
/-- as the program says it, when the longitudes overlap -/
def doM (a b c d : Pt) : Bool := !(decide (max a.1 b.1 < min c.1 d.1) || decide (max c.1 d.1 < min a.1 b.1)) && (parted a b c d && parted c d a b)
theorem doM_iff {a b c d : Pt} (h1 : min a.2 b.2 ≤ min c.2 d.2) (h2 : min c.2 d.2 ≤ max a.2 b.2) : doM a b c d = true ↔ MM a b c d := by
  unfold doM MM Boxes
  rw [Bool.and_eq_true, Bool.and_eq_true, parted_iff, parted_iff, Bool.not_eq_true', Bool.or_eq_false_iff, decide_eq_false_iff_not, decide_eq_false_iff_not]
  constructor
  · intro ⟨⟨g1, g2⟩, g3, g4⟩
    exact ⟨⟨⟨by omega, by omega⟩, by omega, by omega⟩, g3, g4⟩
  · intro ⟨⟨⟨g1, g2⟩, g5, g6⟩, g3, g4⟩
    exact ⟨⟨by omega, by omega⟩, g3, g4⟩
end Sg

/-! Own data: sides of a list of corners by their indexes, and in the order of their west ends. -/
namespace Ja
open Pg (Pt)
open Sg (nx)
def fP (ps : List Pt) (i : Nat) : Pt := ps.getD i (0, 0)
theorem fP_at {ps : List Pt} {i : Nat} (h : i < ps.length) : ps[i]? = some (fP ps i) := by
  unfold fP
  rw [List.getD_eq_getElem?_getD, List.getElem?_eq_getElem h]
  rfl
theorem fP_mem {ps : List Pt} {i : Nat} (h : i < ps.length) : fP ps i ∈ ps := List.mem_of_getElem? (fP_at h)
theorem rot1_at {A : Type} : ∀ {xs : List A} {i : Nat}, i < xs.length → (xs.drop 1 ++ xs.take 1)[i]? = xs[nx xs.length i]?
  | x :: r, i, h => by
    show (r ++ [x])[i]? = (x :: r)[nx (r.length + 1) i]?
    unfold nx
    by_cases e : i + 1 = r.length + 1
    · rw [if_pos e, List.getElem?_append_right (by omega), show i - r.length = 0 by omega]
      rfl
    · have h2 : i < r.length + 1 := h
      rw [if_neg e, List.getElem?_append_left (by omega)]
      rfl
theorem sides_at {ps : List Pt} {i : Nat} (h : i < ps.length) : (sidesL ps)[i]? = some (fP ps i, fP ps (nx ps.length i)) := by
  unfold sidesL
  refine List.getElem?_zip_eq_some.mpr ⟨fP_at h, ?_⟩
  rw [rot1_at h]
  exact fP_at (Sg.nx_lt h)
def wst (s : Pt × Pt) : Int := min s.1.2 s.2.2
def westL (ps : List Pt) : List Pt := (sidesL ps).zipIdx.map fun p => (wst p.1, (p.2 : Int))
/-- west end of the side i -/
def wI (ps : List Pt) (i : Nat) : Int := wst (fP ps i, fP ps (nx ps.length i))
theorem west_mem {ps : List Pt} {q : Pt} : q ∈ westL ps ↔ ∃ i, i < ps.length ∧ q = (wI ps i, (i : Int)) := by
  unfold westL
  rw [List.mem_map]
  constructor
  · rintro ⟨⟨s, k⟩, h, rfl⟩
    have h1 := List.mem_zipIdx_iff_getElem?.mp h
    have hk : k < ps.length := by
      have := (List.getElem?_eq_some_iff.mp h1).1
      rwa [sides_len] at this
    refine ⟨k, hk, ?_⟩
    have h2 : (sidesL ps)[k]? = some s := h1
    rw [sides_at hk] at h2
    cases Option.some.inj h2
    rfl
  · rintro ⟨i, hi, rfl⟩
    exact ⟨((fP ps i, fP ps (nx ps.length i)), i), List.mem_zipIdx_iff_getElem?.mpr (sides_at hi), rfl⟩
theorem west_nodup (ps : List Pt) : (westL ps).Nodup := by
  have h : ((westL ps).map Prod.snd).Nodup := by
    unfold westL
    rw [List.map_map]
    have e : (Prod.snd ∘ fun p : (Pt × Pt) × Nat => (wst p.1, (p.2 : Int))) = (fun k : Nat => (k : Int)) ∘ Prod.snd := rfl
    rw [e, ← List.map_map, List.zipIdx_map_snd]
    exact List.Pairwise.map _ (fun a b h z => h (Int.ofNat.inj z)) List.nodup_range'
  exact List.Pairwise.of_map Prod.snd (fun a b h z => h (by rw [z])) h
structure Swept (ps qs : List Pt) : Prop where
  len : qs.length = ps.length
  at_ : ∀ r, r < ps.length → ∃ i, i < ps.length ∧ qs[r]? = some (wI ps i, (i : Int))
  all : ∀ i, i < ps.length → ∃ r, r < ps.length ∧ qs[r]? = some (wI ps i, (i : Int))
  ord : ∀ (r b i j : Nat), r < b → qs[r]? = some (wI ps i, (i : Int)) → qs[b]? = some (wI ps j, (j : Int)) → i ≠ j ∧ wI ps i ≤ wI ps j
theorem swept {ps qs : List Pt} (h : qs.Perm (westL ps)) (hs : qs.Pairwise fun p q => SrtO.lexB q p = false) : Swept ps qs := by
  have hl : qs.length = ps.length := by
    rw [h.length_eq]
    unfold westL
    rw [List.length_map, List.length_zipIdx, sides_len]
  have nd : qs.Nodup := h.nodup_iff.mpr (west_nodup ps)
  refine ⟨hl, fun r hr => ?_, fun i hi => ?_, fun r b i j hrb h1 h2 => ?_⟩
  · have hr2 : r < qs.length := by omega
    obtain ⟨i, hi, e⟩ := west_mem.mp (h.mem_iff.mp (List.getElem_mem hr2))
    exact ⟨i, hi, by rw [List.getElem?_eq_getElem hr2, e]⟩
  · obtain ⟨r, hr, e⟩ := List.getElem_of_mem (h.mem_iff.mpr (west_mem.mpr ⟨i, hi, rfl⟩))
    exact ⟨r, by omega, by rw [List.getElem?_eq_getElem hr, e]⟩
  · obtain ⟨hr, e1⟩ := List.getElem?_eq_some_iff.mp h1
    obtain ⟨hb, e2⟩ := List.getElem?_eq_some_iff.mp h2
    have p1 := List.pairwise_iff_getElem.mp hs r b hr hb hrb
    have p2 := List.pairwise_iff_getElem.mp nd r b hr hb hrb
    rw [e1, e2] at p1 p2
    refine ⟨fun z => p2 (by rw [z]), ?_⟩
    have := SrtO.lexB_no.mp p1
    show wI ps i ≤ wI ps j
    have h3 : ¬ wI ps j < wI ps i := fun z => this (.inl z)
    omega
/-- the item behind, going around, as the law finds it -/
theorem atI_nx {ps : List Pt} {k : Nat} (hk : k < ps.length) : L2.atI ps ((k : Int) + 1 - (ps.length : Int) * (((k : Int) + 1) / (ps.length : Int))) = some (fP ps (nx ps.length k)) := by
  have e : (k : Int) + 1 - (ps.length : Int) * (((k : Int) + 1) / (ps.length : Int)) = (((k + 1) % ps.length : Nat) : Int) := by
    rw [Int.natCast_emod, Int.emod_def, Int.natCast_add]
    rfl
  have e2 : (k + 1) % ps.length = nx ps.length k := by
    unfold nx
    split
    · rename_i h
      rw [h, Nat.mod_self]
    · exact Nat.mod_eq_of_lt (by omega)
  rw [e, e2]
  exact L2.atI_nat (fP_at (Sg.nx_lt hk))
/-- from another corner on -/
theorem fP_rot {ps : List Pt} {a i : Nat} (ha : a ≤ ps.length) (hi : i < ps.length) : fP (ps.drop a ++ ps.take a) i = fP ps (Sg.ro ps.length a i) := by
  unfold fP Sg.ro
  rw [List.getD_eq_getElem?_getD, List.getD_eq_getElem?_getD]
  split
  · rw [List.getElem?_append_left (by rw [List.length_drop]; omega), List.getElem?_drop, Nat.add_comm a i]
  · rw [List.getElem?_append_right (by rw [List.length_drop]; omega), List.length_drop, List.getElem?_take_of_lt (by omega)]
    congr 2
    omega
theorem rot_len {ps : List Pt} {a : Nat} (ha : a ≤ ps.length) : (ps.drop a ++ ps.take a).length = ps.length := by
  rw [List.length_append, List.length_drop, List.length_take]
  omega
def backL (ps : List Pt) : List Pt := (List.range ps.length).map fun k => fP ps (ps.length - 1 - k)
theorem back_len (ps : List Pt) : (backL ps).length = ps.length := by
  unfold backL
  rw [List.length_map, List.length_range]
theorem fP_back {ps : List Pt} {i : Nat} (hi : i < ps.length) : fP (backL ps) i = fP ps (ps.length - 1 - i) := by
  show (backL ps).getD i (0, 0) = _
  unfold backL
  rw [List.getD_eq_getElem?_getD, List.getElem?_map, List.getElem?_range hi]
  rfl
end Ja

/-! Own data: the chain of a hull: what stands in it, and that every point lies left of it. -/
namespace Hu
abbrev Pt := Int × Int
open Wh (side)
/-- by longitude, then latitude -/
def lt (p q : Pt) : Prop := p.2 < q.2 ∨ (p.2 = q.2 ∧ p.1 < q.1)
theorem lt_trans {p q r : Pt} (h : lt p q) (g : lt q r) : lt p r := by
  unfold lt at *
  omega
theorem lt_irr {p : Pt} (h : lt p p) : False := by
  unfold lt at h
  omega
theorem lt_tri (p q : Pt) : lt p q ∨ p = q ∨ lt q p := by
  unfold lt
  rcases Int.lt_trichotomy p.2 q.2 with h | h | h
  · exact .inl (.inl h)
  · rcases Int.lt_trichotomy p.1 q.1 with g | g | g
    · exact .inl (.inr ⟨h, g⟩)
    · exact .inr (.inl (Prod.ext g h))
    · exact .inr (.inr (.inr ⟨h.symm, g⟩))
  · exact .inr (.inr (.inl h))
/-- half of the directions -/
def pos (v : Pt) : Prop := 0 < v.2 ∨ (v.2 = 0 ∧ 0 < v.1)
def cross (u v : Pt) : Int := u.2 * v.1 - u.1 * v.2
def sub (p q : Pt) : Pt := (p.1 - q.1, p.2 - q.2)
theorem pos_sub {p q : Pt} (h : lt p q) : pos (sub q p) := by
  unfold lt at h
  unfold pos sub
  show 0 < q.2 - p.2 ∨ (q.2 - p.2 = 0 ∧ 0 < q.1 - p.1)
  omega
theorem nn {x y : Int} (hx : 0 ≤ x) (hy : 0 ≤ y) : 0 ≤ x * y := Int.mul_nonneg hx hy
theorem ge_of_mul {k x : Int} (hk : 0 < k) (h : 0 ≤ k * x) : 0 ≤ x := by
  refine Decidable.byContradiction fun z => ?_
  have := Int.mul_pos hk (show 0 < -x by omega)
  rw [Int.mul_neg] at this
  omega
theorem gt_of_mul {k x : Int} (hk : 0 < k) (h : 0 < k * x) : 0 < x := by
  refine Decidable.byContradiction fun z => ?_
  have := Int.mul_nonneg (Int.le_of_lt hk) (show 0 ≤ -x by omega)
  rw [Int.mul_neg] at this
  omega
theorem cross_id (a b c : Pt) : b.2 * cross a c = a.2 * cross b c + c.2 * cross a b := by
  unfold cross
  grind
/-- turning on in the half of the directions -/
theorem turn {a b c : Pt} (ha : pos a) (hb : pos b) (hc : pos c) (h1 : 0 ≤ cross a b) (h2 : 0 ≤ cross b c) : 0 ≤ cross a c := by
  have ha2 : 0 ≤ a.2 := by unfold pos at ha; omega
  have hc2 : 0 ≤ c.2 := by unfold pos at hc; omega
  rcases hb with hb | ⟨hb, hb1⟩
  · refine ge_of_mul hb ?_
    rw [cross_id]
    have := nn ha2 h2
    have := nn hc2 h1
    omega
  · have e2 : cross b c = b.1 * (-c.2) := by
      unfold cross
      rw [hb]
      grind
    rw [e2] at h2
    have h3 := ge_of_mul hb1 h2
    have hc0 : c.2 = 0 := by omega
    have hc1 : 0 < c.1 := by unfold pos at hc; omega
    unfold cross
    rw [hc0, Int.mul_zero]
    have := nn ha2 (Int.le_of_lt hc1)
    omega
theorem turn_lt {a b c : Pt} (ha : pos a) (hb : pos b) (hc : pos c) (h1 : 0 < cross a b) (h2 : 0 ≤ cross b c) : 0 < cross a c := by
  have ha2 : 0 ≤ a.2 := by unfold pos at ha; omega
  have hc2 : 0 ≤ c.2 := by unfold pos at hc; omega
  rcases hb with hb | ⟨hb, hb1⟩
  · refine gt_of_mul hb ?_
    rw [cross_id]
    have t1 := nn ha2 h2
    rcases hc with hc | ⟨hc, hc1⟩
    · have := Int.mul_pos hc h1
      omega
    · have e2 : cross b c = b.2 * c.1 := by
        unfold cross
        rw [hc]
        grind
      have e3 : 0 < cross b c := by
        rw [e2]
        exact Int.mul_pos hb hc1
      have ha3 : 0 < a.2 := by
        refine Decidable.byContradiction fun z => ?_
        have h0 : a.2 = 0 := by omega
        have ha1 : 0 < a.1 := by unfold pos at ha; omega
        have e4 : cross a b = -(a.1 * b.2) := by
          unfold cross
          rw [h0]
          grind
        have := Int.mul_pos ha1 hb
        omega
      have := Int.mul_pos ha3 e3
      rw [hc, Int.zero_mul]
      omega
  · have e2 : cross b c = b.1 * (-c.2) := by
      unfold cross
      rw [hb]
      grind
    rw [e2] at h2
    have h3 := ge_of_mul hb1 h2
    have hc0 : c.2 = 0 := by omega
    have hc1 : 0 < c.1 := by unfold pos at hc; omega
    have e3 : cross a b = b.1 * a.2 := by
      unfold cross
      rw [hb]
      grind
    rw [e3] at h1
    have ha3 := gt_of_mul hb1 h1
    unfold cross
    rw [hc0, Int.mul_zero]
    have := Int.mul_pos ha3 hc1
    omega
theorem side_x (a b c : Pt) : side a b c = cross (sub b a) (sub c a) := by
  unfold side cross sub
  rfl
theorem side_y (a b c : Pt) : side a b c = cross (sub b a) (sub c b) := by
  unfold side cross sub
  grind
theorem cross_anti (a b : Pt) : cross a b = -cross b a := by
  unfold cross
  grind
/-! ### the stack, its top first -/
def popw : List Pt → Pt → List Pt
  | v :: u :: r, t => if side u v t ≤ 0 then popw (u :: r) t else v :: u :: r
  | S, _ => S
/-- the stack S stands well over the points D that went by -/
inductive Ok (D : List Pt) : List Pt → Prop
  | one {a : Pt} : a ∈ D → (∀ r ∈ D, a = r ∨ lt a r) → Ok D [a]
  | two {a v : Pt} : Ok D [a] → v ∈ D → lt a v → (∀ r ∈ D, 0 ≤ side a v r) → Ok D [v, a]
  | more {w u v : Pt} {S : List Pt} : Ok D (u :: w :: S) → v ∈ D → lt u v → (∀ r ∈ D, 0 ≤ side u v r) → 0 < side w u v → Ok D (v :: u :: w :: S)
theorem Ok.mem {D S : List Pt} (h : Ok D S) : ∀ p ∈ S, p ∈ D := by
  induction h with
  | one h _ => intro p hp; rw [List.mem_singleton.mp hp]; exact h
  | two _ h _ _ ih =>
    intro p hp
    rcases List.mem_cons.mp hp with z | z
    · rw [z]; exact h
    · exact ih p z
  | more _ h _ _ _ ih =>
    intro p hp
    rcases List.mem_cons.mp hp with z | z
    · rw [z]; exact h
    · exact ih p z
/-- one point more, left of the top edge -/
theorem Ok.on {D : List Pt} {t : Pt} (ht : ∀ r ∈ D, lt r t) : ∀ {S : List Pt}, Ok D S → (∀ u v r, S = v :: u :: r → 0 < side u v t) → Ok (D ++ [t]) S := by
  have hm : ∀ {p}, p ∈ D → p ∈ D ++ [t] := fun h => List.mem_append.mpr (.inl h)
  have hall : ∀ {Q : Pt → Prop}, (∀ r ∈ D, Q r) → Q t → ∀ r ∈ D ++ [t], Q r := fun {Q} h1 h2 r hr => by
    rcases List.mem_append.mp hr with z | z
    · exact h1 r z
    · rw [List.mem_singleton.mp z]
      exact h2
  intro S h
  induction h with
  | one h1 h2 => intro _; exact .one (hm h1) (hall h2 (.inr (ht _ h1)))
  | @two a v ho h1 h2 h3 ih =>
    intro hp
    have h4 := hp a v [] rfl
    refine .two (ih fun u v r e => by cases e) (hm h1) h2 (hall h3 (by omega))
  | @more w u v S ho h1 h2 h3 h4 ih =>
    intro hp
    have h5 := hp u v (w :: S) rfl
    have hu : u ∈ D := ho.mem u (List.mem_cons_self ..)
    have hw : w ∈ D := ho.mem w (by simp)
    have lwu : lt w u := by
      cases ho with
      | two _ _ h _ => exact h
      | more _ _ h _ _ => exact h
    have h6 : 0 < side w u t := by
      have e1 : side w u t = cross (sub u w) (sub v u) + cross (sub u w) (sub t v) := by
        unfold side cross sub
        grind
      have c1 : 0 < cross (sub u w) (sub v u) := by
        rw [← side_y]
        exact h4
      have c2 : 0 < cross (sub v u) (sub t v) := by
        rw [← side_y]
        exact h5
      have c3 := turn_lt (pos_sub lwu) (pos_sub h2) (pos_sub (ht v h1)) c1 (Int.le_of_lt c2)
      omega
    refine .more (ih fun u' v' r' e => ?_) (hm h1) h2 (hall h3 (by omega)) h4
    cases e
    exact h6
/-- behind the pops: what remains stands, and every point lies left of the new edge -/
theorem popped {D : List Pt} {t : Pt} (ht : ∀ r ∈ D, lt r t) : ∀ {S : List Pt}, Ok D S → (∀ u, S.head? = some u → ∀ r ∈ D, lt u r → 0 ≤ side u t r) → ∃ u R, popw S t = u :: R ∧ Ok D (u :: R) ∧ (∀ r ∈ D, 0 ≤ side u t r) ∧ (∀ w R', R = w :: R' → 0 < side w u t) := by
  intro S h
  induction h with
  | @one a h1 h2 =>
    intro hu
    refine ⟨a, [], rfl, .one h1 h2, fun r hr => ?_, fun w R' e => by cases e⟩
    rcases h2 r hr with z | z
    · subst z
      unfold side
      grind
    · exact hu a rfl r hr z
  | @two a v ho h1 h2 h3 ih =>
    intro hu
    by_cases hc : side a v t ≤ 0
    · have e : popw [v, a] t = popw [a] t := by
        show (if side a v t ≤ 0 then popw [a] t else [v, a]) = _
        rw [if_pos hc]
      rw [e]
      refine ih fun u eu r hr hl => ?_
      cases eu
      rw [side_x]
      have ha : a ∈ D := ho.mem a (by simp)
      refine turn (pos_sub (ht a ha)) (pos_sub h2) (pos_sub hl) ?_ ?_
      · rw [cross_anti, ← side_x]
        omega
      · rw [← side_x]
        exact h3 r hr
    · have e : popw [v, a] t = [v, a] := by
        show (if side a v t ≤ 0 then popw [a] t else [v, a]) = _
        rw [if_neg hc]
      rw [e]
      refine ⟨v, [a], rfl, .two ho h1 h2 h3, fun r hr => ?_, fun w R' e => by cases e; omega⟩
      rcases lt_tri v r with z | z | z
      · exact hu v rfl r hr z
      · subst z
        unfold side
        grind
      · have c1 : 0 ≤ cross (sub v r) (sub v a) := by
          have h4 := h3 r hr
          rw [show side a v r = cross (sub v r) (sub v a) by unfold side cross sub; grind] at h4
          exact h4
        have c2 : 0 ≤ cross (sub v a) (sub t v) := by
          rw [← side_y]
          omega
        have c3 := turn (pos_sub z) (pos_sub h2) (pos_sub (ht v h1)) c1 c2
        rw [show side v t r = cross (sub v r) (sub t v) by unfold side cross sub; grind]
        exact c3
  | @more w u v S ho h1 h2 h3 h4 ih =>
    intro hu
    by_cases hc : side u v t ≤ 0
    · have e : popw (v :: u :: w :: S) t = popw (u :: w :: S) t := by
        show (if side u v t ≤ 0 then popw (u :: w :: S) t else v :: u :: w :: S) = _
        rw [if_pos hc]
      rw [e]
      refine ih fun u' eu r hr hl => ?_
      cases eu
      rw [side_x]
      have ha : u ∈ D := ho.mem u (by simp)
      refine turn (pos_sub (ht u ha)) (pos_sub h2) (pos_sub hl) ?_ ?_
      · rw [cross_anti, ← side_x]
        omega
      · rw [← side_x]
        exact h3 r hr
    · have e : popw (v :: u :: w :: S) t = v :: u :: w :: S := by
        show (if side u v t ≤ 0 then popw (u :: w :: S) t else v :: u :: w :: S) = _
        rw [if_neg hc]
      rw [e]
      refine ⟨v, u :: w :: S, rfl, .more ho h1 h2 h3 h4, fun r hr => ?_, fun w' R' e => by cases e; omega⟩
      rcases lt_tri v r with z | z | z
      · exact hu v rfl r hr z
      · subst z
        unfold side
        grind
      · have c1 : 0 ≤ cross (sub v r) (sub v u) := by
          have h4 := h3 r hr
          rw [show side u v r = cross (sub v r) (sub v u) by unfold side cross sub; grind] at h4
          exact h4
        have c2 : 0 ≤ cross (sub v u) (sub t v) := by
          rw [← side_y]
          omega
        have c3 := turn (pos_sub z) (pos_sub h2) (pos_sub (ht v h1)) c1 c2
        rw [show side v t r = cross (sub v r) (sub t v) by unfold side cross sub; grind]
        exact c3
/-- the next point -/
theorem Ok.step {D S : List Pt} {t : Pt} (h : Ok D S) (ht : ∀ r ∈ D, lt r t) (htop : ∀ u, S.head? = some u → ∀ r ∈ D, ¬ lt u r) : Ok (D ++ [t]) (t :: popw S t) := by
  obtain ⟨u, R, e, ho, hl, hs⟩ := popped ht h fun u hu r hr hlt => absurd hlt (htop u hu r hr)
  rw [e]
  have ho2 : Ok (D ++ [t]) (u :: R) := ho.on ht fun u' v' r' e => by
    cases e
    exact hs u' r' rfl
  have hm : t ∈ D ++ [t] := List.mem_append.mpr (.inr (List.mem_singleton.mpr rfl))
  have hall : ∀ r ∈ D ++ [t], 0 ≤ side u t r := fun r hr => by
    rcases List.mem_append.mp hr with z | z
    · exact hl r z
    · rw [List.mem_singleton.mp z]
      have : side u t t = 0 := by
        unfold side
        grind
      omega
  have hu := ht u (ho.mem u (List.mem_cons_self ..))
  cases R with
  | nil => exact .two ho2 hm hu hall
  | cons w R' => exact .more ho2 hm hu hall (hs w R' rfl)
/-- the whole chain, its top first -/
def chain : List Pt → List Pt → List Pt
  | S, [] => S
  | S, t :: r => chain (t :: popw S t) r
theorem chain_ok : ∀ {D S r : List Pt}, Ok D S → (∀ u, S.head? = some u → ∀ x ∈ D, ¬ lt u x) → (D ++ r).Pairwise lt → Ok (D ++ r) (chain S r)
  | D, S, [], h, _, _ => by
    rw [List.append_nil]
    exact h
  | D, S, t :: r, h, htop, hp => by
    have e : D ++ t :: r = (D ++ [t]) ++ r := by simp
    rw [e] at hp ⊢
    have hp2 := (List.pairwise_append.mp hp).1
    have ht : ∀ x ∈ D, lt x t := fun x hx => (List.pairwise_append.mp hp2).2.2 x hx t (List.mem_singleton.mpr rfl)
    refine chain_ok (h.step ht htop) (fun u hu x hx hl => ?_) hp
    cases hu
    rcases List.mem_append.mp hx with z | z
    · exact lt_irr (lt_trans hl (ht x z))
    · rw [List.mem_singleton.mp z] at hl
      exact lt_irr hl
theorem chain_top : ∀ {S r : List Pt}, (chain S r).head? = (S.reverse ++ r).getLast?
  | S, [] => by
    show S.head? = _
    simp
  | S, t :: r => by
    show (chain (t :: popw S t) r).head? = _
    rw [chain_top]
    rw [List.getLast?_append, List.getLast?_append]
    cases r with
    | nil => simp
    | cons x r => simp [List.getLast?_cons]
end Hu

/-! Own data: the hull as a whole: two chains, their junctions, one turn from north. -/
namespace Hu
open Wh (side)
open Sg (nx nx_lt)
/-! ### points negated: the way back -/
def neg (p : Pt) : Pt := (-p.1, -p.2)
theorem neg_neg (p : Pt) : neg (neg p) = p := by
  unfold neg
  exact Prod.ext (Int.neg_neg _) (Int.neg_neg _)
theorem lt_neg {p q : Pt} : lt (neg p) (neg q) ↔ lt q p := by
  unfold lt neg
  show (-p.2 < -q.2 ∨ (-p.2 = -q.2 ∧ -p.1 < -q.1)) ↔ _
  omega
theorem side_neg (a b c : Pt) : side (neg a) (neg b) (neg c) = side a b c := by
  unfold side neg
  grind
theorem popw_neg (t : Pt) : ∀ S : List Pt, popw (S.map neg) (neg t) = (popw S t).map neg
  | [] => rfl
  | [a] => rfl
  | v :: u :: r => by
    have ih := popw_neg t (u :: r)
    show (if side (neg u) (neg v) (neg t) ≤ 0 then popw ((u :: r).map neg) (neg t) else (v :: u :: r).map neg) = (if side u v t ≤ 0 then popw (u :: r) t else v :: u :: r).map neg
    rw [side_neg]
    split
    · exact ih
    · rfl
theorem chain_neg : ∀ (S r : List Pt), chain (S.map neg) (r.map neg) = (chain S r).map neg
  | S, [] => rfl
  | S, t :: r => by
    show chain (neg t :: popw (S.map neg) (neg t)) (r.map neg) = (chain (t :: popw S t) r).map neg
    rw [popw_neg, ← chain_neg]
    rfl
/-! ### a chain as a path, its first point first -/
/-- what a path says: its steps go on, every point of D lies left of each, and it turns left -/
structure Path (D : List Pt) (c : Nat → Pt) (m : Nat) : Prop where
  mem : ∀ i, i ≤ m → c i ∈ D
  lt : ∀ i, i < m → lt (c i) (c (i + 1))
  left : ∀ i, i < m → ∀ r ∈ D, 0 ≤ side (c i) (c (i + 1)) r
  turn : ∀ i, i + 1 < m → 0 < side (c i) (c (i + 1)) (c (i + 2))
theorem Ok.path {D : List Pt} : ∀ {S : List Pt}, Ok D S → Path D (fun i => S.reverse.getD i (0, 0)) (S.length - 1) := by
  intro S h
  induction h with
  | @one a h1 h2 => exact ⟨fun i hi => by
      have : i = 0 := by simpa using hi
      subst this
      exact h1, fun i hi => absurd hi (by simp), fun i hi => absurd hi (by simp), fun i hi => absurd hi (by simp)⟩
  | @two a v ho h1 h2 h3 ih =>
    have z : ∀ i, i < 1 → i = 0 := fun i hi => by omega
    refine ⟨fun i hi => ?_, fun i hi => ?_, fun i hi => ?_, fun i hi => ?_⟩
    · have hi : i ≤ 1 := hi
      have : i = 0 ∨ i = 1 := by omega
      rcases this with rfl | rfl
      · exact ho.mem a (by simp)
      · exact h1
    · obtain rfl := z i hi
      exact h2
    · obtain rfl := z i hi
      exact h3
    · have hi : i + 1 < 1 := hi
      omega
  | @more w u v S ho h1 h2 h3 h4 ih =>
    have hl : (v :: u :: w :: S).length - 1 = S.length + 2 := rfl
    have hl2 : (u :: w :: S).length - 1 = S.length + 1 := rfl
    rw [hl]
    rw [hl2] at ih
    have hrl : (u :: w :: S).reverse.length = S.length + 2 := by simp
    have e0 : ∀ i, i ≤ S.length + 1 → (v :: u :: w :: S).reverse.getD i (0, 0) = (u :: w :: S).reverse.getD i (0, 0) := fun i hi => by
      rw [List.reverse_cons, List.getD_eq_getElem?_getD, List.getD_eq_getElem?_getD, List.getElem?_append_left (by rw [hrl]; omega)]
    have e1 : (v :: u :: w :: S).reverse.getD (S.length + 2) (0, 0) = v := by
      rw [List.reverse_cons, List.getD_eq_getElem?_getD, List.getElem?_append_right (by rw [hrl]; omega), hrl, Nat.sub_self]
      rfl
    have e2 : (u :: w :: S).reverse.getD (S.length + 1) (0, 0) = u := by
      have h5 : (w :: S).reverse.length = S.length + 1 := by simp
      rw [List.reverse_cons, List.getD_eq_getElem?_getD, List.getElem?_append_right (by rw [h5]; omega), h5, Nat.sub_self]
      rfl
    have e3 : (u :: w :: S).reverse.getD S.length (0, 0) = w := by
      have h5 : (w :: S).reverse.length = S.length + 1 := by simp
      have h6 : S.reverse.length = S.length := by simp
      rw [List.reverse_cons, List.getD_eq_getElem?_getD, List.getElem?_append_left (by rw [h5]; omega), List.reverse_cons, List.getElem?_append_right (by rw [h6]; omega), h6, Nat.sub_self]
      rfl
    refine ⟨fun i hi => ?_, fun i hi => ?_, fun i hi => ?_, fun i hi => ?_⟩
    · by_cases z : i = S.length + 2
      · show (v :: u :: w :: S).reverse.getD i (0, 0) ∈ D
        rw [z, e1]
        exact h1
      · show (v :: u :: w :: S).reverse.getD i (0, 0) ∈ D
        rw [e0 i (by omega)]
        exact ih.mem i (by omega)
    · show lt ((v :: u :: w :: S).reverse.getD i (0, 0)) ((v :: u :: w :: S).reverse.getD (i + 1) (0, 0))
      by_cases z : i = S.length + 1
      · rw [z, e1, e0 _ (Nat.le_refl _), e2]
        exact h2
      · rw [e0 i (by omega), e0 (i + 1) (by omega)]
        exact ih.lt i (by omega)
    · show ∀ r ∈ D, 0 ≤ side ((v :: u :: w :: S).reverse.getD i (0, 0)) ((v :: u :: w :: S).reverse.getD (i + 1) (0, 0)) r
      by_cases z : i = S.length + 1
      · rw [z, e1, e0 _ (Nat.le_refl _), e2]
        exact h3
      · rw [e0 i (by omega), e0 (i + 1) (by omega)]
        exact ih.left i (by omega)
    · show 0 < side ((v :: u :: w :: S).reverse.getD i (0, 0)) ((v :: u :: w :: S).reverse.getD (i + 1) (0, 0)) ((v :: u :: w :: S).reverse.getD (i + 2) (0, 0))
      by_cases z : i = S.length
      · rw [z, e1, e0 S.length (by omega), e0 (S.length + 1) (by omega), e2, e3]
        exact h4
      · rw [e0 i (by omega), e0 (i + 1) (by omega), e0 (i + 2) (by omega)]
        exact ih.turn i (by omega)
/-! ### parallel directions -/
theorem cross_zero {d e y : Pt} (hd : pos d) (he : pos e) (h : cross d e = 0) (h1 : 0 ≤ cross d y) (h2 : cross e y ≤ 0) : cross d y = 0 := by
  have id1 : e.2 * cross d y = d.2 * cross e y + y.2 * cross d e := cross_id d e y
  rw [h, Int.mul_zero, Int.add_zero] at id1
  have hd2 : 0 ≤ d.2 := by unfold pos at hd; omega
  rcases he with he2 | ⟨he2, he1⟩
  · have t1 := nn (Int.le_of_lt he2) h1
    have t2 := nn hd2 (show 0 ≤ -cross e y by omega)
    rw [Int.mul_neg] at t2
    have t3 : e.2 * cross d y = 0 := by omega
    rcases Int.mul_eq_zero.mp t3 with z | z
    · omega
    · exact z
  · have e3 : cross d e = d.2 * e.1 := by
      show d.2 * e.1 - d.1 * e.2 = _
      rw [he2, Int.mul_zero, Int.sub_zero]
    rw [e3] at h
    have hd0 : d.2 = 0 := by
      rcases Int.mul_eq_zero.mp h with z | z
      · exact z
      · omega
    have hd1 : 0 < d.1 := by unfold pos at hd; omega
    have c1 : cross d y = d.1 * (-y.2) := by
      show d.2 * y.1 - d.1 * y.2 = _
      rw [hd0, Int.zero_mul, Int.mul_neg]
      omega
    have c2 : cross e y = e.1 * (-y.2) := by
      show e.2 * y.1 - e.1 * y.2 = _
      rw [he2, Int.zero_mul, Int.mul_neg]
      omega
    rw [c1] at h1 ⊢
    have g1 := ge_of_mul hd1 h1
    have g2 : -y.2 ≤ 0 := by
      refine Decidable.byContradiction fun z => ?_
      have := Int.mul_pos he1 (show 0 < -y.2 by omega)
      omega
    rw [show -y.2 = 0 by omega, Int.mul_zero]
/-- all on the line of two different points -/
theorem flat_of {p q : Pt} (hpq : p ≠ q) {a b c : Pt} (ha : side p q a = 0) (hb : side p q b = 0) (hc : side p q c = 0) : side a b c = 0 := by
  unfold side at *
  by_cases h : q.2 - p.2 = 0
  · have h1 : q.1 - p.1 ≠ 0 := fun z => hpq (Prod.ext (by omega) (by omega))
    rw [h] at ha hb hc
    have t : ∀ {x : Int}, 0 * x = 0 := fun {x} => Int.zero_mul x
    have a2 : a.2 - p.2 = 0 := by
      rcases Int.mul_eq_zero.mp (show (q.1 - p.1) * (a.2 - p.2) = 0 by grind) with z | z
      · exact absurd z h1
      · exact z
    have b2 : b.2 - p.2 = 0 := by
      rcases Int.mul_eq_zero.mp (show (q.1 - p.1) * (b.2 - p.2) = 0 by grind) with z | z
      · exact absurd z h1
      · exact z
    have c2 : c.2 - p.2 = 0 := by
      rcases Int.mul_eq_zero.mp (show (q.1 - p.1) * (c.2 - p.2) = 0 by grind) with z | z
      · exact absurd z h1
      · exact z
    grind
  · have e : (q.2 - p.2) * ((b.2 - a.2) * (c.1 - a.1) - (b.1 - a.1) * (c.2 - a.2)) = 0 := by grind
    rcases Int.mul_eq_zero.mp e with z | z
    · exact absurd z h
    · exact z
/-! ### the two chains together -/
/-- from the first point a of D to its last point b and back: the corners of the hull, going around -/
structure Two (D : List Pt) (c u : Nat → Pt) (m l : Nat) : Prop where
  lo : Path D c m
  up : Path (D.map neg) (fun i => neg (u i)) l
  m1 : 1 ≤ m
  l1 : 1 ≤ l
  jo : c m = u 0
  oj : u l = c 0
/-- the corner i -/
def cor (c u : Nat → Pt) (m i : Nat) : Pt := if i < m then c i else u (i - m)
section
variable {D : List Pt} {c u : Nat → Pt} {m l : Nat}
theorem Two.umem (t : Two D c u m l) {i : Nat} (h : i ≤ l) : u i ∈ D := by
  obtain ⟨x, hx, e⟩ := List.mem_map.mp (t.up.mem i h)
  have := congrArg neg e
  rw [neg_neg, neg_neg] at this
  rw [← this]
  exact hx
theorem Two.ult (t : Two D c u m l) {i : Nat} (h : i < l) : lt (u (i + 1)) (u i) := lt_neg.mp (t.up.lt i h)
theorem Two.uleft (t : Two D c u m l) {i : Nat} (h : i < l) : ∀ r ∈ D, 0 ≤ side (u i) (u (i + 1)) r := fun r hr => by
  have := t.up.left i h (neg r) (List.mem_map.mpr ⟨r, hr, rfl⟩)
  rwa [side_neg] at this
theorem Two.uturn (t : Two D c u m l) {i : Nat} (h : i + 1 < l) : 0 < side (u i) (u (i + 1)) (u (i + 2)) := by
  have := t.up.turn i h
  rwa [side_neg] at this
/-- the corner behind i, told by the chain that i's side is of -/
theorem Two.next (t : Two D c u m l) {i : Nat} (h : i < m + l) : cor c u m (nx (m + l) i) = if i < m then c (i + 1) else u (i - m + 1) := by
  have hm := t.m1
  have hl := t.l1
  unfold cor nx
  by_cases h1 : i + 1 = m + l
  · rw [if_pos h1, if_pos (show 0 < m by omega), if_neg (by omega), show i - m + 1 = l by omega]
    exact t.oj.symm
  · rw [if_neg h1]
    by_cases h2 : i + 1 < m
    · rw [if_pos h2, if_pos (by omega)]
    · rw [if_neg h2]
      by_cases h3 : i < m
      · rw [if_pos h3, show i + 1 - m = 0 by omega, show i + 1 = m by omega]
        exact t.jo.symm
      · rw [if_neg h3, show i + 1 - m = i - m + 1 by omega]
theorem Two.mem (t : Two D c u m l) {i : Nat} (h : i < m + l) : cor c u m i ∈ D := by
  unfold cor
  split
  · exact t.lo.mem i (by omega)
  · exact t.umem (by omega)
/-- every point lies left of every side -/
theorem Two.left (t : Two D c u m l) {i : Nat} (h : i < m + l) : ∀ r ∈ D, 0 ≤ side (cor c u m i) (cor c u m (nx (m + l) i)) r := fun r hr => by
  rw [t.next h]
  unfold cor
  split
  · exact t.lo.left i (by assumption) r hr
  · exact t.uleft (by omega) r hr
/-- all points on one line -/
def Flat (D : List Pt) : Prop := ∀ p ∈ D, ∀ q ∈ D, ∀ r ∈ D, side p q r = 0
/-- where the chains meet, the turn is to the left too -/
theorem join_lt {p q r : Pt} (hpq : lt p q) (hrq : lt r q) (h1 : ∀ x ∈ D, 0 ≤ side p q x) (h2 : ∀ x ∈ D, 0 ≤ side q r x) (hr : r ∈ D) (hf : ¬ Flat D) : 0 < side p q r := by
  have h0 := h1 r hr
  refine Decidable.byContradiction fun z => hf ?_
  have hz : side p q r = 0 := by omega
  have hd := pos_sub hpq
  have he := pos_sub hrq
  have hc : cross (sub q p) (sub q r) = 0 := by
    have e : side p q r = -cross (sub q p) (sub q r) := by
      unfold side cross sub
      grind
    omega
  have all : ∀ x ∈ D, side p q x = 0 := fun x hx => by
    have a1 := h1 x hx
    have a2 := h2 x hx
    rw [side_y] at a1
    have e2 : side q r x = -cross (sub q r) (sub x q) := by
      unfold side cross sub
      grind
    rw [side_y]
    exact cross_zero hd he hc a1 (by omega)
  have hne : p ≠ q := fun e => by
    rw [e] at hpq
    exact lt_irr hpq
  exact fun a ha b hb c hc => flat_of hne (all a ha) (all b hb) (all c hc)
theorem flat_neg (h : Flat (D.map neg)) : Flat D := fun p hp q hq r hr => by
  have := h (neg p) (List.mem_map.mpr ⟨p, hp, rfl⟩) (neg q) (List.mem_map.mpr ⟨q, hq, rfl⟩) (neg r) (List.mem_map.mpr ⟨r, hr, rfl⟩)
  rwa [side_neg] at this
theorem Two.turns (t : Two D c u m l) (hf : ¬ Flat D) {i : Nat} (h : i < m + l) : 0 < side (cor c u m i) (cor c u m (nx (m + l) i)) (cor c u m (nx (m + l) (nx (m + l) i))) := by
  have hm := t.m1
  have hl := t.l1
  rw [t.next (nx_lt h), t.next h]
  by_cases h1 : i + 1 < m
  · have e1 : nx (m + l) i = i + 1 := by unfold nx; split <;> omega
    unfold cor
    rw [e1, if_pos (by omega), if_pos (by omega), if_pos h1]
    exact t.lo.turn i h1
  · by_cases h2 : i < m
    · have e1 : nx (m + l) i = i + 1 := by unfold nx; split <;> omega
      have e2 : i + 1 = m := by omega
      unfold cor
      rw [e1, if_pos h2, if_pos h2, if_neg (by omega), e2, Nat.sub_self]
      have e3 : i = m - 1 := by omega
      have g1 := t.lo.lt i h2
      have g2 := t.lo.left i h2
      have g3 := t.ult (i := 0) (by omega)
      have g4 := t.uleft (i := 0) (by omega)
      rw [e2, t.jo] at g1 g2
      rw [t.jo]
      exact join_lt g1 g3 g2 g4 (t.umem (by omega)) hf
    · by_cases h3 : i + 1 = m + l
      · have e1 : nx (m + l) i = 0 := by unfold nx; rw [if_pos h3]
        unfold cor
        rw [e1, if_neg h2, if_neg h2, if_pos (by omega), show i - m + 1 = l by omega, t.oj]
        have e4 : i - m = l - 1 := by omega
        rw [e4]
        have g1 := t.ult (i := l - 1) (by omega)
        have g2 := t.uleft (i := l - 1) (by omega)
        rw [show l - 1 + 1 = l by omega, t.oj] at g1 g2
        have g3 := t.lo.lt 0 (by omega)
        have g4 := t.lo.left 0 (by omega)
        rw [← side_neg]
        refine join_lt (D := D.map neg) (lt_neg.mpr g1) (lt_neg.mpr g3) (fun x hx => ?_) (fun x hx => ?_) (List.mem_map.mpr ⟨_, t.lo.mem 1 (by omega), rfl⟩) fun z => hf (flat_neg z)
        · obtain ⟨y, hy, rfl⟩ := List.mem_map.mp hx
          rw [side_neg]
          exact g2 y hy
        · obtain ⟨y, hy, rfl⟩ := List.mem_map.mp hx
          rw [side_neg]
          exact g4 y hy
      · have e1 : nx (m + l) i = i + 1 := by unfold nx; rw [if_neg h3]
        unfold cor
        rw [e1, if_neg h2, if_neg h2, if_neg (by omega), show i + 1 - m + 1 = i - m + 2 by omega]
        exact t.uturn (by omega)
/-- three corners at least, exactly if the points are not all on one line -/
theorem Two.three (t : Two D c u m l) : 3 ≤ m + l ↔ ¬ Flat D := by
  have hm := t.m1
  have hl := t.l1
  constructor
  · intro h hf
    by_cases h1 : 1 < m
    · have := t.lo.turn 0 (by omega)
      rw [hf _ (t.lo.mem 0 (by omega)) _ (t.lo.mem 1 (by omega)) _ (t.lo.mem 2 (by omega))] at this
      omega
    · have := t.uturn (i := 0) (by omega)
      rw [hf _ (t.umem (i := 0) (by omega)) _ (t.umem (i := 1) (by omega)) _ (t.umem (i := 2) (by omega))] at this
      omega
  · intro hf
    refine Decidable.byContradiction fun h => hf ?_
    have em : m = 1 := by omega
    have el : l = 1 := by omega
    subst em
    subst el
    have g1 := t.lo.left 0 (by omega)
    have g2 := t.uleft (i := 0) (by omega)
    have j1 := t.jo
    have j2 := t.oj
    rw [show (0 : Nat) + 1 = 1 from rfl] at g1 g2
    rw [j2, ← j1] at g2
    have gl := t.lo.lt 0 (by omega)
    have hne : c 0 ≠ c 1 := fun e => by
      rw [show (0 : Nat) + 1 = 1 from rfl, ← e] at gl
      exact lt_irr gl
    have all : ∀ x ∈ D, side (c 0) (c 1) x = 0 := fun x hx => by
      have a1 := g1 x hx
      have a2 := g2 x hx
      have e : side (c 1) (c 0) x = -side (c 0) (c 1) x := Wh.side_swap (c 0) (c 1) x
      omega
    exact fun a ha b hb d hd => flat_of hne (all a ha) (all b hb) (all d hd)
end
end Hu

/-! Own data: the hull of points in order: what its corners are. -/
namespace Hu
open Wh (side)
open Sg (nx nx_lt)
theorem asc {d e : Pt} (hd : pos d) (he : pos e) (h : 0 < cross d e) (h1 : 0 ≤ d.1) : 0 < e.1 := by
  have hd2 : 0 ≤ d.2 := by unfold pos at hd; omega
  have he2 : 0 ≤ e.2 := by unfold pos at he; omega
  have t1 := nn h1 he2
  have h' : 0 < d.2 * e.1 - d.1 * e.2 := h
  refine Decidable.byContradiction fun z => ?_
  have t2 := nn hd2 (show 0 ≤ -e.1 by omega)
  rw [Int.mul_neg] at t2
  omega
section
variable {D : List Pt} {c u : Nat → Pt} {m l : Nat}
/-- the side i goes up -/
def U (c u : Nat → Pt) (m l i : Nat) : Prop := (cor c u m i).1 < (cor c u m (nx (m + l) i)).1
theorem Two.U_lo (t : Two D c u m l) {i : Nat} (h : i < m) : U c u m l i ↔ (c i).1 < (c (i + 1)).1 := by
  unfold U
  rw [t.next (by omega), if_pos h]
  unfold cor
  rw [if_pos h]
theorem Two.U_up (t : Two D c u m l) {i : Nat} (h : i < l) : U c u m l (m + i) ↔ (u i).1 < (u (i + 1)).1 := by
  unfold U
  rw [t.next (by omega), if_neg (by omega)]
  unfold cor
  rw [if_neg (by omega), show m + i - m = i by omega]
theorem Two.on_lo (t : Two D c u m l) {i : Nat} (h : i + 1 < m) (hu : U c u m l i) : U c u m l (i + 1) := by
  rw [t.U_lo (by omega)] at hu
  rw [t.U_lo h]
  have h1 := t.lo.turn i h
  rw [side_y] at h1
  have := asc (pos_sub (t.lo.lt i (by omega))) (pos_sub (t.lo.lt (i + 1) h)) h1 (show 0 ≤ (c (i + 1)).1 - (c i).1 by omega)
  have h2 : 0 < (c (i + 2)).1 - (c (i + 1)).1 := this
  show (c (i + 1)).1 < (c (i + 2)).1
  omega
theorem Two.on_up (t : Two D c u m l) {i : Nat} (h : i + 1 < l) (hu : ¬ U c u m l (m + i)) : ¬ U c u m l (m + (i + 1)) := by
  rw [t.U_up (by omega)] at hu
  rw [t.U_up h]
  have h1 := t.up.turn i h
  rw [side_y] at h1
  have := asc (pos_sub (t.up.lt i (by omega))) (pos_sub (t.up.lt (i + 1) h)) h1 (show 0 ≤ -(u (i + 1)).1 - -(u i).1 by omega)
  have h2 : 0 < -(u (i + 2)).1 - -(u (i + 1)).1 := this
  show ¬ (u (i + 1)).1 < (u (i + 2)).1
  omega
theorem Two.off (t : Two D c u m l) {i : Nat} (hi : m ≤ i) (hu : ¬ U c u m l i) : ∀ k, i + k < m + l → ¬ U c u m l (i + k)
  | 0, _ => hu
  | k + 1, h => by
    have h1 := t.off hi hu k (by omega)
    have := t.on_up (i := i - m + k) (by omega) (by rw [show m + (i - m + k) = i + k by omega]; exact h1)
    rw [show m + (i - m + k + 1) = i + (k + 1) by omega] at this
    exact this
def Top (c u : Nat → Pt) (m l i : Nat) : Prop := U c u m l i ∧ ¬ U c u m l (nx (m + l) i)
theorem Two.uniq (t : Two D c u m l) {i j : Nat} (hi : i < m + l) (hj : j < m + l) (hij : i < j) (h1 : Top c u m l i) (h2 : Top c u m l j) : False := by
  have hm := t.m1
  have hl := t.l1
  have e1 : nx (m + l) i = i + 1 := by unfold nx; rw [if_neg (by omega)]
  have h3 := h1.2
  rw [e1] at h3
  by_cases c1 : i + 1 < m
  · exact h3 (t.on_lo c1 h1.1)
  · have := t.off (i := i + 1) (by omega) h3 (j - (i + 1)) (by omega)
    rw [show i + 1 + (j - (i + 1)) = j by omega] at this
    exact this h2.1
theorem Two.exist (t : Two D c u m l) (hf : ¬ Flat D) : ∃ i, i < m + l ∧ Top c u m l i := by
  have hm := t.m1
  have hl := t.l1
  refine Classical.byContradiction fun hno => ?_
  have go : ∀ i, i < m + l → U c u m l i → U c u m l (nx (m + l) i) := fun i hi hu => Classical.byContradiction fun z => hno ⟨i, hi, hu, z⟩
  have nxs : ∀ {i}, i + 1 < m + l → nx (m + l) i = i + 1 := fun {i} h => by unfold nx; rw [if_neg (by omega)]
  have nxl : nx (m + l) (m + l - 1) = 0 := by unfold nx; rw [if_pos (by omega)]
  by_cases h0 : U c u m l 0
  · have all : ∀ i, i < m + l → U c u m l i ∧ (cor c u m 0).1 ≤ (cor c u m i).1 := by
      intro i
      induction i with
      | zero => exact fun _ => ⟨h0, Int.le_refl _⟩
      | succ i ih =>
        intro hi
        obtain ⟨g1, g2⟩ := ih (by omega)
        have g3 := go i (by omega) g1
        rw [nxs hi] at g3
        have g4 : (cor c u m i).1 < (cor c u m (nx (m + l) i)).1 := g1
        rw [nxs hi] at g4
        exact ⟨g3, by omega⟩
    obtain ⟨g1, g2⟩ := all (m + l - 1) (by omega)
    have g3 : (cor c u m (m + l - 1)).1 < (cor c u m (nx (m + l) (m + l - 1))).1 := g1
    rw [nxl] at g3
    omega
  · have none : ∀ k i, i + k + 1 = m + l → ¬ U c u m l i := by
      intro k
      induction k with
      | zero =>
        intro i hi hu
        have g := go i (by omega) hu
        rw [show i = m + l - 1 by omega, nxl] at g
        exact h0 g
      | succ k ih =>
        intro i hi hu
        have g := go i (by omega) hu
        rw [nxs (by omega)] at g
        exact ih (i + 1) (by omega) g
    have le : ∀ i, i < m + l → (cor c u m (nx (m + l) i)).1 ≤ (cor c u m i).1 := fun i hi => by
      have g : ¬ (cor c u m i).1 < (cor c u m (nx (m + l) i)).1 := none (m + l - 1 - i) i (by omega)
      omega
    have dn : ∀ k i, i + k < m + l → (cor c u m (i + k)).1 ≤ (cor c u m i).1 := by
      intro k
      induction k with
      | zero => exact fun i _ => Int.le_refl _
      | succ k ih =>
        intro i hi
        have g1 := ih i (by omega)
        have g2 := le (i + k) (by omega)
        rw [nxs (by omega)] at g2
        show (cor c u m (i + k + 1)).1 ≤ _
        omega
    have eq : ∀ i, i < m + l → (cor c u m i).1 = (cor c u m 0).1 := fun i hi => by
      have g1 := dn i 0 (by omega)
      rw [Nat.zero_add] at g1
      have g2 := dn (m + l - 1 - i) i (by omega)
      rw [show i + (m + l - 1 - i) = m + l - 1 by omega] at g2
      have g3 := le (m + l - 1) (by omega)
      rw [nxl] at g3
      omega
    have h1 := t.turns hf (i := 0) (by omega)
    have q1 := eq _ (nx_lt (n := m + l) (i := 0) (by omega))
    have q2 := eq _ (nx_lt (nx_lt (n := m + l) (i := 0) (by omega)))
    unfold side at h1
    rw [q1, q2, Int.sub_self, Int.mul_zero, Int.zero_mul] at h1
    omega
end
/-! ### from points in order -/
def hullL (D : List Pt) : List Pt := (chain [] D).reverse.dropLast ++ (chain [] D.reverse).reverse.dropLast
theorem Ok.bottom {D : List Pt} : ∀ {S : List Pt}, Ok D S → ∃ a, S.reverse[0]? = some a ∧ a ∈ D ∧ ∀ r ∈ D, a = r ∨ lt a r := by
  intro S h
  induction h with
  | @one a h1 h2 => exact ⟨a, rfl, h1, h2⟩
  | @two a v ho h1 h2 h3 ih =>
    obtain ⟨b, e, h⟩ := ih
    exact ⟨b, by rw [List.reverse_cons, List.getElem?_append_left (by simp)]; exact e, h⟩
  | @more w u v S ho h1 h2 h3 h4 ih =>
    obtain ⟨b, e, h⟩ := ih
    exact ⟨b, by rw [List.reverse_cons, List.getElem?_append_left (by simp)]; exact e, h⟩
theorem Ok.of {d : Pt} {r : List Pt} (h : (d :: r).Pairwise lt) : Ok (d :: r) (chain [] (d :: r)) := by
  have h1 : Ok [d] [d] := .one (List.mem_singleton.mpr rfl) fun r hr => .inl (List.mem_singleton.mp hr).symm
  exact chain_ok (D := [d]) (S := [d]) (r := r) h1 (fun u hu x hx hl => by
    cases hu
    rw [List.mem_singleton.mp hx] at hl
    exact lt_irr hl) h
theorem first_of {d : Pt} {r : List Pt} (h : (d :: r).Pairwise lt) : (chain [] (d :: r)).reverse[0]? = some d := by
  obtain ⟨a, e, hm, ha⟩ := (Ok.of h).bottom
  rw [e]
  rcases ha d (List.mem_cons_self ..) with z | z
  · rw [z]
  · rcases List.mem_cons.mp hm with y | y
    · rw [y]
    · exact absurd (lt_trans z ((List.pairwise_cons.mp h).1 a y)) lt_irr
theorem top_of (D : List Pt) : (chain [] D).head? = D.getLast? := by
  have := chain_top (S := []) (r := D)
  simpa using this
theorem getD_neg (S : List Pt) (i : Nat) : (S.map neg).getD i (0, 0) = neg (S.getD i (0, 0)) := by
  rw [List.getD_eq_getElem?_getD, List.getD_eq_getElem?_getD, List.getElem?_map]
  cases S[i]? with
  | none => rfl
  | some a => rfl
theorem last_rev {S : List Pt} {a : Pt} (h : S.head? = some a) : S.reverse.getD (S.length - 1) (0, 0) = a := by
  cases S with
  | nil => cases h
  | cons b r =>
    cases h
    rw [List.getD_eq_getElem?_getD, List.reverse_cons, List.getElem?_append_right (by simp), show (a :: r).length - 1 - r.reverse.length = 0 by simp]
    rfl
/-- what the corners of the hull of the points D, which stand in order, are -/
structure Hull (D : List Pt) (F : List Pt) : Prop where
  few : F.length < 3 ↔ Flat D
  mem : ¬ Flat D → ∀ i, i < F.length → F.getD i (0, 0) ∈ D
  left : ¬ Flat D → ∀ i, i < F.length → ∀ r ∈ D, 0 ≤ side (F.getD i (0, 0)) (F.getD (nx F.length i) (0, 0)) r
  turn : ¬ Flat D → ∀ i, i < F.length → 0 < side (F.getD i (0, 0)) (F.getD (nx F.length i) (0, 0)) (F.getD (nx F.length (nx F.length i)) (0, 0))
  fst : ¬ Flat D → F[0]? = D[0]?
  top : ¬ Flat D → ∃ k, k < F.length ∧ ∀ i, i < F.length → (((F.getD i (0, 0)).1 < (F.getD (nx F.length i) (0, 0)).1 ∧ ¬ (F.getD (nx F.length i) (0, 0)).1 < (F.getD (nx F.length (nx F.length i)) (0, 0)).1) ↔ i = k)
theorem hull_two {D : List Pt} (hp : D.Pairwise lt) (h2 : 2 ≤ D.length) : Two D (fun i => (chain [] D).reverse.getD i (0, 0)) (fun i => (chain [] D.reverse).reverse.getD i (0, 0)) ((chain [] D).length - 1) ((chain [] D.reverse).length - 1) := by
  obtain ⟨d, r, e⟩ : ∃ d r, D = d :: r := by
    cases D with
    | nil => simp at h2
    | cons d r => exact ⟨d, r, rfl⟩
  have ok1 : Ok D (chain [] D) := by
    rw [e] at hp ⊢
    exact Ok.of hp
  have hrev : (D.reverse.map neg).Pairwise lt := by
    rw [List.pairwise_map, List.pairwise_reverse]
    exact hp.imp fun h => lt_neg.mpr h
  obtain ⟨d2, r2, e2⟩ : ∃ d2 r2, D.reverse = d2 :: r2 := by
    cases hq : D.reverse with
    | nil =>
      have : D.reverse.length = 0 := by rw [hq]; rfl
      simp at this
      rw [this] at h2
      simp at h2
    | cons d2 r2 => exact ⟨d2, r2, rfl⟩
  have ch2 : chain [] (D.reverse.map neg) = (chain [] D.reverse).map neg := chain_neg [] D.reverse
  have ok2 : Ok (D.reverse.map neg) ((chain [] D.reverse).map neg) := by
    rw [← ch2, e2] 
    rw [e2] at hrev
    exact Ok.of hrev
  have hpath2 := ok2.path
  have f1 : (chain [] D).reverse[0]? = some d := by
    rw [e] at hp ⊢
    exact first_of hp
  have f2 : (chain [] D.reverse).reverse[0]? = some d2 := by
    have h3 := first_of (d := neg d2) (r := r2.map neg) (by rw [e2] at hrev; exact hrev)
    have h4 : chain [] (neg d2 :: r2.map neg) = (chain [] D.reverse).map neg := by rw [← ch2, e2]; rfl
    rw [h4, ← List.map_reverse, List.getElem?_map] at h3
    cases h5 : (chain [] D.reverse).reverse[0]? with
    | none => rw [h5] at h3; cases h3
    | some x =>
      rw [h5] at h3
      have h6 : neg x = neg d2 := Option.some.inj h3
      have h7 := congrArg neg h6
      rw [neg_neg, neg_neg] at h7
      rw [h7]
  have t1 : (chain [] D).head? = some d2 := by
    rw [top_of, ← List.head?_reverse, e2]
    rfl
  have t2 : (chain [] D.reverse).head? = some d := by
    rw [top_of, List.getLast?_reverse, e]
    rfl
  have hne : d ≠ d2 := fun z => by
    have hd2 : d2 ∈ r := by
      have h3 : (d :: r).getLast? = some d2 := by
        rw [← e, ← List.head?_reverse, e2]
        rfl
      cases r with
      | nil => rw [e] at h2; simp at h2
      | cons x r =>
        rw [List.getLast?_cons_cons] at h3
        exact List.mem_of_getLast? h3
    rw [e] at hp
    have := (List.pairwise_cons.mp hp).1 d2 hd2
    rw [← z] at this
    exact lt_irr this
  have len : ∀ {S : List Pt} {a b : Pt}, S.reverse[0]? = some a → S.head? = some b → a ≠ b → 1 ≤ S.length - 1 := fun {S a b} h1 h2 h3 => by
    match S, h1, h2 with
    | [], h1, h2 => cases h2
    | [x], h1, h2 =>
      cases h2
      cases h1
      exact absurd rfl h3
    | x :: y :: r, h1, h2 => simp
  refine ⟨ok1.path, ⟨fun i hi => ?_, fun i hi => ?_, fun i hi s hs => ?_, fun i hi => ?_⟩, len f1 t1 hne, len f2 t2 fun z => hne z.symm, ?_, ?_⟩
  · have := hpath2.mem i (by rw [List.length_map]; exact hi)
    rw [← List.map_reverse, getD_neg] at this
    obtain ⟨x, hx, ex⟩ := List.mem_map.mp this
    exact List.mem_map.mpr ⟨x, List.mem_reverse.mp hx, ex⟩
  · have := hpath2.lt i (by rw [List.length_map]; exact hi)
    rw [← List.map_reverse, getD_neg, getD_neg] at this
    exact this
  · have := hpath2.left i (by rw [List.length_map]; exact hi) s (by
      obtain ⟨x, hx, ex⟩ := List.mem_map.mp hs
      exact List.mem_map.mpr ⟨x, List.mem_reverse.mpr hx, ex⟩)
    rw [← List.map_reverse, getD_neg, getD_neg] at this
    exact this
  · have := hpath2.turn i (by rw [List.length_map]; exact hi)
    rw [← List.map_reverse, getD_neg, getD_neg, getD_neg] at this
    exact this
  · show (chain [] D).reverse.getD _ _ = (chain [] D.reverse).reverse.getD 0 (0, 0)
    rw [last_rev t1, List.getD_eq_getElem?_getD, f2]
    rfl
  · show (chain [] D.reverse).reverse.getD _ _ = (chain [] D).reverse.getD 0 (0, 0)
    rw [last_rev t2, List.getD_eq_getElem?_getD, f1]
    rfl
theorem dropLast_at {S : List Pt} {i : Nat} (h : i < S.length - 1) : S.dropLast[i]? = some (S.getD i (0, 0)) := by
  rw [List.dropLast_eq_take, List.getElem?_take_of_lt h, List.getD_eq_getElem?_getD, List.getElem?_eq_getElem (by omega)]
  rfl
theorem hull_main {D : List Pt} (hp : D.Pairwise lt) : Hull D (hullL D) := by
  by_cases h2 : 2 ≤ D.length
  · have t := hull_two hp h2
    have hl : (hullL D).length = ((chain [] D).length - 1) + ((chain [] D.reverse).length - 1) := by
      unfold hullL
      rw [List.length_append, List.length_dropLast, List.length_dropLast, List.length_reverse, List.length_reverse]
    have hat : ∀ i, i < (hullL D).length → (hullL D)[i]? = some (cor (fun i => (chain [] D).reverse.getD i (0, 0)) (fun i => (chain [] D.reverse).reverse.getD i (0, 0)) ((chain [] D).length - 1) i) := fun i hi => by
      rw [hl] at hi
      unfold hullL cor
      have h3 : (chain [] D).reverse.dropLast.length = (chain [] D).length - 1 := by rw [List.length_dropLast, List.length_reverse]
      split
      · rw [List.getElem?_append_left (by omega), dropLast_at (by rw [List.length_reverse]; assumption)]
      · rw [List.getElem?_append_right (by omega), h3, dropLast_at (by rw [List.length_reverse]; omega)]
    have hgd : ∀ i, i < (hullL D).length → (hullL D).getD i (0, 0) = cor (fun i => (chain [] D).reverse.getD i (0, 0)) (fun i => (chain [] D.reverse).reverse.getD i (0, 0)) ((chain [] D).length - 1) i := fun i hi => by
      rw [List.getD_eq_getElem?_getD, hat i hi]
      rfl
    have h3 := t.three
    rw [← hl] at h3
    refine ⟨⟨fun h => Classical.byContradiction fun z => by have := h3.mpr z; omega, fun h => ?_⟩, fun hf i hi => ?_, fun hf i hi r hr => ?_, fun hf i hi => ?_, fun hf => ?_, fun hf => ?_⟩
    · refine Decidable.byContradiction fun z => h3.mp (by omega) h
    · rw [hgd i hi]
      exact t.mem (by omega)
    · rw [hgd i hi, hgd _ (nx_lt hi), hl]
      exact t.left (by omega) r hr
    · rw [hgd i hi, hgd _ (nx_lt hi), hgd _ (nx_lt (nx_lt hi)), hl]
      exact t.turns hf (by omega)
    · have h0 : 0 < (hullL D).length := by have := h3.mpr hf; omega
      rw [hat 0 h0]
      unfold cor
      rw [if_pos (by have := t.m1; omega)]
      cases D with
      | nil => simp at h2
      | cons d r =>
        show some ((chain [] (d :: r)).reverse.getD 0 (0, 0)) = _
        rw [List.getD_eq_getElem?_getD, first_of hp]
        rfl
    · obtain ⟨k, hk, hk2⟩ := t.exist hf
      refine ⟨k, by omega, fun i hi => ?_⟩
      rw [hgd i hi, hgd _ (nx_lt hi), hgd _ (nx_lt (nx_lt hi)), hl]
      constructor
      · intro h
        have hi' : i < (chain [] D).length - 1 + ((chain [] D.reverse).length - 1) := by omega
        rcases Nat.lt_trichotomy i k with z | z | z
        · exact (t.uniq hi' hk z h hk2).elim
        · exact z
        · exact (t.uniq hk hi' z hk2 h).elim
      · intro e
        rw [e]
        exact hk2
  · have hf : Flat D := fun p hp' q hq r hr => by
      match D, h2 with
      | [], _ => cases hp'
      | [d], _ =>
        rw [List.mem_singleton.mp hp', List.mem_singleton.mp hq, List.mem_singleton.mp hr]
        unfold side
        grind
      | _ :: _ :: _, h2 => exact absurd (by simp) h2
    refine ⟨⟨fun _ => hf, fun _ => ?_⟩, fun z => absurd hf z, fun z => absurd hf z, fun z => absurd hf z, fun z => absurd hf z, fun z => absurd hf z⟩
    match D, h2 with
    | [], _ => decide
    | [d], _ =>
      show (0 : Nat) < 3
      decide
    | _ :: _ :: _, h2 => exact absurd (by simp) h2
end Hu

/-! Own data layer: sorted(set(a list of pairs of ints)). -/
namespace Ja
open PySem PySem.Spec PyProof.Rows L2 Evl Cm
open Pg (Pt)
theorem perm_map_back {α β : Type} [DecidableEq α] {f : α → β} : ∀ {out : List β} {L : List α}, out.Perm (L.map f) → ∃ L' : List α, L'.Perm L ∧ out = L'.map f
  | [], L, h => by
    have : L.map f = [] := h.symm.eq_nil
    have h2 : L = [] := List.map_eq_nil_iff.mp this
    exact ⟨[], by rw [h2], rfl⟩
  | x :: xs, L, h => by
    obtain ⟨q, hq, e⟩ := List.mem_map.mp (h.mem_iff.mp (List.mem_cons_self ..))
    have h1 := List.perm_cons_erase hq
    have h2 : (x :: xs).Perm (x :: (L.erase q).map f) := by
      have := h.trans (h1.map f)
      rw [List.map_cons, e] at this
      exact this
    obtain ⟨L', p1, p2⟩ := perm_map_back h2.cons_inv
    exact ⟨q :: L', (List.Perm.cons q p1).trans h1.symm, by rw [List.map_cons, e, p2]⟩
/-- the pair of a list of two -/
def pr (l : List Int) : Int × Int := (l.getD 0 0, l.getD 1 0)
def rSortedS (K : PySem.W.Frag) (P : Program) (w : World) : List V → Hp → VK → Prop := fun vs H Q => ∃ (a : Addr) (L : List (Addr × List Int)), vs = [V.ref a] ∧ H a = some (SetTO P w a L) ∧ (∀ p ∈ L, SqT K H p.1 (p.2.map V.int)) ∧ (∀ p ∈ L, p.2.length = 2) ∧
  ∀ (L' : List (Addr × List Int)) (p : Addr), L'.Perm L → (L'.map (·.2)).Nodup → L'.Pairwise (fun q r => SrtO.lexB (pr r.2) (pr q.2) = false) → H p = none → Q (.ref p) (upd H p (.lst (L'.map fun q => V.ref q.1)))
section
variable {P : Program} {w : World} {A : Around} {E : Value → Shared → Prop} {s : Shared} {a : Addr} {L : List (Addr × List Int)} {es : Array (Int × Value)} {ep : Nat} {t : SetTable}
theorem pair_at {h : Heap} {v : Value} {ns : List Int} (x : TS.TupInts h v ns) (h2 : ns.length = 2) : Srt.IsPair h v (pr ns).1 (pr ns).2 := by
  obtain ⟨b, xs, e, ⟨o, ho, hc, n, hd⟩, hi⟩ := x
  have hx : xs = xs.toList.toArray := by simp
  generalize xs.toList = l at hi hx
  subst hx
  cases hi with
  | nil => cases h2
  | cons n1 t1 hi =>
    cases hi with
    | nil => cases h2
    | cons n1 t1 hi =>
      cases hi with
      | nil => exact ⟨b, o, _, _, n, e, ho, hc, hd⟩
      | cons n3 t3 hi => simp at h2
theorem sorted_setP {Q : Value → Shared → Prop} (R : SetTR P w s.heap a L es ep t) (hh : A.handled = none) (h2 : ∀ p ∈ L, p.2.length = 2)
    (hQ : ∀ s' p (out : List Value) (c : Nat) (L' : List (Addr × List Int)), (∀ b o, s.heap.get? b = some o → s'.heap.get? b = some o) → s'.gens = s.gens → s'.os = s.os → s.heap.objs.size ≤ p →
      s'.heap.get? p = some (seqObj "list" out.toArray c) → out = L'.map (fun q => Value.ref q.1) → L'.Perm L → L'.Pairwise (fun q r => SrtO.lexB (pr r.2) (pr q.2) = false) → Q (.ref p) s') :
    wpAny (model P w) A (call (.builtin "sorted") [.ref a]) Q E s := by
  obtain ⟨o, ho, hex, hd⟩ := R.ob
  have hsz := R.size
  have hfew := R.few
  refine Calls.call_function_entry kind_sorted plain_sorted entry_sorted (args_sorted1 _) ?_
  unfold Builtin.«sorted»
  refine wpAny_bind (m := checkCount "sorted" 1 1 _) (wpAny_pure ?_)
  refine wpAny_bind (collect_set (A := A.in1) hh ⟨o, ho, hex.1, hd⟩ R.fits (by unfold scanBound; omega) R.tab.ris R.led fun s1 vs k1 hz g1 o1 pm => ?_)
  have hes : es.toList.map (·.2) = L.map fun q => Value.ref q.1 := by
    rw [R.rows]
    unfold rowsOf
    rw [List.map_map] <;> rfl
  rw [hes] at pm
  have hvl : vs.length < 64 := by rw [pm.length_eq, List.length_map]; exact hfew
  have hvz : vs.length ≤ sizeLine := by rw [sizeLine_eq]; omega
  refine wpAny_bind (wpAny_newList ?_ hvz)
  have hoL : (s1.heap.push (seqObj "list" vs.toArray 0)).get? s1.heap.objs.size = some (seqObj "list" vs.toArray 0) := Heap.get?_push_size _ rfl
  have tk : ∀ q ∈ L, TS.TupInts (s1.heap.push (seqObj "list" vs.toArray 0)) (.ref q.1) q.2 := fun q hq => tupInts_of (P := P) (w := w) (isT_keep (R.tup q hq) fun b u e => Heap.get?_push_of_some _ (k1 b u e))
  have x : ∀ v ∈ vs, Srt.IsPair (s1.heap.push (seqObj "list" vs.toArray 0)) v (pr (TS.intsOf (s1.heap.push (seqObj "list" vs.toArray 0)) v)).1 (pr (TS.intsOf (s1.heap.push (seqObj "list" vs.toArray 0)) v)).2 := fun v hv => by
    obtain ⟨q, hq, e⟩ := List.mem_map.mp (pm.mem_iff.mp hv)
    subst e
    rw [(tk q hq).ints]
    exact pair_at (tk q hq) (h2 q hq)
  refine wpAny_bind (wpAny_holding (wpAny_call_entry (s := { s1 with heap := s1.heap.push (seqObj "list" vs.toArray 0) }) slot_list_sort ⟨_, hoL, rfl⟩ entry_list_sort (SrtO.list_sort_ord (SrtO.swo_lex fun v => pr (TS.intsOf (s1.heap.push (seqObj "list" vs.toArray 0)) v)) hoL hvz (fun h3 => SrtO.pairs_sortableO (by omega) x fun o e => ?_) fun out a1 a2 => ⟨_, rfl, ?_⟩) (args_list_sort _)))
  · have e' : some o = some (seqObj "list" vs.toArray 0) := e.symm.trans hoL
    cases e'
    intro c
    exact absurd (Value.type.inj c) (by decide)
  · obtain ⟨c, hc⟩ := sortedHeap_at (vs := vs) (out := out.toArray) hoL
    obtain ⟨L', p1, p2⟩ := perm_map_back (a2.perm.trans pm)
    refine wpAny_pure ⟨_, rfl, hQ _ s1.heap.objs.size out c L' (fun b u e => ?_) g1 o1 hz hc p2 p1 ?_⟩
    · have q := k1 b u e
      have hlt := Heap.lt_size q
      show (sortedHeap (s1.heap.push (seqObj "list" vs.toArray 0)) s1.heap.objs.size vs out.toArray).get? b = some u
      rw [sortedHeap_old (Nat.ne_of_lt hlt) (by rw [size_push']; exact Nat.lt_succ_of_lt hlt)]
      exact Heap.get?_push_of_some _ q
    · rw [p2] at a1
      refine List.Pairwise.imp_of_mem (fun {q r} hq hr hle => ?_) (List.pairwise_map.mp a1)
      have f1 := (tk q (p1.mem_iff.mp hq)).ints
      have f2 := (tk r (p1.mem_iff.mp hr)).ints
      have hle' : SrtO.lexB (pr (TS.intsOf (s1.heap.push (seqObj "list" vs.toArray 0)) (.ref r.1))) (pr (TS.intsOf (s1.heap.push (seqObj "list" vs.toArray 0)) (.ref q.1))) = false := hle
      rw [f1, f2] at hle'
      exact hle'
end
section
variable {X : Cx}
theorem cr_sortedSP (hc : X.calm = true) : CallR X (.builtin "sorted") (rSortedS X.K X.prog X.w) := by
  intro pins s σ H vs us Q I r h
  obtain ⟨a, L, rfl, ha, hk, h2, q⟩ := h
  have R0 : SetT0 X.prog X.w s.heap a L := (I.hok a _ ha).1
  obtain ⟨es, ep, t, R⟩ := R0.full fun p hp => I.isT (hk p hp)
  rw [Vals.ref1 r]
  refine sorted_setP R (I.ok.hd hc) h2 fun s' p out c L' k g o hp hg hout pm pw => ?_
  have hfew : L'.length < 64 := by rw [pm.length_eq]; exact R.few
  have hlen : (L'.map fun q => V.ref q.1).length ≤ sizeLine := by rw [List.length_map, sizeLine_eq]; omega
  have hn : H p = none := I.hok.fresh hp
  have hv : Vals (L'.map fun q => V.ref q.1) out := by rw [hout]; exact vals_of_refs L'
  have J : Inv X pins σ (upd H p (.lst (L'.map fun q => V.ref q.1))) { s with heap := s'.heap, gens := s'.gens, drawn := s'.drawn, toks := s'.toks } :=
    I.call (ch := []) (Un.laid k hp hn) (I.hok.laid k hp ⟨hlen, out, c, hv, hg⟩) (by rw [g]; exact I.bare) (fun _ z => nomatch z)
  have e : s' = { s with heap := s'.heap, gens := s'.gens, drawn := s'.drawn, toks := s'.toks } := by
    cases s'
    cases s
    cases o
    rfl
  rw [e]
  exact ⟨.ref p, _, J, rfl, q L' p pm ((pm.map (·.2)).nodup_iff.mpr R.nd) pw hn⟩
end
end Ja

/-! Own data layer: sorted(set(a list of pairs of ints)). -/
namespace Ja
open PySem PySem.Spec PyProof.Rows L2 Evl Cm
open Pg (Pt)
theorem hu64 {A : Around} {k : Nat} (hr : Room k A) : A.units + 64 < cLine := by
  have := hr.un
  omega
section
variable {K : PySem.W.Frag} {P : Program} {w : World} {B0 H0 : Hp} {δ : List Sl} {ta : TE} {ps : List Pt}
/-- references to pairs, as the set's rule wants them -/
theorem keys_of {B H : Hp} (e : Ex B H) : ∀ {xs : List V} {ps : List Pt}, DtAll K B xs (ps.map encP) → ∃ ks : List (Addr × List Int), xs = ks.map (fun p => V.ref p.1) ∧ ks.map (·.2) = ps.map (fun p => [p.1, p.2]) ∧ ∀ p ∈ ks, SqT K H p.1 (p.2.map V.int) ∧ Dt K B (V.ref p.1) (encP (pr p.2))
  | _, [], .nil => ⟨[], rfl, rfl, fun p hp => nomatch hp⟩
  | _, p :: ps, .cons h r => by
    obtain ⟨ks, e1, e2, e3⟩ := keys_of e r
    cases h with
    | @tup t zs _ h1 h2 =>
      have hz := dt_ints_inv [p.1, p.2] h2
      have h3 : SqT K B t [V.int p.1, V.int p.2] := by
        rw [hz] at h1
        exact h1
      refine ⟨(t, [p.1, p.2]) :: ks, by rw [e1]; rfl, by rw [List.map_cons, e2]; rfl, fun q hq => ?_⟩
      rcases List.mem_cons.mp hq with z | z
      · rw [z]
        exact ⟨ex_t e h3, .tup h1 h2⟩
      · exact e3 q z
theorem keys_dt {B : Hp} : ∀ {L : List (Addr × List Int)}, (∀ p ∈ L, Dt K B (V.ref p.1) (encP (pr p.2))) → DtAll K B (L.map fun p => V.ref p.1) ((L.map fun p => pr p.2).map encP)
  | [], _ => .nil
  | q :: L, h => .cons (h q (List.mem_cons_self ..)) (keys_dt fun p hp => h p (List.mem_cons_of_mem _ hp))
theorem two_of {l : List Int} (h : l.length = 2) : ∃ x y, l = [x, y] := by
  cases l with
  | nil => cases h
  | cons x l =>
    cases l with
    | nil => cases h
    | cons y l =>
      cases l with
      | nil => exact ⟨x, y, rfl⟩
      | cons z l => simp at h
theorem lex_str {x1 x2 y1 y2 : Int} (h1 : SrtO.lexB (pr [y1, y2]) (pr [x1, x2]) = false) (h2 : ¬ (x1 = y1 ∧ x2 = y2)) : SrtO.lexB (pr [x1, x2]) (pr [y1, y2]) = true := by
  have h3 : ¬ (y1 < x1 ∨ (y1 = x1 ∧ y2 < x2)) := SrtO.lexB_no.mp h1
  refine SrtO.lexB_iff.mpr ?_
  show x1 < y1 ∨ (x1 = y1 ∧ x2 < y2)
  omega
/-- sorted(set(a list of pairs)): each once, in order -/
theorem nr_sortedSet (h : EvS K B0 H0 ta δ (.dat (.list (ps.map encP)))) (hl : ps.length < 64) : EvNR K B0 H0 (tCB (rSortedS K P w) (tCons (tCB (rSetOfT K P w) (tCons ta tNil)) tNil)) δ fun ds => ∃ qs : List Pt, ds = qs.map encP ∧ (∀ q, q ∈ qs ↔ q ∈ ps) ∧ qs.Pairwise fun p q => SrtO.lexB p q = true := fun B H σ S Q q => h B H σ S _ fun v B1 H1 s1 i1 => by
  cases i1 with
  | @lst a xs _ g1 g2 =>
    obtain ⟨ks, e1, e2, e3⟩ := keys_of s1.bh g2
    subst e1
    have hkl : ks.length = ps.length := by
      have := congrArg List.length e2
      simpa using this
    refine ⟨a, ks, rfl, sq_of (s1.bh _ _ g1), fun p hp => (e3 p hp).1, by omega, fun b L hb hsub hall => ?_⟩
    have ex : Ex H1 (upd H1 b (SetTO P w b L)) := Ex.new hb
    have two : ∀ p ∈ ks, p.2.length = 2 := fun p hp => by
      have : p.2 ∈ ks.map (·.2) := List.mem_map.mpr ⟨p, hp, rfl⟩
      rw [e2] at this
      obtain ⟨z, _, ez⟩ := List.mem_map.mp this
      rw [← ez]
      rfl
    refine ⟨b, L, rfl, upd_same, fun p hp => ex_t ex (e3 p (hsub p hp)).1, fun p hp => two p (hsub p hp), fun L' p pm nd pw hp => ?_⟩
    have hsub' : ∀ r ∈ L', r ∈ ks := fun r hr => hsub r (pm.mem_iff.mp hr)
    have hp1 : H1 p = none := none_of ex hp
    have st : Stp B1 H1 B1 (upd (upd H1 b (SetTO P w b L)) p (.lst (L'.map fun q => V.ref q.1))) := .same s1.bh (ex.trans (Ex.new hp))
    refine q p _ _ B1 _ ⟨L'.map fun q => pr q.2, rfl, fun z => ?_, ?_⟩ (s1.trans st) (none_of s1.h hp1) (none_of s1.bh hp1) upd_same (keys_dt fun r hr => (e3 r (hsub' r hr)).2)
    · rw [List.mem_map]
      constructor
      · rintro ⟨r, hr, rfl⟩
        have : r.2 ∈ ks.map (·.2) := List.mem_map.mpr ⟨r, hsub' r hr, rfl⟩
        rw [e2] at this
        obtain ⟨y, hy, ey⟩ := List.mem_map.mp this
        rw [← ey]
        exact hy
      · intro hz
        have : [z.1, z.2] ∈ ks.map (·.2) := by
          rw [e2]
          exact List.mem_map.mpr ⟨z, hz, rfl⟩
        obtain ⟨r, hr, er⟩ := List.mem_map.mp this
        obtain ⟨r2, hr2, er2⟩ := List.mem_map.mp (hall r hr)
        refine ⟨r2, pm.mem_iff.mpr hr2, ?_⟩
        rw [er2, er]
        rfl
    · rw [List.pairwise_map]
      refine List.Pairwise.imp_of_mem (fun {x y} hx hy hh => ?_) (pw.and (List.pairwise_map.mp nd))
      obtain ⟨h1, h2⟩ := hh
      have hx2 := two x (hsub' x hx)
      have hy2 := two y (hsub' y hy)
      obtain ⟨xa, xl⟩ := x
      obtain ⟨ya, yl⟩ := y
      obtain ⟨x1, x2, rfl⟩ := two_of hx2
      obtain ⟨y1, y2, rfl⟩ := two_of hy2
      exact lex_str h1 fun z => h2 (by rw [z.1, z.2])
/-- xs[::-1] -/
theorem n_rev {ds : List PyData} (h : EvS K B0 H0 ta δ (.dat (.list ds))) : EvN K B0 H0 (tRevL K ta) δ ds.reverse := fun B H σ S Q q => h B H σ S _ fun v B1 H1 s1 i1 => by
  cases i1 with
  | @lst a xs _ g1 g2 => exact ⟨a, xs, rfl, sq_of (s1.bh _ _ g1), fun p hp => q p _ B1 _ (s1.trans (.same s1.bh (.new hp))) (none_of s1.h hp) (none_of s1.bh hp) upd_same g2.rev⟩
end
end Ja

/-! Own data layer: min(a list of pairs of ints). -/
namespace Ja
open PySem PySem.Spec PyProof.Rows L2 Evl Cm
open Pg (Pt)
section
variable {prog : Program} {w : World} {A : Around} {s : Shared}
theorem lt_pairs {E : Value → Shared → Prop} {v u : Value} {p q : Int × Int} {Q : Value → Shared → Prop} (h1 : Srt.IsPair s.heap v p.1 p.2) (h2 : Srt.IsPair s.heap u q.1 q.2) (hu : A.units < cLine) (h : Q (.bool (SrtO.lexB p q)) s) : wpAny (model prog w) A (richCompare .Lt v u) Q E s := by
  obtain ⟨a, o, t1, t2, n, rfl, ho, hc, hd⟩ := h1
  obtain ⟨b, o2, t3, t4, n2, rfl, ho2, hc2, hd2⟩ := h2
  refine HT.lt_tupInts (ns := [p.1, p.2]) (ms := [q.1, q.2]) ⟨o, ho, hc, n, hd⟩ ⟨o2, ho2, hc2, n2, hd2⟩ (.cons _ _ (.cons _ _ .nil)) (.cons _ _ (.cons _ _ .nil)) hu ?_
  have e : HT.lexLt [p.1, p.2] [q.1, q.2] = SrtO.lexB p q := by
    unfold SrtO.lexB
    show (if p.1 = q.1 then (if p.2 = q.2 then false else decide (p.2 < q.2)) else decide (p.1 < q.1)) = _
    split
    · split
      · exact (decide_eq_false (by omega)).symm
      · rfl
    · rfl
  rw [e]
  exact h
variable {R : Result → Shared → Prop} {I S : Addr} {fp wr : List Addr} {n : Nat} {P : Nat → Value → Prop} {St : Nat → Heap → Prop} {h0 : Heap} {bt : Nat → Nat → Bool}
/-- old objects that stand -/
abbrev Old (h0 h : Heap) : Prop := ∀ b o, h0.get? b = some o → h.get? b = some o
/-- a comparison that needs old objects only -/
abbrev CmpK (prog : Program) (w : World) (A : Around) (h0 : Heap) (P : Nat → Value → Prop) (bt : Nat → Nat → Bool) : Prop := ∀ i j vi vj (s : Shared) (Q E : Value → Shared → Prop), Old h0 s.heap → P i vi → P j vj → Q (.bool (bt i j)) s → wpAny (model prog w) A (richCompare .Lt vi vj) Q E s
theorem minK_go (W : Walks prog w A.in1 I fp wr n P St) (hcmp : CmpK prog w A.in1 h0 P bt) (hSf : S ∉ fp) (hw : ∀ b o, h0.get? b = some o → b ∉ wr ∧ b ≠ S) :
    ∀ (k j : Nat) (s : Shared) (vb : Value) (c : Nat), n - (j + 1) = k → j + 1 ≤ n → Old h0 s.heap → St (j + 1) s.heap → P (argBest bt j) vb → s.heap.get? S = some { cls := .type "list", dict := none, data := .seq #[vb, vb] c, slots := #[] } →
    (∀ v h' tk, P (argBest bt (n - 1)) v → Old h0 h' → (∀ b o, b ∉ wr → b ≠ S → s.heap.get? b = some o → h'.get? b = some o) → R (.ok (.ret v)) { s with heap := h', toks := tk }) → codeAny (model prog w) A (.builtin "min.loop" ⟨[.ref I, .none, .ref S], []⟩) R s := by
  have nm : (toString "min" ++ toString ".loop" : String) = "min.loop" := by decide
  have hSw : S ∉ wr := fun h => hSf (W.sub _ h)
  intro k
  induction k with
  | zero =>
    intro j s vb c hk hj hO hst hPb hS hR
    have hin : n = j + 1 := by omega
    subst hin
    refine codeAny_builtin F.entry_min_loop ?_
    rw [Around.under_plainId F.plain_min_loop _]
    refine (show wpAny _ A.in1 (seqItems? (.ref S) >>= _) _ _ s from wpAny_bind (wpAny_seqItems hS rfl ?_))
    refine (show wpAny _ A.in1 (tryCatch (pyNext (.ref I)) _ >>= _) _ _ s from wpAny_bind (wpAny_tryCatch (W.done s _ _ hst fun h1 tk1 k1 => ?_)))
    have hS1 := k1 S _ hSw hS
    refine (show wpAny _ A.in1 (updateSeq S (fun _ => #[]) >>= _) _ _ _ from wpAny_bind (wpAny_updateSeq hS1 rfl (wpAny_bind (wpAny_letGo (wpAny_pure ?_)))))
    refine hR vb _ tk1 hPb (fun b o e => ?_) fun b o nb nS e => ?_
    · exact (Heap.get?_update_other _ _ (Ne.symm (hw b o e).2)).trans (k1 b o (hw b o e).1 (hO b o e))
    · exact (Heap.get?_update_other _ _ (Ne.symm nS)).trans (k1 b o nb e)
  | succ k ih =>
    intro j s vb c hk hj hO hst hPb hS hR
    have hlt : j + 1 < n := by omega
    refine codeAny_builtin F.entry_min_loop ?_
    rw [Around.under_plainId F.plain_min_loop _]
    refine (show wpAny _ A.in1 (seqItems? (.ref S) >>= _) _ _ s from wpAny_bind (wpAny_seqItems hS rfl ?_))
    refine (show wpAny _ A.in1 (tryCatch (pyNext (.ref I)) _ >>= _) _ _ s from wpAny_bind (wpAny_tryCatch (W.item (j + 1) s _ _ hlt hst fun v h1 tk1 hPv st1 k1 => ?_)))
    have hS1 := k1 S _ hSw hS
    have hO1 : Old h0 h1 := fun b o e => k1 b o (hw b o e).1 (hO b o e)
    show wpAny _ A.in1 (tryCatch (holding [v, v] (richCompare .Lt v vb >>= _)) _ >>= _) _ _ _
    refine wpAny_bind (wpAny_tryCatch (wpAny_holding (wpAny_bind (hcmp (j + 1) (argBest bt j) v vb _ _ _ hO1 hPv hPb ?_))))
    refine wpAny_bind (wpAny_holding (wpAny_truthy_bool (wpAny_bind (wpAny_letGo (wpAny_pure ?_)))))
    by_cases hb : bt (j + 1) (argBest bt j) = true
    · rw [hb]
      simp only [if_true]
      refine wpAny_bind (wpAny_updateSeq hS1 rfl (wpAny_bind (wpAny_letGo ?_)))
      rw [nm]
      refine wpAny_pure ⟨plainId_quiet F.plain_min_loop _, ih (j + 1) _ v _ (by omega) hlt (fun b o e => ?_) (W.frame _ _ _ st1 fun b hbf o e => ?_) (by simp only [argBest, hb, if_true]; exact hPv) (Heap.get?_update_self _ hS1 rfl) fun v2 h2 tk2 p2 o2 k2 => ?_⟩
      · exact (Heap.get?_update_other _ _ (Ne.symm (hw b o e).2)).trans (hO1 b o e)
      · exact (Heap.get?_update_other _ _ (fun h : S = b => hSf (h ▸ hbf))).trans e
      · exact hR v2 h2 tk2 p2 o2 fun b o nb nS e => k2 b o nb nS ((Heap.get?_update_other _ _ (Ne.symm nS)).trans (k1 b o nb e))
    · rw [Bool.eq_false_iff.mpr hb]
      simp only [Bool.false_eq_true, if_false]
      refine wpAny_bind (wpAny_letGo ?_)
      rw [nm]
      refine wpAny_pure ⟨plainId_quiet F.plain_min_loop _, ih (j + 1) _ vb c (by omega) hlt hO1 st1 (by simp only [argBest, Bool.eq_false_iff.mpr hb, Bool.false_eq_true, if_false]; exact hPb) hS1 fun v2 h2 tk2 p2 o2 k2 => ?_⟩
      exact hR v2 h2 tk2 p2 o2 fun b o nb nS e => k2 b o nb nS (k1 b o nb e)
theorem minK_first (W : Walks prog w A.in1 I fp wr n P St) (hcmp : CmpK prog w A.in1 h0 P bt) (hSf : S ∉ fp) (hw : ∀ b o, h0.get? b = some o → b ∉ wr ∧ b ≠ S) (hn : 0 < n) {c : Nat} (hO : Old h0 s.heap) (hst : St 0 s.heap) (hS : s.heap.get? S = some { cls := .type "list", dict := none, data := .seq #[] c, slots := #[] })
    (hR : ∀ v h' tk, P (argBest bt (n - 1)) v → Old h0 h' → R (.ok (.ret v)) { s with heap := h', toks := tk }) : codeAny (model prog w) A (.builtin "min.loop" ⟨[.ref I, .none, .ref S], []⟩) R s := by
  have nm : (toString "min" ++ toString ".loop" : String) = "min.loop" := by decide
  have hSw : S ∉ wr := fun h => hSf (W.sub _ h)
  refine codeAny_builtin F.entry_min_loop ?_
  rw [Around.under_plainId F.plain_min_loop _]
  refine (show wpAny _ A.in1 (seqItems? (.ref S) >>= _) _ _ s from wpAny_bind (wpAny_seqItems hS rfl ?_))
  refine (show wpAny _ A.in1 (tryCatch (pyNext (.ref I)) _ >>= _) _ _ s from wpAny_bind (wpAny_tryCatch (W.item 0 s _ _ hn hst fun v h1 tk1 hPv st1 k1 => ?_)))
  have hS1 := k1 S _ hSw hS
  have hO1 : Old h0 h1 := fun b o e => k1 b o (hw b o e).1 (hO b o e)
  refine (show wpAny _ A.in1 (updateSeq S (fun _ => #[v, v]) >>= _) _ _ _ from wpAny_bind (wpAny_updateSeq hS1 rfl ?_))
  rw [nm]
  refine wpAny_pure ⟨plainId_quiet F.plain_min_loop _, minK_go W hcmp hSf hw _ 0 _ v _ rfl hn (fun b o e => ?_) (W.frame _ _ _ st1 fun b hbf o e => ?_) hPv (Heap.get?_update_self _ hS1 rfl) fun v2 h2 tk2 p2 o2 k2 => hR v2 h2 tk2 p2 o2⟩
  · exact (Heap.get?_update_other _ _ (Ne.symm (hw b o e).2)).trans (hO1 b o e)
  · exact (Heap.get?_update_other _ _ (fun h : S = b => hSf (h ▸ hbf))).trans e
/-- which place is found, of pairs -/
theorem best_pairs (k : Nat → Int × Int) : ∀ m, argBest (fun i j => SrtO.lexB (k i) (k j)) m ≤ m ∧ ∀ j, j ≤ m → SrtO.lexB (k j) (k (argBest (fun i j => SrtO.lexB (k i) (k j)) m)) = false
  | 0 => ⟨Nat.le_refl _, fun j hj => by
    rw [Nat.le_zero.mp hj]
    exact SrtO.lexB_no.mpr (by show ¬ ((k 0).1 < (k 0).1 ∨ (k 0).1 = (k 0).1 ∧ (k 0).2 < (k 0).2); omega)⟩
  | m + 1 => by
    obtain ⟨h1, h2⟩ := best_pairs k m
    have e : argBest (fun i j => SrtO.lexB (k i) (k j)) (m + 1) = if SrtO.lexB (k (m + 1)) (k (argBest (fun i j => SrtO.lexB (k i) (k j)) m)) = true then m + 1 else argBest (fun i j => SrtO.lexB (k i) (k j)) m := rfl
    rw [e]
    generalize argBest (fun i j => SrtO.lexB (k i) (k j)) m = b at h1 h2
    split
    · rename_i hb
      refine ⟨Nat.le_refl _, fun j hj => ?_⟩
      have hb := SrtO.lexB_iff.mp hb
      refine SrtO.lexB_no.mpr ?_
      rcases Nat.lt_or_eq_of_le hj with z | z
      · have hj2 := SrtO.lexB_no.mp (h2 j (Nat.le_of_lt_succ z))
        omega
      · rw [z]
        omega
    · rename_i hb
      refine ⟨Nat.le_succ_of_le h1, fun j hj => ?_⟩
      rcases Nat.lt_or_eq_of_le hj with z | z
      · exact h2 j (Nat.le_of_lt_succ z)
      · rw [z]
        exact Bool.eq_false_iff.mpr hb
theorem min_pairs {E : Value → Shared → Prop} {l : Addr} {vs : List Value} {k : Nat → Int × Int} {Q : Value → Shared → Prop} (hh : A.handled = none) (hu : A.units + 64 < cLine) (hl : s.heap.IsList l vs.toArray) (hne : 0 < vs.length) (hp : ∀ i v, vs[i]? = some v → Srt.IsPair s.heap v (k i).1 (k i).2)
    (hQ : ∀ i v h' tk, vs[i]? = some v → (∀ j, j < vs.length → SrtO.lexB (k j) (k i) = false) → Old s.heap h' → Q v { s with heap := h', toks := tk }) : wpAny (model prog w) A (call (.builtin "min") [.ref l]) Q E s := by
  have nm : (toString "min" ++ toString ".loop" : String) = "min.loop" := by decide
  refine call_function_tree F.kind_min F.plain_min F.entry_min (F.args_min1 _) ?_
  refine wpAny_bind (m := Builtin.Builtins.bindParams "min" ["key", "default"] 0 ⟨[], []⟩) (wpAny_of_eq (show _ = pure [none, none] from rfl) ?_)
  refine wpAny_bind (wpAny_pure ?_)
  have hlt : l < s.heap.objs.size := by obtain ⟨_, e, _⟩ := hl; exact Heap.lt_size e
  refine wpAny_bind (wpAny_pyIter_list hl (wpAny_bind (wpAny_newObj_type ?_)))
  rw [nm]
  have hl1 : Old s.heap (s.heap.push { cls := .type "list_iterator", data := .fields #[.ref l, .int 0 0] }) := fun b o e => Heap.get?_push_of_some _ e
  have hz : (s.heap.push { cls := .type "list_iterator", data := .fields #[.ref l, .int 0 0] }).objs.size = s.heap.objs.size + 1 := Heap.size_push ..
  refine wpAny_pure ⟨plainId_quiet F.plain_min_loop _, minK_first (Walks.list (A := A.in1) hh s.heap.objs.size l (Nat.ne_of_lt hlt) vs.toArray) (h0 := s.heap) (bt := fun i j => SrtO.lexB (k i) (k j)) (fun i j vi vj s2 Q2 E2 ho hi hj hq => ?_) (fun hm => ?_) (fun b o e => ⟨fun hm => ?_, fun hm => ?_⟩) (by simpa using hne) (c := 0) (fun b o e => Heap.get?_push_of_some _ (hl1 b o e)) ⟨⟨_, Heap.get?_push_of_some _ (Heap.get?_push_size _ rfl), rfl, rfl⟩, (hl.push _).push _⟩ (Heap.get?_push_size _ rfl) fun v h' tk hP ho => ?_⟩
  · have keep : ∀ {i v}, vs.toArray[i]? = some v → Srt.IsPair s2.heap v (k i).1 (k i).2 := fun {i v} e => (hp i v (by simpa using e)).keeps fun b o e _ => ho b o e
    exact lt_pairs (keep hi) (keep hj) (by show A.units + 1 < cLine; omega) hq
  · rw [hz] at hm
    rcases List.mem_cons.mp hm with z | z
    · exact absurd z (Nat.succ_ne_self _)
    · exact absurd hlt (Nat.not_lt.mpr (Nat.le_of_lt (Nat.lt_of_lt_of_eq (Nat.lt_succ_self _) (List.mem_singleton.mp z))))
  · exact absurd (Heap.lt_size e) (Nat.not_lt.mpr (Nat.le_of_eq (List.mem_singleton.mp hm).symm))
  · rw [hz] at hm
    exact absurd (Heap.lt_size e) (Nat.not_lt.mpr (by rw [hm]; exact Nat.le_succ _))
  · obtain ⟨b1, b2⟩ := best_pairs k (vs.toArray.size - 1)
    refine hQ _ v h' tk (by simpa using hP) (fun j hj => b2 j ?_) ho
    rw [List.size_toArray]
    omega
end
def rMinP (K : PySem.W.Frag) : List V → Hp → VK → Prop := fun vs H Q => ∃ (a : Addr) (xs : List V) (ps : List Pt), vs = [V.ref a] ∧ SqL K H a xs ∧ Paired (fun x p => PairOf K H x p ∧ True) xs ps ∧ 0 < ps.length ∧ ∀ (i : Nat) (x : V) (p : Pt), xs[i]? = some x → ps[i]? = some p → (∀ q ∈ ps, SrtO.lexB q p = false) → Q x H
theorem vals_at {i : Nat} : ∀ {xs : List V} {its : List Value} {j : Nat} {u : Value}, Vals xs its → its[j]? = some u → ∃ x, xs[j]? = some x ∧ RelV x u
  | _, _, 0, _, .cons r _, h => ⟨_, rfl, by cases h; exact r⟩
  | _, _, j + 1, _, .cons _ rr, h => vals_at (i := i) (j := j) rr h
theorem cr_minP {X : Cx} (hc : X.calm = true) (hu : X.A.units + 64 < cLine) : CallR X (.builtin "min") (rMinP X.K) := by
  intro pins s σ H vs us Q I r h
  obtain ⟨a, xs, ps, rfl, hs, hp, hne, q⟩ := h
  obtain ⟨its, rv, hl, hsz⟩ := I.list hs
  obtain ⟨h1, h2⟩ := pairs_read I rv hp
  have hlen : its.length = ps.length := by rw [← h1, List.length_map]
  have hat : ∀ i v, its[i]? = some v → ps[i]? = some (rdP s.heap v) := fun i v e => by rw [← h1, List.getElem?_map, e]; rfl
  rw [Vals.ref1 r]
  refine min_pairs (k := fun i => ps.getD i (0, 0)) (I.ok.hd hc) hu hl.isList (hlen ▸ hne) (fun i v e => ?_) fun i v h' tk e hm ho => ?_
  · obtain ⟨t, _, _, z⟩ := h2 v (List.mem_of_getElem? e)
    have : ps.getD i (0, 0) = rdP s.heap v := by rw [List.getD_eq_getElem?_getD, hat i v e]; rfl
    show Srt.IsPair s.heap v (ps.getD i (0, 0)).1 (ps.getD i (0, 0)).2
    rw [this]
    exact z
  · obtain ⟨x, hx, rx⟩ := vals_at (i := 0) rv e
    refine ⟨x, H, I.kept ho, rx, q i x _ hx (hat i v e) fun y hy => ?_⟩
    obtain ⟨j, hj, ej⟩ := List.mem_iff_getElem.mp hy
    have := hm j (by rw [hlen]; exact hj)
    have e1 : ps.getD i (0, 0) = rdP s.heap v := by rw [List.getD_eq_getElem?_getD, hat i v e]; rfl
    have e2 : ps.getD j (0, 0) = y := by rw [List.getD_eq_getElem?_getD, List.getElem?_eq_getElem hj, ej]; rfl
    rw [← e1, ← e2]
    exact this
section
variable {K : PySem.W.Frag} {B0 H0 : Hp} {δ : List Sl} {ta : TE} {ps : List Pt}
theorem pairs_dt {B H : Hp} (e : Ex B H) : ∀ {xs : List V} {ps : List Pt}, DtAll K B xs (ps.map encP) → Paired (fun x p => PairOf K H x p ∧ True) xs ps
  | _, [], .nil => .nil
  | _, p :: ps, .cons h r => by
    refine .cons ⟨?_, trivial⟩ (pairs_dt e r)
    cases h with
    | @tup t zs _ h1 h2 =>
      have hz := dt_ints_inv [p.1, p.2] h2
      have h3 : SqT K B t [V.int p.1, V.int p.2] := by
        rw [hz] at h1
        exact h1
      exact ⟨t, rfl, ex_t e h3⟩
/-- min(a list of pairs): the first in order -/
theorem dt_at {B : Hp} : ∀ {xs : List V} {ds : List PyData} {i : Nat} {x : V}, DtAll K B xs ds → xs[i]? = some x → ∃ d, ds[i]? = some d ∧ Dt K B x d
  | _, _, 0, _, .cons h _, e => ⟨_, rfl, by cases e; exact h⟩
  | _, _, i + 1, _, .cons _ r, e => dt_at (i := i) r e
theorem r_minP (h : EvS K B0 H0 ta δ (.dat (.list (ps.map encP)))) (hn : 0 < ps.length) : EvR K B0 H0 (tCB (rMinP K) (tCons ta tNil)) δ fun d => ∃ p, d = encP p ∧ p ∈ ps ∧ ∀ q ∈ ps, SrtO.lexB q p = false := fun B H σ S Q q => h B H σ S _ fun v B1 H1 s1 i1 => by
  cases i1 with
  | @lst a xs _ g1 g2 =>
    refine ⟨a, xs, ps, rfl, sq_of (s1.bh _ _ g1), pairs_dt s1.bh g2, hn, fun i x p hx hp hm => ?_⟩
    obtain ⟨d, hd, hx2⟩ := dt_at g2 hx
    rw [List.getElem?_map, hp] at hd
    cases hd
    exact q x _ B1 H1 ⟨p, rfl, List.mem_of_getElem? hp, hm⟩ s1 hx2
end
end Ja


namespace K67
open PySem PySem.Spec PyProof.Rows L2 Cm Mi Ja
open SX (S S_cat S_len num_S)
open TL (numL numL_lt)
open Pg
def topS (i : Nat) : Stmt := PySem.Challenge.pw_portolan_k67_hulls_of_points.main.body.getD i (.Pass ⟨0, 0, 0, 0⟩)
abbrev s_hull_of : Stmt := topS 4
theorem sc_hull_of : FnScope ["points", "places", "point", "ordered", "lon", "lat", "corners"] ["points"] (defScope s_hull_of) := ⟨rfl, rfl, rfl, by decide +kernel, rfl, by decide +kernel, by decide +kernel⟩
abbrev s_side_of : Stmt := topS 5
theorem sc_side_of : FnScope ["a", "b", "c"] ["a", "b", "c"] (defScope s_side_of) := ⟨rfl, rfl, rfl, by decide +kernel, rfl, by decide +kernel, by decide +kernel⟩
abbrev s_chain_of : Stmt := topS 6
theorem sc_chain_of : FnScope ["points", "corners", "point"] ["points"] (defScope s_chain_of) := ⟨rfl, rfl, rfl, by decide +kernel, rfl, by decide +kernel, by decide +kernel⟩
abbrev s_law_is_integer : Stmt := topS 8
theorem sc_law_is_integer : FnScope ["actual"] ["actual"] (defScope s_law_is_integer) := ⟨rfl, rfl, rfl, by decide +kernel, rfl, by decide +kernel, by decide +kernel⟩
abbrev s_law_cell : Stmt := topS 9
theorem sc_law_cell : FnScope ["script", "k"] ["script", "k"] (defScope s_law_cell) := ⟨rfl, rfl, rfl, by decide +kernel, rfl, by decide +kernel, by decide +kernel⟩
abbrev s_law_numbers : Stmt := topS 10
theorem sc_law_numbers : FnScope ["script", "first", "most", "found", "at", "cell", "k", "mixed"] ["script", "first", "most"] (defScope s_law_numbers) := ⟨rfl, rfl, rfl, by decide +kernel, rfl, by decide +kernel, by decide +kernel⟩
abbrev s_law_corners : Stmt := topS 11
theorem sc_law_corners : FnScope ["script", "first", "most", "numbers", "way", "corners", "k"] ["script", "first", "most"] (defScope s_law_corners) := ⟨rfl, rfl, rfl, by decide +kernel, rfl, by decide +kernel, by decide +kernel⟩
abbrev s_law_around : Stmt := topS 12
theorem sc_law_around : FnScope ["corners", "places", "p", "middle", "many", "upper", "lower", "lat", "lon", "found", "side", "order", "one", "at", "k", "turn"] ["corners"] (defScope s_law_around) := ⟨rfl, rfl, rfl, by decide +kernel, rfl, by decide +kernel, by decide +kernel⟩
abbrev s_law_side : Stmt := topS 13
theorem sc_law_side : FnScope ["p", "q", "r"] ["p", "q", "r"] (defScope s_law_side) := ⟨rfl, rfl, rfl, by decide +kernel, rfl, by decide +kernel, by decide +kernel⟩
abbrev s_law_between : Stmt := topS 14
theorem sc_law_between : FnScope ["p", "q", "r"] ["p", "q", "r"] (defScope s_law_between) := ⟨rfl, rfl, rfl, by decide +kernel, rfl, by decide +kernel, by decide +kernel⟩
abbrev s_law_meet : Stmt := topS 15
theorem sc_law_meet : FnScope ["p", "q", "r", "s", "one"] ["p", "q", "r", "s"] (defScope s_law_meet) := ⟨rfl, rfl, rfl, by decide +kernel, rfl, by decide +kernel, by decide +kernel⟩
abbrev s_law_simple : Stmt := topS 16
theorem sc_law_simple : FnScope ["corners", "many", "k", "p", "q", "j", "r", "s"] ["corners"] (defScope s_law_simple) := ⟨rfl, rfl, rfl, by decide +kernel, rfl, by decide +kernel, by decide +kernel⟩
abbrev s_law : Stmt := topS 17
theorem sc_law : FnScope ["script", "points", "p", "flat", "q", "r", "found", "e", "least", "turns", "k"] ["script"] (defScope s_law) := ⟨rfl, rfl, rfl, by decide +kernel, rfl, by decide +kernel, by decide +kernel⟩
section
variable {P : Program} {w : World} {K : PySem.W.Frag} {mg : Str → Option Value} {base : Heap}
/-! ### errors -/
/-- what the top says of an error class CU below CP -/
structure Errs (K : PySem.W.Frag) (mg : Str → Option Value) (nU : Str) (CU CP : Addr) : Prop where
  gU : mg nU = some (.ref CU)
  gP : mg "PortolanError" = some (.ref CP)
  xU : PySem.W.excIn K CU [.type "ValueError", .type "Exception", .type "BaseException", .type "object"] "ValueError.__new__" = true
  kU : PySem.W.keepIn K (.ref CU) = true
  bU : PySem.W.subIn K (.ref CU) (.type "BaseException") = some true
  tU : PySem.W.typeIn K (.ref CU) = some (.type "type")
  bP : PySem.W.subIn K (.ref CP) (.type "BaseException") = some true
  tP : PySem.W.typeIn K (.ref CP) = some (.type "type")
  iP : PySem.W.isClsIn K CP = true
  sUP : PySem.W.subIn K (.ref CU) (.ref CP) = some true
  ec : ExcC K CU
theorem Errs.caught {nU : Str} {CU CP : Addr} (T : Errs K mg nU CU CP) : PySem.W.exmOne K (.ref CU) (.ref CP) = some true := by
  have e1 : (PySem.W.subIn K (.ref CP) (.type "BaseException") == some true) = true := by rw [T.bP] <;> rfl
  have e2 : ((PySem.W.clsIn K CP).isSome && PySem.W.typeIn K (.ref CP) == some (.type "type")) = true := by
    have h2' : (PySem.W.clsIn K CP).isSome = true := T.iP
    rw [h2', T.tP] <;> rfl
  show (if (PySem.W.subIn K (.ref CP) (.type "BaseException") == some true) = true then (if ((PySem.W.clsIn K CP).isSome && PySem.W.typeIn K (.ref CP) == some (.type "type")) = true then PySem.W.subIn K (.ref CU) (.ref CP) else none) else none) = some true
  rw [if_pos e1, if_pos e2]
  exact T.sUP
/-- a statement whose reading says one thing more -/
theorem pss_if {X : Cx} {φ : Prop} {ss : List Stmt} {t : TS} (h : φ → PSs X ss t) : PSs X ss (fun D σ H => φ ∧ t D σ H) := ⟨fun pins s σ H D I q => (h q.1).run pins s σ H D I q.2⟩
theorem kit_self {CU : Addr} : PySem.W.kitOne K (.ref CU) (.ref CU) = some true := by
  unfold PySem.W.kitOne
  rw [if_pos (beq_self_eq_true _)]
theorem d_isE {B0 H0 : Hp} {δ : List Sl} {CU a : Addr} {i : Nat} (h : δ[i]? = some (Sl.raw (.ref a))) : EvS K B0 H0 (tCB (rIsE K CU a) (tCons (tVar i) (tCons (tC (.ref CU)) tNil))) δ (nB true) := fun B H σ S Q q => by
  obtain ⟨v, h1, h2⟩ := S.val i _ h rfl
  cases h2
  exact ⟨_, h1, .ref CU, .ref CU, true, rfl, fun u hu => hu, kit_self, q _ B H (.refl S.st.bh) (Dt.bl _)⟩
/-- a suite of an except clause: for the class D of what was caught -/
theorem pss_ex {X : Cx} {A : Type} {φ : A → Prop} {ss : List Stmt} {t : A → TS} (h : ∀ x, φ x → PSs X ss (t x)) : PSs X ss (fun D σ H => ∃ x, φ x ∧ t x D σ H) := ⟨fun pins s σ H D I ⟨x, hx, q⟩ => (h x hx).run pins s σ H D I q⟩
theorem sd_ex {B0 H0 : Hp} {W : WX} {δ : List Sl} {E : DE} {A : Type} {φ : A → Prop} {t : A → TS} (x : A) (hx : φ x) (h : SD K B0 H0 W (t x) δ E) : SD K B0 H0 W (fun D σ H => ∃ x, φ x ∧ t x D σ H) δ E := fun D B H σ S L => ⟨x, hx, h D B H σ S L⟩
theorem d_isED {B0 H0 : Hp} {δ : List Sl} {CU a C : Addr} {i : Nat} {b : Bool} (h : δ[i]? = some (Sl.raw (.ref a))) (hk : PySem.W.kitOne K (.ref CU) (.ref C) = some b) : EvS K B0 H0 (tCB (rIsE K CU a) (tCons (tVar i) (tCons (tC (.ref C)) tNil))) δ (nB b) := fun B H σ S Q q => by
  obtain ⟨v, h1, h2⟩ := S.val i _ h rfl
  cases h2
  exact ⟨_, h1, .ref C, .ref C, b, rfl, fun u hu => hu, hk, q _ B H (.refl S.st.bh) (Dt.bl _)⟩
/-! ### the law's cells, by data -/
def cellOf (ns : List Int) (k : Nat) : Int := ns.getD k 0
abbrev spCell (K : PySem.W.Frag) : Sp := SpF K (fun a : List Int × Nat => [.sem (scrP K a.1), nI (a.2 : Int)]) (fun _ => True) fun a => .int (cellOf a.1 a.2)
theorem ok_cell {f : Addr} {fd : FuncData} (F : Fun K "_law_cell" "_law_cell" s_law_cell f fd) (m_len : mg "len" = none) : FnOk P w K mg base CX0 1 f fd ["script", "k"] (spCell K) := by
  refine F.ok sc_law_cell (fun vs H Q E ⟨_, _, _, iv, _⟩ => iv.len) (fun cdv A outer s H vs Q E hr h => ⟨_, (pss_cons (ps_if (pt_cmpR op_lt (pv 1) (pe_callB call_len (by rfl) m_len (by decide +kernel) (pa_cons (pv 0) pa_nil)) (nomark _)) (pss_one (ps_ret (pe_ix ix_list (pv 0) (pv 1) (fun _ _ => rfl)))) pss_nil)
        (pss_one (ps_ret pe_int))), run_body h fun a B _ => ?_⟩)
  obtain ⟨ns, k⟩ := a
  refine sd_env (δ1 := [.sem (scrP K ns), nI (k : Int)]) rfl ?_
  refine q_when (b_test (d_b0 (d_var rfl) (d_lenSc (d_var rfl)))) (fun hb => ?_) (fun hb => ?_)
  · have hk : k < ns.length := by
      have := of_decide_eq_true hb
      omega
    refine sd_ret (d_ixS (j := ns[k]) (d_var rfl) (d_var rfl) (atI_nat (List.getElem?_eq_getElem hk))) ?_
    show PyData.int _ = .int (ns.getD k 0)
    rw [List.getD_eq_getElem?_getD, List.getElem?_eq_getElem hk]
    rfl
  · have hk : ns.length ≤ k := by
      have := of_decide_eq_false hb
      omega
    refine sd_ret d_ci ?_
    show PyData.int 0 = .int (ns.getD k 0)
    rw [List.getD_eq_getElem?_getD, List.getElem?_eq_none hk]
    rfl
theorem mulc {x : Int} {c : Int} (h : x.natAbs < 2 ^ 100) (hc : c.natAbs < 2 ^ 100) : CMulX x c := mulx_ok (a := 100) (b := 100) h hc (by decide)
/-- the same, by a bound in figures -/
theorem mulk {x : Int} {k : Nat} (c : Int) (h : x.natAbs ≤ k) (hk : k < 2 ^ 100 := by decide +kernel) (hc : c.natAbs < 2 ^ 100 := by decide +kernel) : CMulX x c := mulc (Nat.lt_of_le_of_lt h hk) hc
/-! ### ints of a bounded number of bits -/
def Big (i : Int) : Prop := Builtin.Int.intBits i ≤ 1048576
theorem big_lt {i : Int} {a : Nat} (h : i.natAbs < 2 ^ a) (ha : a ≤ 1048576 := by decide) : Big i := Nat.le_trans (PyProof.Rows.intBits_le h) ha
theorem big_k {i : Int} {k : Nat} (h : i.natAbs ≤ k) (hk : k < 2 ^ 100 := by decide +kernel) : Big i := big_lt (Nat.lt_of_le_of_lt h hk)
theorem big_abs {i : Int} (h : Big i) : Big (i.natAbs : Int) := by
  unfold Big Builtin.Int.intBits at *
  have e : (((i.natAbs : Nat) : Int) == 0) = (i == 0) := by
    by_cases z : i = 0
    · subst z
      rfl
    · rw [beq_eq_false_iff_ne.mpr z, beq_eq_false_iff_ne.mpr (by omega)]
  rw [e, Int.natAbs_natCast]
  exact h
theorem mul_big {i : Int} (c : Int) (h : Big i) (hc : c.natAbs < 2 ^ 100 := by decide +kernel) : CMulX i c := by
  have := PyProof.Rows.intBits_le hc
  unfold Big at h
  unfold CMulX
  omega
theorem big_cell {ns : List Int} (h : ∀ z ∈ ns, Builtin.Int.intBits z ≤ 1048576) (k : Nat) : Big (cellOf ns k) := by
  unfold cellOf
  rw [List.getD_eq_getElem?_getD]
  cases e : ns[k]? with
  | none => exact big_k (k := 0) (Nat.le_refl _)
  | some z => exact h z (List.mem_of_getElem? e)
/-! ### the law's corners -/
def Good (most : Nat) (ms : List Nat) : Prop := ms.length ≤ most ∧ ∀ m ∈ ms, m < 4096
theorem good_app {most : Nat} {ms : List Nat} (h : Good most ms) (h2 : ms.length < most) {i : Int} (h0 : 0 ≤ i) (h1 : i < 4096) : Good most (ms ++ [i.toNat]) := by
  refine ⟨by rw [List.length_append]; exact h2, fun m hm => ?_⟩
  rcases List.mem_append.mp hm with z | z
  · exact h.2 m z
  · rw [List.mem_singleton.mp z]
    omega
abbrev encN (n : Nat) : PyData := .int (n : Int)
theorem app_N (ms : List Nat) {i : Int} (h0 : 0 ≤ i) : ms.map encN ++ [PyData.int i] = (ms ++ [i.toNat]).map encN := by
  rw [List.map_append]
  show _ = ms.map encN ++ [PyData.int ((i.toNat : Nat) : Int)]
  rw [Int.toNat_of_nonneg h0]
abbrev spNumbers (K : PySem.W.Frag) : Sp := SpA K (fun a : List Int × Nat × Nat => [.sem (scrP K a.1), nI (a.2.1 : Int), nI (a.2.2 : Int)]) (fun a => a.1.length ≤ 63 ∧ a.2.1 ≤ 100 ∧ a.2.2 ≤ 100) fun a d => ∃ ms : List Nat, d = .list (ms.map encN) ∧ Good a.2.2 ms
theorem ok_numbers {f : Addr} {fd : FuncData} (F : Fun K "_law_numbers" "_law_numbers" s_law_numbers f fd) (m_len : mg "len" = none) (m_abs : mg "abs" = none) (m_int : mg "int" = none) (m_range : mg "range" = none) : FnOk P w K mg base CX0 1 f fd ["script", "first", "most"] (spNumbers K) := by
  refine F.ok sc_law_numbers (fun vs H Q E ⟨_, _, _, iv, _⟩ => iv.len) (fun cdv A outer s H vs Q E hr h => ⟨_, (pss_cons (ps_set (i := 3) sc_law_numbers.nd rfl (.inl rfl) (pe_lst pa_nil))
        (pss_cons (ps_for PassesOwn.never rfl (pi_range2 (by rfl) m_range (pa_cons (pv 1) (pa_cons (pe_callB call_len (by rfl) m_len (by decide +kernel) (pa_cons (pv 0) pa_nil)) pa_nil))) (pg_name (i := 4) sc_law_numbers.nd rfl (.inl rfl)) (pss_cons (ps_set (i := 5) sc_law_numbers.nd rfl (.inl rfl) (pe_callB call_abs (by rfl) m_abs (by decide +kernel) (pa_cons (pe_ix ix_list (pv 0) (pv 4) (fun _ _ => rfl)) pa_nil)))
        (pss_one (ps_if (pt_cmpR op_ge (pv 5) pe_int (nomark _)) (pss_one (ps_for PassesOwn.never rfl (pi_range1 (by rfl) m_range (pa_cons pe_int pa_nil)) (pg_name (i := 6) sc_law_numbers.nd rfl (.inl rfl)) (pss_one (ps_if (PW.pt (pw_and (pt_cmpR op_gt (pv 5) pe_int (nomark _)) (pw_and1 (pt_cmpR op_lt (pe_callB call_len (by rfl) m_len (by decide +kernel) (pa_cons (pv 3) pa_nil)) (pv 2) (nomark _))))) (pss_cons (ps_expr (pe_bm PySem.F.plainAttrs_list PySem.F.slot_list_append PySem.F.type_list_append mt_append (pv 3) (pa_cons (pe_op op_mod (pe_callTy call_int1 (by rfl) m_int (by decide +kernel) (pa_cons (pv 5) pa_nil)) pe_int) pa_nil)))
        (pss_one (ps_set (i := 5) sc_law_numbers.nd rfl (.inl rfl) (pe_op op_fdiv (pv 5) pe_int)))) pss_nil)))) (pss_one (ps_if (pt_cmpR op_lt (pe_callB call_len (by rfl) m_len (by decide +kernel) (pa_cons (pv 3) pa_nil)) (pv 2) (nomark _)) (pss_cons (ps_set (i := 7) sc_law_numbers.nd rfl (.inl rfl) (pe_op op_mod (pe_callTy call_int1 (by rfl) m_int (by decide +kernel) (pa_cons (pe_op op_add (pe_op op_add (pe_op op_mulX (pv 5) pe_int) (pe_op op_mulX (pv 4) pe_int)) pe_int) pa_nil)) pe_int))
        (pss_cons (ps_set (i := 7) sc_law_numbers.nd rfl (.inl rfl) (pe_op op_mod (pe_callTy call_int1 (by rfl) m_int (by decide +kernel) (pa_cons (pe_op op_add (pe_op op_mulX (pv 7) pe_int) (pe_op op_fdiv (pv 7) pe_int)) pa_nil)) pe_int))
        (pss_one (ps_expr (pe_bm PySem.F.plainAttrs_list PySem.F.slot_list_append PySem.F.type_list_append mt_append (pv 3) (pa_cons (pe_op op_mod (pe_callTy call_int1 (by rfl) m_int (by decide +kernel) (pa_cons (pv 7) pa_nil)) pe_int) pa_nil)))))) pss_nil))))))
        (pss_one (ps_ret (pv 3))))), run_body h fun a B ha => ?_⟩)
  obtain ⟨ns, fi, mo⟩ := a
  obtain ⟨hl, hf, hm⟩ : ns.length ≤ 63 ∧ fi ≤ 100 ∧ mo ≤ 100 := ha
  refine sd_env (δ1 := [.sem (scrP K ns), nI (fi : Int), nI (mo : Int), .no, .no, .no, .no, .no]) rfl ?_
  refine q_asgO [_, _, _, .own (([] : List Nat).map encN), _, _, _, _] (n_lst ds_nil) ?_
  refine q_for (w_rng2 (ds_cons (d_var rfl) (ds_cons (d_lenSc (d_var rfl)) ds_nil)) (by omega)) (fun i δ => ∃ ms s4 s5 s6 s7, δ = [.sem (scrP K ns), nI (fi : Int), nI (mo : Int), .own (List.map encN ms), s4, s5, s6, s7] ∧ Good mo ms) ⟨[], _, _, _, _, rfl, Nat.zero_le _, fun m hm => by cases hm⟩ (fun i d δ' hd hp => ?_) (fun δ' hp => ?_)
  · obtain ⟨ms, s4, s5, s6, s7, rfl, hg⟩ := hp
    obtain ⟨hi, rfl⟩ := upto_get hd
    refine ⟨_, _, g_name, ?_⟩
    have hat : fi + i < ns.length := by omega
    refine sd_env (δ1 := [.sem (scrP K ns), nI (fi : Int), nI (mo : Int), .own (List.map encN ms), nI (((fi + i : Nat)) : Int), s5, s6, s7]) (by rw [Int.natCast_add]; rfl) ?_
    refine q_asg [_, _, _, _, _, nI ((ns[fi + i].natAbs : Nat) : Int), _, _] (d_abs (d_ixS (j := ns[fi + i]) (d_var rfl) (d_var rfl) (atI_nat (List.getElem?_eq_getElem hat)))) ?_
    generalize ns[fi + i].natAbs = c
    refine sd_if (b_test (d_b0 (d_var rfl) d_ci)) (fun hb => ?_) (fun hb => ?_)
    · refine sd_for (w_nat (n := 60) (ds_cons d_ci ds_nil) (by decide)) (fun j δ => ∃ ms c s6, δ = [.sem (scrP K ns), nI (fi : Int), nI (mo : Int), .own (List.map encN ms), nI (((fi + i : Nat)) : Int), nI c, s6, s7] ∧ Good mo ms) ⟨ms, _, _, rfl, hg⟩ (fun j d δ' hd hp => ?_) (fun δ' hp => ?_)
      · obtain ⟨ms, c, s6, rfl, hg⟩ := hp
        obtain ⟨hj, rfl⟩ := nats_get hd
        refine ⟨_, _, g_name, ?_⟩
        refine sd_env (δ1 := [.sem (scrP K ns), nI (fi : Int), nI (mo : Int), .own (List.map encN ms), nI (((fi + i : Nat)) : Int), nI c, nI (j : Int), s7]) rfl ?_
        refine sd_when (b_and (b_test (d_b0 (d_var rfl) d_ci)) fun _ => (b_test (d_b0 (d_lenO rfl) (d_var rfl)))) (fun hb => ?_) (fun hb => ?_)
        · have hlt : ms.length < mo := by
            have h2 := of_decide_eq_true (Bool.and_eq_true_iff.mp hb).2
            rw [List.length_map] at h2
            omega
          have h0 : 0 ≤ c % 4096 := by omega
          refine q_app [_, _, _, .own (List.map encN (ms ++ [(c % 4096).toNat])), _, _, _, _] rfl (d_iC (d_int (d_var rfl)) d_ci (by decide)) (by rw [List.length_map]; omega) ?_ (by rw [← app_N ms h0]; rfl)
          refine sd_asg (d_iC (d_var rfl) d_ci ⟨by decide, by decide⟩) ?_
          exact ⟨_, _, _, rfl, good_app hg hlt h0 (by omega)⟩
        · exact ⟨ms, c, _, rfl, hg⟩
      · obtain ⟨ms, c, s6, rfl, hg⟩ := hp
        exact ⟨ms, _, _, _, _, rfl, hg⟩
    · have hc : c < 1000000000000000000 := by
        have := of_decide_eq_false hb
        omega
      refine sd_when (b_test (d_b0 (d_lenO rfl) (d_var rfl))) (fun hb => ?_) (fun hb => ?_)
      · have hlt : ms.length < mo := by
          have h2 := of_decide_eq_true hb
          rw [List.length_map] at h2
          omega
        have hfi : fi + i < 1000 := by omega
        generalize fi + i = at_ at hfi
        refine q_asg [_, _, _, _, _, _, _, nI (((c : Int) * 48271 + (at_ : Int) * 69621 + 12345) % 2147483647)] (d_iC (d_int (d_i0 (d_i0 (d_iC (d_var rfl) d_ci (mulk (k := 1000000000000000000) _ (by omega))) (d_iC (d_var rfl) d_ci (mulk (k := 1000) _ (by omega)))) d_ci)) d_ci (by decide)) ?_
        have hx : 0 ≤ ((c : Int) * 48271 + (at_ : Int) * 69621 + 12345) % 2147483647 ∧ ((c : Int) * 48271 + (at_ : Int) * 69621 + 12345) % 2147483647 < 2147483647 := ⟨by omega, by omega⟩
        generalize ((c : Int) * 48271 + (at_ : Int) * 69621 + 12345) % 2147483647 = m at hx
        refine q_asg [_, _, _, _, _, _, _, nI ((m * 69621 + m / 1009) % 1000003)] (d_iC (d_int (d_i0 (d_iC (d_var rfl) d_ci (mulk (k := 2147483647) _ (by omega))) (d_iC (d_var rfl) d_ci ⟨by decide, by decide⟩))) d_ci (by decide)) ?_
        generalize (m * 69621 + m / 1009) % 1000003 = m2
        have h0 : 0 ≤ m2 % 4096 := by omega
        refine sd_app rfl (d_iC (d_int (d_var rfl)) d_ci (by decide)) (by rw [List.length_map]; omega) ?_
        exact ⟨ms ++ [(m2 % 4096).toNat], nI (at_ : Int), nI (c : Int), s6, nI m2, by rw [← app_N ms h0]; rfl, good_app hg hlt h0 (by omega)⟩
      · exact ⟨ms, _, _, _, _, rfl, hg⟩
  · obtain ⟨ms, s4, s5, s6, s7, rfl, hg⟩ := hp
    refine sd_freeze (n := 3) rfl ?_
    exact sd_ret (d_var rfl) ⟨ms, rfl, hg⟩
/-- small numbers of a corner -/
def Sml (p : Pt) : Prop := p.1.natAbs ≤ 160000000 ∧ p.2.natAbs ≤ 160000000
theorem Sml.pb {p : Pt} (h : Sml p) : Pb 60 p := ⟨by have := h.1; omega, by have := h.2; omega⟩
theorem way_at (m : Nat) : ∃ w : Int, atI [PyData.int 1, .int 1, .int 40000000, .int 5] ((m : Int) % 4) = some (.int w) ∧ 0 ≤ w ∧ w ≤ 40000000 := by
  have h : (m : Int) % 4 = ((m % 4 : Nat) : Int) := by omega
  rw [h]
  have h4 : m % 4 < 4 := Nat.mod_lt _ (by decide)
  generalize m % 4 = q at h4
  have : q = 0 ∨ q = 1 ∨ q = 2 ∨ q = 3 := by omega
  rcases this with rfl | rfl | rfl | rfl
  · exact ⟨1, rfl, by decide, by decide⟩
  · exact ⟨1, rfl, by decide, by decide⟩
  · exact ⟨40000000, rfl, by decide, by decide⟩
  · exact ⟨5, rfl, by decide, by decide⟩
theorem sml_mul (m : Nat) {w : Int} (h0 : 0 ≤ w) (h1 : w ≤ 40000000) : (((m : Int) % 9 - 4) * w).natAbs ≤ 160000000 := by
  rw [Int.natAbs_mul]
  have h3 : ((m : Int) % 9 - 4).natAbs ≤ 4 := by omega
  have h4 : w.natAbs ≤ 40000000 := by omega
  exact Nat.le_trans (Nat.mul_le_mul h3 h4) (by decide)
abbrev spCorners (K : PySem.W.Frag) : Sp := SpN K (fun a : List Int × Nat × Nat => [.sem (scrP K a.1), nI (a.2.1 : Int), nI (a.2.2 : Int)]) (fun a => a.1.length ≤ 63 ∧ a.2.1 ≤ 100 ∧ a.2.2 ≤ 16) fun a ds => ∃ ps : List Pt, ds = ps.map encP ∧ ps.length ≤ a.2.2 ∧ ∀ p ∈ ps, Sml p
theorem ok_corners {f f0 : Addr} {fd fd0 : FuncData} (F : Fun K "_law_corners" "_law_corners" s_law_corners f fd) (F_law_numbers : Fun K "_law_numbers" "_law_numbers" s_law_numbers f0 fd0) (b_law_numbers : Binds K fd0 ["script", "first", "most"] []) (g_law_numbers : mg "_law_numbers" = some (.ref f0)) (m_len : mg "len" = none) (m_abs : mg "abs" = none) (m_int : mg "int" = none) (m_range : mg "range" = none) : FnOk P w K mg base CX0 2 f fd ["script", "first", "most"] (spCorners K) := by
  have G_law_numbers : FnOk P w K mg base CX0 1 f0 fd0 ["script", "first", "most"] (spNumbers K) := ok_numbers F_law_numbers m_len m_abs m_int m_range
  refine F.ok sc_law_corners (fun vs H Q E ⟨_, _, _, iv, _⟩ => iv.len) (fun cdv A outer s H vs Q E hr h => ⟨_, (pss_cons (ps_set (i := 3) sc_law_corners.nd rfl (.inl rfl) (pe_call G_law_numbers (hr.mono (by decide)) (by rfl) g_law_numbers F_law_numbers.kp b_law_numbers .nil pass0 (pa_cons (pv 0) (pa_cons (pv 1) (pa_cons (pe_op op_add (pe_op op_mulX pe_int (pv 2)) pe_int) pa_nil)))))
        (pss_cons (ps_set (i := 4) sc_law_corners.nd rfl (.inl rfl) pe_int)
        (Evl.pss_cut (ps_if (pt_cmpR (op_neD hr.units) (pv 3) (pe_lst pa_nil) (nomark _)) (pss_one (ps_set (i := 4) sc_law_corners.nd rfl (.inl rfl) (pe_ix ix_list (pe_lst (pa_cons pe_int (pa_cons pe_int (pa_cons pe_int (pa_cons pe_int pa_nil))))) (pe_op op_mod (pe_callTy call_int1 (by rfl) m_int (by decide +kernel) (pa_cons (pe_ix ix_list (pv 3) pe_int (fun _ _ => rfl)) pa_nil)) pe_int) (fun _ _ => rfl)))) pss_nil)
        (pss_cons (ps_set (i := 5) sc_law_corners.nd rfl (.inl rfl) (pe_lst pa_nil))
        (pss_cons (ps_for PassesOwn.never rfl (pi_range3 (by rfl) m_range (pa_cons pe_int (pa_cons (pe_op op_sub (pe_callB call_len (by rfl) m_len (by decide +kernel) (pa_cons (pv 3) pa_nil)) pe_int) (pa_cons pe_int pa_nil)))) (pg_name (i := 6) sc_law_corners.nd rfl (.inl rfl)) (pss_one (ps_if (pt_cmpR op_lt (pe_callB call_len (by rfl) m_len (by decide +kernel) (pa_cons (pv 5) pa_nil)) (pv 2) (nomark _)) (pss_one (ps_expr (pe_bm PySem.F.plainAttrs_list PySem.F.slot_list_append PySem.F.type_list_append mt_append (pv 5) (pa_cons (pe_tup (pa_cons (pe_op op_mulX (pe_op op_sub (pe_op op_mod (pe_callTy call_int1 (by rfl) m_int (by decide +kernel) (pa_cons (pe_ix ix_list (pv 3) (pv 6) (fun _ _ => rfl)) pa_nil)) pe_int) pe_int) (pv 4)) (pa_cons (pe_op op_mulX (pe_op op_sub (pe_op op_mod (pe_callTy call_int1 (by rfl) m_int (by decide +kernel) (pa_cons (pe_ix ix_list (pv 3) (pe_op op_add (pv 6) pe_int) (fun _ _ => rfl)) pa_nil)) pe_int) pe_int) (pv 4)) pa_nil))) pa_nil)))) pss_nil)))
        (pss_one (ps_ret (pv 5)))))))), run_bodyN h fun a B ha => ?_⟩)
  obtain ⟨ns, fi, mo⟩ := a
  obtain ⟨hl, hf, hm⟩ : ns.length ≤ 63 ∧ fi ≤ 100 ∧ mo ≤ 16 := ha
  refine sd_env (δ1 := [.sem (scrP K ns), nI (fi : Int), nI (mo : Int), .no, .no, .no, .no]) rfl ?_
  refine q_asgR (r_call (ns, fi, 2 * mo + 4) (a_cons (d_var rfl) (a_cons (d_var rfl) (a_cons (d_isI (j := ((2 * mo + 4 : Nat) : Int)) (d_i0 (d_iC d_ci (d_var rfl) (mulx_ok (a := 10) (b := 10) (by decide) (by omega) (by decide))) d_ci) (by omega)) a_nil))) ⟨hl, hf, (show 2 * mo + 4 ≤ 100 by omega)⟩) fun d ⟨ms, e, hg⟩ => ?_
  subst e
  obtain ⟨hg1, hg2⟩ : ms.length ≤ 2 * mo + 4 ∧ ∀ m ∈ ms, m < 4096 := hg
  refine sd_env (δ1 := [_, _, _, .dat (.list (List.map encN ms)), _, _, _]) rfl ?_
  refine q_asg [_, _, _, _, nI 1, _, _] d_ci ?_
  have e0 : List.map encN ms = (ms.map fun n : Nat => (n : Int)).map PyData.int := by
    rw [List.map_map]
    rfl
  have htest : EvB K B H (tTest (tOp (rNeD K) (tVar 3) (tLst tNil))) [.sem (scrP K ns), nI (fi : Int), nI (mo : Int), .dat (.list (List.map encN ms)), nI 1, .no, .no] (!decide ((ms.map fun n : Nat => (n : Int)) = [])) := by
    have h3 : EvS K B H (tVar 3) [.sem (scrP K ns), nI (fi : Int), nI (mo : Int), .dat (.list (List.map encN ms)), nI 1, .no, .no] (.dat (.list ((ms.map fun n : Nat => (n : Int)).map PyData.int))) := by
      rw [← e0]
      exact d_var rfl
    exact b_test (d_neEL (m := []) enc_int h3 (d_new (n_lst ds_nil)))
  refine sd_cut (M := fun δ => ∃ w : Int, (0 ≤ w ∧ w ≤ 40000000) ∧ δ = [.sem (scrP K ns), nI (fi : Int), nI (mo : Int), .dat (.list (List.map encN ms)), nI w, .no, .no]) (sd_when htest (fun hb => ?_) fun hb => ?_) fun δ' ⟨w, hw, e⟩ => ?_
  · cases ms with
    | nil => cases hb
    | cons m r =>
      obtain ⟨w, h1, h2⟩ := way_at m
      exact sd_asg (d_ixL (d := .int w) (d_new (n_lst (ds_cons d_ci (ds_cons d_ci (ds_cons d_ci (ds_cons d_ci ds_nil)))))) (d_iC (d_int (d_ixL (d := .int (m : Int)) (d_var rfl) d_ci (show atI _ ((0 : Nat) : Int) = _ from atI_nat rfl))) d_ci (by decide)) h1) ⟨w, h2, rfl⟩
  · exact ⟨1, ⟨by decide, by decide⟩, rfl⟩
  subst e
  refine q_asgO [_, _, _, _, _, .own (([] : List Pt).map encP), _] (n_lst ds_nil) ?_
  refine q_for (w_rng3 (ds_cons d_ci (ds_cons (d_i0 (d_lenL (d_var rfl)) d_ci) (ds_cons d_ci ds_nil))) (by rw [List.length_map]; exact rg_odd ms.length (by omega))) (fun i δ => ∃ (ps : List Pt) (s6 : Sl), δ = [.sem (scrP K ns), nI (fi : Int), nI (mo : Int), .dat (.list (List.map encN ms)), nI w, .own (List.map encP ps), s6] ∧ ps.length ≤ mo ∧ ∀ p ∈ ps, Sml p) ⟨[], _, rfl, Nat.zero_le _, fun p hp => by cases hp⟩ (fun i d δ' hd hp => ?_) (fun δ' hp => ?_)
  · obtain ⟨ps, s6, rfl, hp1, hp2⟩ := hp
    obtain ⟨hi, rfl⟩ := stepD_get hd
    refine ⟨_, _, g_name, ?_⟩
    have h1 : 1 + i * 2 < ms.length := by omega
    have h2 : 2 + i * 2 < ms.length := by omega
    refine sd_env (δ1 := [.sem (scrP K ns), nI (fi : Int), nI (mo : Int), .dat (.list (List.map encN ms)), nI w, .own (List.map encP ps), nI ((1 + i * 2 : Nat) : Int)]) (by rw [Int.natCast_add, Int.natCast_mul]; rfl) ?_
    refine sd_when (b_test (d_b0 (d_lenO rfl) (d_var rfl))) (fun hb => ?_) (fun hb => ?_)
    · have hlt : ps.length < mo := by
        have h2 := of_decide_eq_true hb
        rw [List.length_map] at h2
        omega
      have a1 : atI (List.map encN ms) ((1 + i * 2 : Nat) : Int) = some (.int (ms[1 + i * 2] : Int)) := atI_nat (by rw [List.getElem?_map, List.getElem?_eq_getElem h1]; rfl)
      have a2 : atI (List.map encN ms) ((2 + i * 2 : Nat) : Int) = some (.int (ms[2 + i * 2] : Int)) := atI_nat (by rw [List.getElem?_map, List.getElem?_eq_getElem h2]; rfl)
      generalize ms[1 + i * 2] = x at a1
      generalize ms[2 + i * 2] = y at a2
      have wb : w.natAbs < 2 ^ 30 := by omega
      refine sd_app rfl (d := encP (((x : Int) % 9 - 4) * w, ((y : Int) % 9 - 4) * w)) (d_tup (ds_cons (d_iC (d_i0 (d_iC (d_int (d_ixL (d_var rfl) (d_var rfl) a1)) d_ci (by decide)) d_ci) (d_var rfl) (mulx_ok (a := 10) (b := 30) (by omega) wb (by decide))) (ds_cons (d_iC (d_i0 (d_iC (d_int (d_ixL (d_var rfl) (d_isI (j := ((2 + i * 2 : Nat) : Int)) (d_i0 (d_var rfl) d_ci) (by omega)) a2)) d_ci (by decide)) d_ci) (d_var rfl) (mulx_ok (a := 10) (b := 30) (by omega) wb (by decide))) ds_nil))) (by rw [List.length_map]; omega) ?_
      refine ⟨ps ++ [(((x : Int) % 9 - 4) * w, ((y : Int) % 9 - 4) * w)], nI ((1 + i * 2 : Nat) : Int), ?_, by rw [List.length_append]; exact hlt, fun p hp => ?_⟩
      · rw [List.map_append]
        rfl
      · rcases List.mem_append.mp hp with z | z
        · exact hp2 p z
        · rw [List.mem_singleton.mp z]
          exact ⟨sml_mul x hw.1 hw.2, sml_mul y hw.1 hw.2⟩
    · exact ⟨ps, _, rfl, hp1, hp2⟩
  · obtain ⟨ps, s6, rfl, hp1, hp2⟩ := hp
    exact sd_retO rfl ⟨ps, rfl, hp1, hp2⟩
/-! ### the program: chains -/
open Hu (popw chain)
abbrev enc3 (a : Pt × Pt × Pt) : List Sl := [.dat (encP a.1), .dat (encP a.2.1), .dat (encP a.2.2)]
def Pb3 (a : Pt × Pt × Pt) : Prop := Pb 60 a.1 ∧ Pb 60 a.2.1 ∧ Pb 60 a.2.2
theorem dif_ok {x y z w : Int} (h1 : x.natAbs < 2 ^ 60) (h2 : y.natAbs < 2 ^ 60) (h3 : z.natAbs < 2 ^ 60) (h4 : w.natAbs < 2 ^ 60) : CMulX (x - y) (z - w) := mulx_ok (a := 61) (b := 61) (by omega) (by omega) (by decide)
abbrev spSide (K : PySem.W.Frag) : Sp := SpF K enc3 Pb3 fun a => .int (Wh.side a.1 a.2.1 a.2.2)
theorem ok_side {f : Addr} {fd : FuncData} (F : Fun K "side_of" "side_of" s_side_of f fd) : FnOk P w K mg base CX0 1 f fd ["a", "b", "c"] (spSide K) := by
  refine F.ok sc_side_of (fun vs H Q E ⟨_, _, _, iv, _⟩ => iv.len) (fun cdv A outer s H vs Q E hr h => ⟨_, (pss_one (ps_ret (pe_op op_sub (pe_op op_mulX (pe_op op_sub (pe_ix ix_tup (pv 1) pe_int (fun _ _ => rfl)) (pe_ix ix_tup (pv 0) pe_int (fun _ _ => rfl))) (pe_op op_sub (pe_ix ix_tup (pv 2) pe_int (fun _ _ => rfl)) (pe_ix ix_tup (pv 0) pe_int (fun _ _ => rfl)))) (pe_op op_mulX (pe_op op_sub (pe_ix ix_tup (pv 1) pe_int (fun _ _ => rfl)) (pe_ix ix_tup (pv 0) pe_int (fun _ _ => rfl))) (pe_op op_sub (pe_ix ix_tup (pv 2) pe_int (fun _ _ => rfl)) (pe_ix ix_tup (pv 0) pe_int (fun _ _ => rfl))))))), run_body h fun a B hp => ?_⟩)
  obtain ⟨p, q, r⟩ := a
  obtain ⟨⟨p1, p2⟩, ⟨q1, q2⟩, ⟨r1, r2⟩⟩ : Pb 60 p ∧ Pb 60 q ∧ Pb 60 r := hp
  refine sd_env (δ1 := [.dat (encP p), .dat (encP q), .dat (encP r)]) rfl ?_
  exact sd_ret (d_i0 (d_iC (d_i0 (d_ixT (d := .int q.2) (d_var rfl) d_ci rfl) (d_ixT (d := .int p.2) (d_var rfl) d_ci rfl)) (d_i0 (d_ixT (d := .int r.1) (d_var rfl) d_ci rfl) (d_ixT (d := .int p.1) (d_var rfl) d_ci rfl)) (dif_ok q2 p2 r1 p1)) (d_iC (d_i0 (d_ixT (d := .int q.1) (d_var rfl) d_ci rfl) (d_ixT (d := .int p.1) (d_var rfl) d_ci rfl)) (d_i0 (d_ixT (d := .int r.2) (d_var rfl) d_ci rfl) (d_ixT (d := .int p.2) (d_var rfl) d_ci rfl)) (dif_ok q1 p1 r2 p2))) rfl
theorem neg1 {A : Type} (v : A) (r : List A) : atI (v :: r).reverse (-1) = some v := by
  unfold atI ixN
  rw [if_neg (by decide), if_pos (by rw [List.length_reverse, List.length_cons]; omega)]
  show (v :: r).reverse[_]? = some v
  rw [List.reverse_cons, show (-1 + ((r.reverse ++ [v]).length : Int)).toNat = r.reverse.length by rw [List.length_append]; show (-1 + ((r.reverse.length + 1 : Nat) : Int)).toNat = _; omega, List.getElem?_append_right (Nat.le_refl _), Nat.sub_self]
  rfl
theorem neg2 {A : Type} (v u : A) (r : List A) : atI (v :: u :: r).reverse (-2) = some u := by
  unfold atI ixN
  rw [if_neg (by decide), if_pos (by rw [List.length_reverse, List.length_cons, List.length_cons]; omega)]
  show (v :: u :: r).reverse[_]? = some u
  have e : (v :: u :: r).reverse = r.reverse ++ [u, v] := by simp
  rw [e, show (-2 + ((r.reverse ++ [u, v]).length : Int)).toNat = r.reverse.length by rw [List.length_append]; show (-2 + ((r.reverse.length + 2 : Nat) : Int)).toNat = _; omega, List.getElem?_append_right (Nat.le_refl _), Nat.sub_self]
  rfl
theorem popw_sub (t : Pt) : ∀ S : List Pt, ∀ p ∈ popw S t, p ∈ S
  | [], p, h => h
  | [a], p, h => h
  | v :: u :: r, p, h => by
    have ih := popw_sub t (u :: r)
    have e : popw (v :: u :: r) t = if Wh.side u v t ≤ 0 then popw (u :: r) t else v :: u :: r := rfl
    rw [e] at h
    split at h
    · exact List.mem_cons_of_mem _ (ih p h)
    · exact h
abbrev spChain (K : PySem.W.Frag) : Sp := SpN K (fun ps : List Pt => [.dat (.list (ps.map encP))]) (fun ps => ps.length ≤ 1000 ∧ ∀ p ∈ ps, Pb 60 p) fun ps ds => ds = ((chain [] ps).reverse.dropLast).map encP
theorem popw_pop {v u t : Pt} {r : List Pt} (h : Wh.side u v t ≤ 0) : popw (v :: u :: r) t = popw (u :: r) t := by
  show (if Wh.side u v t ≤ 0 then popw (u :: r) t else v :: u :: r) = _
  rw [if_pos h]
theorem popw_stay {v u t : Pt} {r : List Pt} (h : ¬ Wh.side u v t ≤ 0) : popw (v :: u :: r) t = v :: u :: r := by
  show (if Wh.side u v t ≤ 0 then popw (u :: r) t else v :: u :: r) = _
  rw [if_neg h]
theorem chain_app (t : Pt) : ∀ (S r : List Pt), chain S (r ++ [t]) = t :: popw (chain S r) t
  | S, [] => rfl
  | S, x :: r => chain_app t (x :: popw S x) r
theorem ok_chain {f f0 : Addr} {fd fd0 : FuncData} (F : Fun K "chain_of" "chain_of" s_chain_of f fd) (F_side_of : Fun K "side_of" "side_of" s_side_of f0 fd0) (b_side_of : Binds K fd0 ["a", "b", "c"] []) (g_side_of : mg "side_of" = some (.ref f0)) (m_len : mg "len" = none) : FnOk P w K mg base CX0 2 f fd ["points"] (spChain K) := by
  have G_side_of : FnOk P w K mg base CX0 1 f0 fd0 ["a", "b", "c"] (spSide K) := ok_side F_side_of
  refine F.ok sc_chain_of (fun vs H Q E ⟨_, _, _, iv, _⟩ => iv.len) (fun cdv A outer s H vs Q E hr h => ⟨_, (pss_cons (ps_set (i := 1) sc_chain_of.nd rfl (.inl rfl) (pe_lst pa_nil))
        (pss_cons (ps_for PassesOwn.never rfl (pi_list (pv 0)) (pg_name (i := 2) sc_chain_of.nd rfl (.inl rfl)) (pss_cons (ps_while PassesOwn.never (PW.pt (pw_and (pt_cmpR op_gt (pe_callB call_len (by rfl) m_len (by decide +kernel) (pa_cons (pv 1) pa_nil)) pe_int (nomark _)) (pw_and1 (pt_cmpR op_le (pe_call G_side_of (hr.mono (by decide)) (by rfl) g_side_of F_side_of.kp b_side_of .nil pass0 (pa_cons (pe_ix ix_list (pv 1) (pe_un un_neg pe_int) (fun _ _ => rfl)) (pa_cons (pe_ix ix_list (pv 1) (pe_un un_neg pe_int) (fun _ _ => rfl)) (pa_cons (pv 2) pa_nil)))) pe_int (nomark _))))) (pss_one (ps_expr (pe_bm0 PySem.F.plainAttrs_list PySem.F.slot_list_pop PySem.F.type_list_pop mt_pop (pv 1)))))
        (pss_one (ps_expr (pe_bm PySem.F.plainAttrs_list PySem.F.slot_list_append PySem.F.type_list_append mt_append (pv 1) (pa_cons (pv 2) pa_nil))))))
        (pss_one (ps_ret (pe_slice sl_list (pv 1) po_none (po_some (pe_un un_neg pe_int))))))), run_bodyN h fun ps B hp => ?_⟩)
  obtain ⟨hl, hb⟩ : ps.length ≤ 1000 ∧ ∀ p ∈ ps, Pb 60 p := hp
  refine sd_env (δ1 := [.dat (.list (ps.map encP)), .no, .no]) rfl ?_
  refine q_asgO [_, .own (([] : List Pt).map encP), _] (n_lst ds_nil) ?_
  refine q_for (w_list (d_var rfl)) (fun i δ => ∃ s2, δ = [.dat (.list (ps.map encP)), .own ((chain [] (ps.take i)).reverse.map encP), s2] ∧ (chain [] (ps.take i)).length ≤ i ∧ ∀ p ∈ chain [] (ps.take i), Pb 60 p) ⟨_, rfl, Nat.le_refl _, fun p hp => nomatch hp⟩ (fun i d δ' hd hp => ?_) (fun δ' hp => ?_)
  · obtain ⟨s2, rfl, hlen, hmem⟩ := hp
    have hi : i < ps.length := by
      have := (List.getElem?_eq_some_iff.mp hd).1
      rwa [List.length_map] at this
    rw [List.getElem?_map, List.getElem?_eq_getElem hi] at hd
    cases Option.some.inj hd
    have htm : Pb 60 ps[i] := hb _ (List.getElem_mem hi)
    have tk : ps.take (i + 1) = ps.take i ++ [ps[i]] := by rw [List.take_succ, List.getElem?_eq_getElem hi]; rfl
    rw [tk, chain_app]
    generalize ps[i] = t at htm
    generalize chain [] (ps.take i) = S0 at hlen hmem
    refine ⟨_, _, g_name, ?_⟩
    refine sd_env (δ1 := [_, _, .dat (encP t)]) rfl ?_
    refine q_while (fun m δ => ∃ S : List Pt, δ = [.dat (.list (ps.map encP)), .own (S.reverse.map encP), .dat (encP t)] ∧ popw S t = popw S0 t ∧ S.length = m ∧ S.length ≤ i ∧ ∀ p ∈ S, Pb 60 p) S0.length ⟨S0, rfl, rfl, rfl, hlen, hmem⟩ (fun m δ' hp => ?_)
    obtain ⟨S, rfl, hpo, hm, hSl, hSm⟩ := hp
    have app : ∀ {E : DE}, (∀ δ, (∃ s2, δ = [.dat (.list (ps.map encP)), .own ((t :: popw S0 t).reverse.map encP), s2] ∧ (t :: popw S0 t).length ≤ i + 1 ∧ ∀ p ∈ t :: popw S0 t, Pb 60 p) → E.nx δ) → popw S t = S → SD K B H (fun _ _ _ _ => False) (tDrop (tBM K "list" rAppend (tVar 1) (tCons (tVar 2) tNil))) [.dat (.list (ps.map encP)), .own (S.reverse.map encP), .dat (encP t)] E := fun {E} hE he => by
      refine sd_app rfl (d_var rfl) (by rw [List.length_map, List.length_reverse]; omega) (hE _ ⟨.dat (encP t), ?_, ?_, fun p hp => ?_⟩)
      · rw [← hpo, he, List.reverse_cons, List.map_append]
        rfl
      · rw [← hpo, he]
        exact Nat.succ_le_succ hSl
      · rw [← hpo, he] at hp
        rcases List.mem_cons.mp hp with z | z
        · rw [z]; exact htm
        · exact hSm p z
    cases S with
    | nil => exact ⟨false, b_is (b_and (c := false) (b_test (d_b0 (d_isI (j := 0) (d_lenO rfl) rfl) d_ci)) fun z => absurd (of_decide_eq_true z) (by decide)) (Bool.and_false _), fun z => (nomatch z), fun _ => app (fun δ h => h) rfl⟩
    | cons v S =>
    cases S with
    | nil => exact ⟨false, b_is (b_and (c := false) (b_test (d_b0 (d_isI (j := 1) (d_lenO rfl) rfl) d_ci)) fun z => absurd (of_decide_eq_true z) (by decide)) (Bool.and_false _), fun z => (nomatch z), fun _ => app (fun δ h => h) rfl⟩
    | cons u r =>
      have hv := hSm v (by simp)
      have hu := hSm u (by simp)
      refine ⟨decide (Wh.side u v t ≤ 0), b_is (b_and (b_test (d_b0 (d_isI (j := ((r.length + 2 : Nat) : Int)) (d_lenO rfl) (by simp)) d_ci)) fun _ => (b_test (d_b0 (d_callF (u, v, t) (a_cons (d_ixOM (f := encP) (x := u) rfl (d_neg d_ci) (neg2 v u r)) (a_cons (d_ixOM (f := encP) (x := v) rfl (d_neg d_ci) (neg1 v (u :: r))) (a_cons (d_var rfl) a_nil))) ⟨hu, hv, htm⟩) d_ci))) (by rw [decide_eq_true (show ((r.length + 2 : Nat) : Int) > 1 by omega), Bool.true_and]), fun hb => ?_, fun hb => ?_⟩
      · refine sd_pop (ds := (u :: r).reverse.map encP) (e := encP v) (by rw [List.reverse_cons, List.map_append]; rfl) ?_
        exact ⟨(u :: r).length, by rw [← hm]; exact Nat.lt_succ_self _, u :: r, rfl, by rw [← hpo, popw_pop (of_decide_eq_true hb)], rfl, Nat.le_of_succ_le hSl, fun p hp => hSm p (List.mem_cons_of_mem _ hp)⟩
      · exact app (fun δ h => h) (popw_stay (of_decide_eq_false hb))
  · obtain ⟨s2, rfl, hlen, hmem⟩ := hp
    rw [List.length_map, List.take_length]
    refine sd_freeze (n := 1) rfl ?_
    refine sd_retE (n_slF (f := encP) (xs := (chain [] ps).reverse) (ys := (chain [] ps).reverse.dropLast) (d_var rfl) o_none (o_some (d_neg d_ci)) ?_) rfl
    show (List.drop 0 (chain [] ps).reverse).take ((if (-1 : Int) < 0 then ((-1 : Int) + ((chain [] ps).reverse.length : Int)).toNat else min (-1 : Int).toNat (chain [] ps).reverse.length) - 0) = _
    rw [List.drop_zero, if_pos (by decide), List.dropLast_eq_take]
    refine List.take_eq_take_iff.mpr ?_
    omega
/-! ### hull_of -/
open Hu (hullL)
open Hu (Flat)
abbrev sw (p : Pt) : Pt := (p.2, p.1)
theorem sw_sw (p : Pt) : sw (sw p) = p := rfl
theorem sw_mem {ps : List Pt} {p : Pt} : p ∈ ps.map sw ↔ sw p ∈ ps := by
  rw [List.mem_map]
  constructor
  · rintro ⟨q, hq, rfl⟩
    exact hq
  · intro h
    exact ⟨sw p, h, rfl⟩
theorem lex_lt {p q : Pt} : SrtO.lexB p q = true ↔ Hu.lt (sw p) (sw q) := SrtO.lexB_iff
theorem lex_nlt {p q : Pt} : SrtO.lexB p q = false ↔ ¬ Hu.lt (sw p) (sw q) := SrtO.lexB_no
theorem chain_len : ∀ (S r : List Pt), (chain S r).length ≤ S.length + r.length
  | S, [] => Nat.le_refl _
  | S, t :: r => by
    have ih := chain_len (t :: popw S t) r
    have h2 : ∀ S : List Pt, (popw S t).length ≤ S.length := fun S => by
      induction S with
      | nil => exact Nat.le_refl _
      | cons v S ih =>
        cases S with
        | nil => exact Nat.le_refl _
        | cons u r =>
          by_cases h : Wh.side u v t ≤ 0
          · rw [popw_pop h]
            exact Nat.le_succ_of_le ih
          · rw [popw_stay h]
            exact Nat.le_refl _
    have h3 := h2 S
    show (chain (t :: popw S t) r).length ≤ _
    rw [List.length_cons] at ih ⊢
    omega
theorem nodup_le : ∀ {l m : List Pt}, l.Nodup → (∀ x ∈ l, x ∈ m) → l.length ≤ m.length
  | [], m, _, _ => Nat.zero_le _
  | a :: l, m, hn, hs => by
    have h1 := List.nodup_cons.mp hn
    have ih := nodup_le (m := m.erase a) h1.2 fun x hx => (List.mem_erase_of_ne fun e : x = a => h1.1 (e ▸ hx)).mpr (hs x (List.mem_cons_of_mem _ hx))
    rw [List.length_erase_of_mem (hs a (List.mem_cons_self ..))] at ih
    have h2 : 0 < m.length := List.length_pos_of_mem (hs a (List.mem_cons_self ..))
    rw [List.length_cons]
    omega
theorem flat_iff {D ps : List Pt} (h : ∀ p, p ∈ D ↔ p ∈ ps) : Flat D ↔ Flat ps := ⟨fun f p hp q hq r hr => f p ((h p).mpr hp) q ((h q).mpr hq) r ((h r).mpr hr), fun f p hp q hq r hr => f p ((h p).mp hp) q ((h q).mp hq) r ((h r).mp hr)⟩
open Classical in
noncomputable def badH (CI : Addr) (ps : List Pt) : Option Addr := if Flat ps then some CI else none
theorem badH_yes {CI : Addr} {ps : List Pt} (h : Flat ps) : badH CI ps = some CI := by
  unfold badH
  exact if_pos h
theorem badH_no {CI : Addr} {ps : List Pt} (h : ¬ Flat ps) : badH CI ps = none := by
  unfold badH
  exact if_neg h
abbrev spHull (K : PySem.W.Frag) (CI : Addr) : Sp := SpX K (fun ps : List Pt => [.dat (.list (ps.map encP))]) (fun ps => ps.length < 64 ∧ ∀ p ∈ ps, Pb 60 p) (badH CI) fun ps d => ∃ D : List Pt, D.Pairwise Hu.lt ∧ (∀ p, p ∈ D ↔ p ∈ ps) ∧ d = .list ((hullL D).map encP)
theorem ok_hull {f f0 f1 CI CP : Addr} {fd fd0 fd1 : FuncData} (F : Fun K "hull_of" "hull_of" s_hull_of f fd) (T : Errs K mg "NoHalves" CI CP) (F_side_of : Fun K "side_of" "side_of" s_side_of f0 fd0) (b_side_of : Binds K fd0 ["a", "b", "c"] []) (g_side_of : mg "side_of" = some (.ref f0)) (F_chain_of : Fun K "chain_of" "chain_of" s_chain_of f1 fd1) (b_chain_of : Binds K fd1 ["points"] []) (g_chain_of : mg "chain_of" = some (.ref f1)) (m_len : mg "len" = none) (m_set : mg "set" = none) (m_sorted : mg "sorted" = none) : FnOk P w K mg base (L2.CX P w) 3 f fd ["points"] (spHull K CI) := by
  obtain ⟨g_NoHalves, _, x_NoHalves, k_NoHalves, b_NoHalves, t_NoHalves, _, _, _, _, _⟩ := id T
  have G_chain_of : FnOk P w K mg base CX0 2 f1 fd1 ["points"] (spChain K) := ok_chain F_chain_of F_side_of b_side_of g_side_of m_len
  refine F.okX sc_hull_of (fun vs H Q E ⟨_, _, _, iv, _⟩ => iv.len) (fun cdv A outer s H vs Q E hr h => ⟨_, (pss_cons (ps_set (i := 1) sc_hull_of.nd rfl (.inl rfl) (pe_callB (cr_sortedSP rfl) (by rfl) m_sorted (by decide +kernel) (pa_cons (pe_callTy (cr_setOfT rfl (hu64 hr)) (by rfl) m_set (by decide +kernel) (pa_cons (pe_lc (own := [("point", 2)]) (g := gName 2) rfl sc_hull_of.nd (pi_list (pv 0)) (blkOk_by (own := [("point", 2)]) (N := ["points", "places", "point", "ordered", "lon", "lat", "corners"]) (sc := defScope s_hull_of) (by decide +kernel)) (fun _ _ _ _ _ => (pg_name (i := 2) sc_hull_of.nd rfl (.inl rfl))) (fun _ _ _ _ _ => pts_nil) (fun _ _ _ _ _ => (pe_tup (pa_cons (pe_ix (r := rIxT K) ix_tup (pv 2) pe_int (fun _ _ => rfl)) (pa_cons (pe_ix (r := rIxT K) ix_tup (pv 2) pe_int (fun _ _ => rfl)) pa_nil))))) pa_nil)) pa_nil)))
        (pss_cons (ps_setLc (i := 3) (own := [("lon", 4), ("lat", 5)]) (g := gTup K 2 (gCons (gName 4) (gCons (gName 5) (gNil)))) rfl sc_hull_of.nd rfl rfl (sw_true rfl rfl rfl (by decide +kernel)) (pi_list (pv 1)) (blkOk_by (own := [("lon", 4), ("lat", 5)]) (N := ["points", "places", "point", "ordered", "lon", "lat", "corners"]) (sc := defScope s_hull_of) (by decide +kernel)) (fun _ _ _ _ _ => (pg_tup rfl (pgs_cons (pg_name (i := 4) sc_hull_of.nd rfl (.inl rfl)) (pgs_cons (pg_name (i := 5) sc_hull_of.nd rfl (.inl rfl)) pgs_nil)))) (fun _ _ _ _ _ => pts_nil) (fun _ _ _ _ _ => (pe_tup (pa_cons (pv 5) (pa_cons (pv 4) pa_nil)))))
        (pss_cons (ps_set (i := 6) sc_hull_of.nd rfl (.inl rfl) (pe_op op_cat (pe_call G_chain_of (hr.mono (by decide)) (by rfl) g_chain_of F_chain_of.kp b_chain_of .nil pass0 (pa_cons (pv 3) pa_nil)) (pe_call G_chain_of (hr.mono (by decide)) (by rfl) g_chain_of F_chain_of.kp b_chain_of .nil pass0 (pa_cons (pe_revL (pv 3)) pa_nil))))
        (pss_cons (ps_if (pt_cmpR op_lt (pe_callB call_len (by rfl) m_len (by decide +kernel) (pa_cons (pv 6) pa_nil)) pe_int (nomark _)) (pss_one (ps_raise rfl (takes_of rfl rfl rfl rfl) (pmk_own PySem.F.excBase_ValueError x_NoHalves g_NoHalves k_NoHalves (raises_own b_NoHalves t_NoHalves) (by rfl)))) pss_nil)
        (pss_one (ps_ret (pv 6))))))), run_bodyX h fun ps B hl => ?_⟩)
  obtain ⟨hl, hb⟩ : ps.length < 64 ∧ ∀ p ∈ ps, Pb 60 p := hl
  refine sd_env (δ1 := [.dat (.list (ps.map encP)), .no, .no, .no, .no, .no, .no]) rfl ?_
  refine q_asgN (nr_sortedSet (ps := ps.map sw) (d_is (d_new (n_lc1 (ix := [2]) ps encP (fun p => [.dat (.list (ps.map encP)), .no, .dat (encP p), .no, .no, .no, .no]) (fun p => encP (sw p)) (w_list (d_var rfl)) (by decide) (by omega) (fun p _ => g_name) fun (p : Pt) _ => d_tup (ds_cons (d_ixT (d := .int p.2) (d_var rfl) d_ci rfl) (ds_cons (d_ixT (d := .int p.1) (d_var rfl) d_ci rfl) ds_nil)))) (by rw [List.map_map]; rfl)) (by rw [List.length_map]; exact hl)) fun ds ⟨qs, e, hm, ho⟩ => ?_
  subst e
  refine sd_freeze (n := 1) rfl ?_
  refine sd_env (δ1 := [.dat (.list (ps.map encP)), .dat (.list (qs.map encP)), .no, .no, .no, .no, .no]) rfl ?_
  have hD : (qs.map sw).Pairwise Hu.lt := List.pairwise_map.mpr (ho.imp fun h => lex_lt.mp h)
  have hmD : ∀ p, p ∈ qs.map sw ↔ p ∈ ps := fun p => by
    rw [sw_mem, hm, sw_mem]
  have hnd : qs.length ≤ 64 := by
    have h1 : qs.Nodup := ho.imp fun {a b} h e => by
      subst e
      exact Hu.lt_irr (lex_lt.mp h)
    have h3 : qs.length ≤ (ps.map sw).length := nodup_le h1 fun x hx => (hm x).mp hx
    rw [List.length_map] at h3
    omega
  refine q_asg [.dat (.list (ps.map encP)), .dat (.list (qs.map encP)), .no, .dat (.list ((qs.map sw).map encP)), .no, .no, .no] (d_is (s' := .dat (.list ((qs.map sw).map encP))) (d_new (n_lc1 (ix := [4, 5]) qs encP (fun q => [.dat (.list (ps.map encP)), .dat (.list (qs.map encP)), .no, .no, .dat (.int q.1), .dat (.int q.2), .no]) (fun q => encP (sw q)) (w_list (d_var rfl)) (by decide) (by omega) (fun q _ => g_tup (g_cons g_name (g_cons g_name g_nil))) fun (q : Pt) _ => d_tup (ds_cons (d_var rfl) (ds_cons (d_var rfl) ds_nil)))) (by rw [List.map_map]; rfl)) ?_
  have hDl : (qs.map sw).length ≤ 64 := by rw [List.length_map]; exact hnd
  have hDb : ∀ p ∈ qs.map sw, Pb 60 p := fun p hp => hb p ((hmD p).mp hp)
  generalize qs.map sw = D at hD hmD hDl hDb
  have hc1 := chain_len [] D
  have hc2 := chain_len [] D.reverse
  rw [List.length_reverse] at hc2
  have hrev : EvS K B H (tRevL K (tVar 3)) [.dat (.list (ps.map encP)), .dat (.list (qs.map encP)), .no, .dat (.list (D.map encP)), .no, .no, .no] (.dat (.list (D.reverse.map encP))) := d_is (d_new (n_rev (d_var rfl))) (by rw [List.map_reverse])
  refine q_asg [.dat (.list (ps.map encP)), .dat (.list (qs.map encP)), .no, .dat (.list (D.map encP)), .no, .no, .dat (.list ((hullL D).map encP))] (d_new (n_catF (d_new (n_call D (a_cons (d_var rfl) a_nil) ⟨by omega, hDb⟩)) (d_new (n_call D.reverse (a_cons hrev a_nil) ⟨by rw [List.length_reverse]; omega, fun p hp => hDb p (List.mem_reverse.mp hp)⟩)) (by rw [List.length_dropLast, List.length_dropLast, List.length_reverse, List.length_reverse]; simp only [List.length_nil] at hc1 hc2; omega))) ?_
  have hf := Hu.hull_main hD
  refine q_when (b_test (d_b0 (d_lenL (d_var rfl)) d_ci)) (fun hb => ?_) (fun hb => ?_)
  · refine sd_raise (C := CI) (badH_yes ((flat_iff hmD).mp (hf.few.mp ?_)))
    have := of_decide_eq_true hb
    rw [List.length_map] at this
    omega
  · refine sd_ret (d_var rfl) ⟨badH_no fun z => ?_, D, hD, hmD, rfl⟩
    have h1 := hf.few.mpr ((flat_iff hmD).mpr z)
    have := of_decide_eq_false hb
    rw [List.length_map] at this
    omega
/-! ### the law -/
/-- a statement after which something is known -/
theorem sd_seqM {B0 H0 : Hp} {W : WX} {δ : List Sl} {E : DE} {t u : TS} {M : List Sl → Prop} (h : SD K B0 H0 W t δ { E with nx := M }) (k : ∀ δ', M δ' → SD K B0 H0 W u δ' E) : SD K B0 H0 W (tSeq t u) δ E := fun D B H σ S L => h { D with nx := u D } B H σ S ⟨fun B' H' σ' δ' e S' m => k δ' m D B' H' σ' S' (L.mono e), L.rt, L.bk, L.ct, L.ex, L.ro⟩
theorem ok_lside {f : Addr} {fd : FuncData} (F : Fun K "_law_side" "_law_side" s_law_side f fd) : FnOk P w K mg base CX0 1 f fd ["p", "q", "r"] (spSide K) := by
  refine F.ok sc_law_side (fun vs H Q E ⟨_, _, _, iv, _⟩ => iv.len) (fun cdv A outer s H vs Q E hr h => ⟨_, (pss_one (ps_ret (pe_op op_sub (pe_op op_mulX (pe_op op_sub (pe_ix ix_tup (pv 1) pe_int (fun _ _ => rfl)) (pe_ix ix_tup (pv 0) pe_int (fun _ _ => rfl))) (pe_op op_sub (pe_ix ix_tup (pv 2) pe_int (fun _ _ => rfl)) (pe_ix ix_tup (pv 0) pe_int (fun _ _ => rfl)))) (pe_op op_mulX (pe_op op_sub (pe_ix ix_tup (pv 1) pe_int (fun _ _ => rfl)) (pe_ix ix_tup (pv 0) pe_int (fun _ _ => rfl))) (pe_op op_sub (pe_ix ix_tup (pv 2) pe_int (fun _ _ => rfl)) (pe_ix ix_tup (pv 0) pe_int (fun _ _ => rfl))))))), run_body h fun a B hp => ?_⟩)
  obtain ⟨p, q, r⟩ := a
  obtain ⟨⟨p1, p2⟩, ⟨q1, q2⟩, ⟨r1, r2⟩⟩ : Pb 60 p ∧ Pb 60 q ∧ Pb 60 r := hp
  refine sd_env (δ1 := [.dat (encP p), .dat (encP q), .dat (encP r)]) rfl ?_
  exact sd_ret (d_i0 (d_iC (d_i0 (d_ixT (d := .int q.2) (d_var rfl) d_ci rfl) (d_ixT (d := .int p.2) (d_var rfl) d_ci rfl)) (d_i0 (d_ixT (d := .int r.1) (d_var rfl) d_ci rfl) (d_ixT (d := .int p.1) (d_var rfl) d_ci rfl)) (dif_ok q2 p2 r1 p1)) (d_iC (d_i0 (d_ixT (d := .int q.1) (d_var rfl) d_ci rfl) (d_ixT (d := .int p.1) (d_var rfl) d_ci rfl)) (d_i0 (d_ixT (d := .int r.2) (d_var rfl) d_ci rfl) (d_ixT (d := .int p.2) (d_var rfl) d_ci rfl)) (dif_ok q1 p1 r2 p2))) rfl
theorem all_take {P : Pt → Prop} {l : List Pt} {i : Nat} (h : i < l.length) : (∀ x ∈ l.take (i + 1), P x) ↔ (∀ x ∈ l.take i, P x) ∧ P l[i] := by
  rw [List.take_succ, List.getElem?_eq_getElem h]
  constructor
  · intro z
    exact ⟨fun x hx => z x (List.mem_append_left _ hx), z _ (List.mem_append_right _ (List.mem_singleton.mpr rfl))⟩
  · rintro ⟨z1, z2⟩ x hx
    rcases List.mem_append.mp hx with y | y
    · exact z1 x y
    · rw [List.mem_singleton.mp y]
      exact z2
theorem flat_by {ps : List Pt} : (∀ p ∈ ps, ∀ q ∈ ps.take 4, ∀ r ∈ ps, Wh.side p q r = 0) ↔ Flat ps := by
  constructor
  · intro h
    cases ps with
    | nil => exact fun p hp => nomatch hp
    | cons q0 rs =>
      have h0 : ∀ p ∈ q0 :: rs, ∀ r ∈ q0 :: rs, Wh.side p q0 r = 0 := fun p hp r hr => h p hp q0 (List.mem_cons_self ..) r hr
      by_cases z : ∃ p ∈ q0 :: rs, p ≠ q0
      · obtain ⟨p0, hp0, hne⟩ := z
        exact fun a ha b hb c hc => Hu.flat_of hne (h0 p0 hp0 a ha) (h0 p0 hp0 b hb) (h0 p0 hp0 c hc)
      · have all : ∀ p ∈ q0 :: rs, p = q0 := fun p hp => Decidable.byContradiction fun y => z ⟨p, hp, y⟩
        intro a ha b hb c hc
        rw [all a ha, all b hb, all c hc]
        exact h0 q0 (List.mem_cons_self ..) q0 (List.mem_cons_self ..)
  · intro h p hp q hq r hr
    exact h p hp q (List.mem_of_mem_take hq) r hr
/-- which place is two before -/
def back2 (n k : Nat) : Nat := if k < 2 then k + n - 2 else k - 2
theorem back2_ok {n k : Nat} (hn : 3 ≤ n) (hk : k < n) : back2 n k < n ∧ Sg.nx n (Sg.nx n (back2 n k)) = k := by
  unfold back2 Sg.nx
  split <;> refine ⟨by omega, ?_⟩ <;> split <;> split <;> omega
theorem back2_inj {n i k : Nat} (hn : 3 ≤ n) (hk : k < n) (hi : i < n) : back2 n k = i ↔ k = Sg.nx n (Sg.nx n i) := by
  unfold back2 Sg.nx
  split <;> split <;> split <;> omega
theorem nx_lt {n i : Nat} (h : i < n) : Sg.nx n i < n := by
  unfold Sg.nx
  split <;> omega
theorem atI_getD {F : List Pt} {i : Nat} (h : i < F.length) {j : Int} (e : (j = (i : Int)) ∨ (j < 0 ∧ j + (F.length : Int) = (i : Int))) : atI F j = some (F.getD i (0, 0)) := by
  have e2 : F.getD i (0, 0) = F[i] := by rw [List.getD_eq_getElem?_getD, List.getElem?_eq_getElem h]; rfl
  rw [e2]
  rcases e with e | ⟨e, e3⟩
  · subst e
    exact atI_nat (List.getElem?_eq_getElem h)
  · unfold atI ixN
    rw [if_neg (by omega), if_pos (by omega)]
    show F[(j + (F.length : Int)).toNat]? = _
    rw [e3, Int.toNat_natCast]
    exact List.getElem?_eq_getElem h
theorem at_back {F : List Pt} {k : Nat} (hn : 3 ≤ F.length) (hk : k < F.length) : atI F ((k : Int) - 2) = some (F.getD (back2 F.length k) (0, 0)) ∧ atI F ((k : Int) - 1) = some (F.getD (Sg.nx F.length (back2 F.length k)) (0, 0)) ∧ atI F (k : Int) = some (F.getD k (0, 0)) := by
  have h1 := back2_ok hn hk
  refine ⟨atI_getD h1.1 ?_, atI_getD (nx_lt h1.1) ?_, atI_getD hk (.inl rfl)⟩
  · unfold back2
    split <;> omega
  · unfold back2 Sg.nx
    split <;> split <;> omega
theorem least_is {D ps : List Pt} {p : Pt} (hD : D.Pairwise Hu.lt) (hm : ∀ p, p ∈ D ↔ p ∈ ps) (hp : p ∈ ps.map sw) (hl : ∀ q ∈ ps.map sw, SrtO.lexB q p = false) : D[0]? = some (sw p) := by
  have h1 : sw p ∈ D := (hm _).mpr (sw_mem.mp hp)
  cases D with
  | nil => cases h1
  | cons d r =>
    show some d = some (sw p)
    rcases List.mem_cons.mp h1 with z | z
    · rw [z]
    · have h2 := (List.pairwise_cons.mp hD).1 _ z
      have h3 := hl (sw d) (sw_mem.mpr ((hm d).mp (List.mem_cons_self ..)))
      exact absurd h2 (lex_nlt.mp h3)
def spLaw (K : PySem.W.Frag) : Sp := fun vs H Q _ => ∃ (a : Addr) (ns : List Int), vs = [.ref a] ∧ SqL K H a (ns.map V.int) ∧ ns.length ≤ 63 ∧ ∀ H', Q (.bl true) H'
theorem ok_law {f f0 f1 f2 f3 f4 f5 f6 CI CP : Addr} {fd fd0 fd1 fd2 fd3 fd4 fd5 fd6 : FuncData} (F : Fun K "law" "law" s_law f fd) (T : Errs K mg "NoHalves" CI CP)
    (F_hull_of : Fun K "hull_of" "hull_of" s_hull_of f0 fd0) (F_side_of : Fun K "side_of" "side_of" s_side_of f1 fd1) (F_chain_of : Fun K "chain_of" "chain_of" s_chain_of f2 fd2) (F_law_cell : Fun K "_law_cell" "_law_cell" s_law_cell f3 fd3) (F_law_numbers : Fun K "_law_numbers" "_law_numbers" s_law_numbers f4 fd4) (F_law_corners : Fun K "_law_corners" "_law_corners" s_law_corners f5 fd5) (F_law_side : Fun K "_law_side" "_law_side" s_law_side f6 fd6)
    (b_hull_of : Binds K fd0 ["points"] []) (b_side_of : Binds K fd1 ["a", "b", "c"] []) (b_chain_of : Binds K fd2 ["points"] []) (b_law_cell : Binds K fd3 ["script", "k"] []) (b_law_numbers : Binds K fd4 ["script", "first", "most"] []) (b_law_corners : Binds K fd5 ["script", "first", "most"] []) (b_law_side : Binds K fd6 ["p", "q", "r"] [])
    (g_hull_of : mg "hull_of" = some (.ref f0)) (g_side_of : mg "side_of" = some (.ref f1)) (g_chain_of : mg "chain_of" = some (.ref f2)) (g_law_cell : mg "_law_cell" = some (.ref f3)) (g_law_numbers : mg "_law_numbers" = some (.ref f4)) (g_law_corners : mg "_law_corners" = some (.ref f5)) (g_law_side : mg "_law_side" = some (.ref f6))
    (m_len : mg "len" = none) (m_abs : mg "abs" = none) (m_int : mg "int" = none) (m_min : mg "min" = none) (m_range : mg "range" = none) (m_isinstance : mg "isinstance" = none) (m_list : mg "list" = none) (m_set : mg "set" = none) (m_sorted : mg "sorted" = none) : FnOk P w K mg base CX0 4 f fd ["script"] (spLaw K) := by
  have G_hull_of : FnOk P w K mg base (L2.CX P w) 3 f0 fd0 ["points"] (spHull K CI) := ok_hull F_hull_of T F_side_of b_side_of g_side_of F_chain_of b_chain_of g_chain_of m_len m_set m_sorted
  have G_law_cell : FnOk P w K mg base CX0 1 f3 fd3 ["script", "k"] (spCell K) := ok_cell F_law_cell m_len
  have G_law_corners : FnOk P w K mg base CX0 2 f5 fd5 ["script", "first", "most"] (spCorners K) := ok_corners F_law_corners F_law_numbers b_law_numbers g_law_numbers m_len m_abs m_int m_range
  have G_law_side : FnOk P w K mg base CX0 1 f6 fd6 ["p", "q", "r"] (spSide K) := ok_lside F_law_side
  refine F.ok sc_law (fun vs H Q E h => ?_) (fun cdv A outer s H vs Q E hr h => ?_)
  · obtain ⟨a, ns, rfl, _⟩ := h
    rfl
  · obtain ⟨sa, ns, rfl, hS, hl, fin⟩ := h
    refine ⟨_, (pss_cons (ps_set (i := 1) sc_law.nd rfl (.inl rfl) (pe_call G_law_corners (hr.mono (by decide)) (by rfl) g_law_corners F_law_corners.kp b_law_corners .nil pass0 (pa_cons (pv 0) (pa_cons pe_int (pa_cons pe_int pa_nil)))))
        (pss_cons (ps_if (pt_cmpR op_eq (pe_op op_mod (pe_callTy call_int1 (by rfl) m_int (by decide +kernel) (pa_cons (pe_call G_law_cell (hr.mono (by decide)) (by rfl) g_law_cell F_law_cell.kp b_law_cell .nil pass0 (pa_cons (pv 0) (pa_cons pe_int pa_nil))) pa_nil)) pe_int) pe_int (nomark _)) (pss_one (ps_setLc (i := 1) (own := [("p", 2)]) (g := gName 2) rfl sc_law.nd rfl rfl (sw_true rfl rfl rfl (by decide +kernel)) (pi_list (pv 1)) (blkOk_by (own := [("p", 2)]) (N := ["script", "points", "p", "flat", "q", "r", "found", "e", "least", "turns", "k"]) (sc := defScope s_law) (by decide +kernel)) (fun _ _ _ _ _ => (pg_name (i := 2) sc_law.nd rfl (.inl rfl))) (fun _ _ _ _ _ => pts_nil) (fun _ _ _ _ _ => (pe_tup (pa_cons (pe_ix (r := rIxT K) ix_tup (pv 2) pe_int (fun _ _ => rfl)) (pa_cons (pe_ix (r := rIxT K) ix_tup (pv 2) pe_int (fun _ _ => rfl)) pa_nil)))))) pss_nil)
        (pss_cons (ps_if (pt_cmpR op_eq (pe_op op_mod (pe_callTy call_int1 (by rfl) m_int (by decide +kernel) (pa_cons (pe_call G_law_cell (hr.mono (by decide)) (by rfl) g_law_cell F_law_cell.kp b_law_cell .nil pass0 (pa_cons (pv 0) (pa_cons pe_int pa_nil))) pa_nil)) pe_int) pe_int (nomark _)) (pss_one (ps_set (i := 1) sc_law.nd rfl (.inl rfl) (pe_slice sl_list (pv 1) po_none (po_some (pe_op op_mod (pe_callTy call_int1 (by rfl) m_int (by decide +kernel) (pa_cons (pe_op op_fdiv (pe_call G_law_cell (hr.mono (by decide)) (by rfl) g_law_cell F_law_cell.kp b_law_cell .nil pass0 (pa_cons (pv 0) (pa_cons pe_int pa_nil))) pe_int) pa_nil)) pe_int))))) pss_nil)
        (pss_cons (ps_set (i := 3) sc_law.nd rfl (.inl rfl) pe_bl)
        (pss_cons (ps_for PassesOwn.never rfl (pi_list (pv 1)) (pg_name (i := 2) sc_law.nd rfl (.inl rfl)) (pss_one (ps_for PassesOwn.never rfl (pi_list (pe_slice sl_list (pv 1) po_none (po_some pe_int))) (pg_name (i := 4) sc_law.nd rfl (.inl rfl)) (pss_one (ps_for PassesOwn.never rfl (pi_list (pv 1)) (pg_name (i := 5) sc_law.nd rfl (.inl rfl)) (pss_one (ps_set (i := 3) sc_law.nd rfl (.inl rfl) (pe_and (pv 3) (pe_one (pe_cmpR op_eq (pe_call G_law_side (hr.mono (by decide)) (by rfl) g_law_side F_law_side.kp b_law_side .nil pass0 (pa_cons (pv 2) (pa_cons (pv 4) (pa_cons (pv 5) pa_nil)))) pe_int (nomark _)))))))))))
        (pss_cons (ps_tryD (i := 7) (ts := fun a cls d => fun Dn σ H => ∃ D, (cls = .ref D ∧ d = none ∧ ExcC K D) ∧ tRet (tAndV (tCB (rIsE K D a) (tCons (tVar 7) (tCons (tC (.ref CI)) tNil))) (tVar 3)) Dn σ H) (Wout := fun _ _ _ _ => False) rfl rfl sc_law.nd rfl rfl ⟨rfl, by decide, Or.inl T.gP⟩ takes0
        (fun W pn xe tk _ => pss_one (ps_set (i := 6) sc_law.nd rfl (.inl rfl) (pe_callS G_hull_of (hr.mono (by decide)) (by rfl) g_hull_of F_hull_of.kp b_hull_of (fun σ => passAt tk σ) (pa_cons (pe_callTy (T := "list") (r := Evl.rListS K) call_list_of (by rfl) m_list (by decide +kernel) (pa_cons (pv 1) pa_nil)) pa_nil))))
        (fun a oe cls d pn hz hf => pss_ex (φ := fun D => cls = .ref D ∧ d = none ∧ ExcC K D) fun D hD => by
          obtain ⟨rfl, rfl, hE⟩ := hD
          exact pss_one (ps_ret (pe_and (pe_callB (call_isE hE hz hf) (by rfl) m_isinstance (by decide +kernel) (pa_cons (pv 7) (pa_cons (pe_glob (by rfl) T.gU (show RelV (.ref CI) _ from rfl)) pa_nil))) (pe_one (pv 3))))))
        (pss_cons (ps_if (PW.pt (pw_or (pt_val (pv 3)) (pw_or (pt_not (pt_val (pe_callB call_isi (by rfl) m_isinstance (by decide +kernel) (pa_cons (pv 6) (pa_cons (pe_bltn (by rfl) m_list (by decide +kernel) (show RelV (.ty "list") _ from rfl)) pa_nil))))) (pw_or1 (pt_cmpR op_lt (pe_callB call_len (by rfl) m_len (by decide +kernel) (pa_cons (pv 6) pa_nil)) pe_int (nomark _)))))) (pss_one (ps_ret pe_bl)) pss_nil)
        (pss_cons (ps_set (i := 8) sc_law.nd rfl (.inl rfl) (pe_callB (cr_minP rfl (hu64 hr)) (by rfl) m_min (by decide +kernel) (pa_cons (pe_lc (own := [("p", 2)]) (g := gName 2) rfl sc_law.nd (pi_list (pv 1)) (blkOk_by (own := [("p", 2)]) (N := ["script", "points", "p", "flat", "q", "r", "found", "e", "least", "turns", "k"]) (sc := defScope s_law) (by decide +kernel)) (fun _ _ _ _ _ => (pg_name (i := 2) sc_law.nd rfl (.inl rfl))) (fun _ _ _ _ _ => pts_nil) (fun _ _ _ _ _ => (pe_tup (pa_cons (pe_ix (r := rIxT K) ix_tup (pv 2) pe_int (fun _ _ => rfl)) (pa_cons (pe_ix (r := rIxT K) ix_tup (pv 2) pe_int (fun _ _ => rfl)) pa_nil))))) pa_nil)))
        (pss_cons (ps_if (pt_cmpR (op_neD hr.units) (pe_ix ix_list (pv 6) pe_int (fun _ _ => rfl)) (pe_tup (pa_cons (pe_ix ix_tup (pv 8) pe_int (fun _ _ => rfl)) (pa_cons (pe_ix ix_tup (pv 8) pe_int (fun _ _ => rfl)) pa_nil))) (nomark _)) (pss_one (ps_ret pe_bl)) pss_nil)
        (pss_cons (ps_set (i := 9) sc_law.nd rfl (.inl rfl) pe_int)
        (pss_cons (ps_for PassesOwn.never rfl (pi_range1 (by rfl) m_range (pa_cons (pe_callB call_len (by rfl) m_len (by decide +kernel) (pa_cons (pv 6) pa_nil)) pa_nil)) (pg_name (i := 10) sc_law.nd rfl (.inl rfl)) (pss_cons (ps_set (i := 2) sc_law.nd rfl (.inl rfl) (pe_ix ix_list (pv 6) (pe_op op_sub (pv 10) pe_int) (fun _ _ => rfl)))
        (pss_cons (ps_set (i := 4) sc_law.nd rfl (.inl rfl) (pe_ix ix_list (pv 6) (pe_op op_sub (pv 10) pe_int) (fun _ _ => rfl)))
        (pss_cons (ps_if (PW.pt (pw_or (pt_cmpR (op_notInD (hu65 hr)) (pv 4) (pv 1) (by rfl)) (pw_or1 (pt_cmpR op_le (pe_call G_law_side (hr.mono (by decide)) (by rfl) g_law_side F_law_side.kp b_law_side .nil pass0 (pa_cons (pv 2) (pa_cons (pv 4) (pa_cons (pe_ix ix_list (pv 6) (pv 10) (fun _ _ => rfl)) pa_nil)))) pe_int (nomark _))))) (pss_one (ps_ret pe_bl)) pss_nil)
        (pss_cons (ps_if (PW.pt (pw_and (pt_cmpR op_gt (pe_ix ix_tup (pv 4) pe_int (fun _ _ => rfl)) (pe_ix ix_tup (pv 2) pe_int (fun _ _ => rfl)) (nomark _)) (pw_and1 (pt_cmpR op_le (pe_ix ix_tup (pe_ix ix_list (pv 6) (pv 10) (fun _ _ => rfl)) pe_int (fun _ _ => rfl)) (pe_ix ix_tup (pv 4) pe_int (fun _ _ => rfl)) (nomark _))))) (pss_one (ps_set (i := 9) sc_law.nd rfl (.inl rfl) (pe_op op_add (pv 9) pe_int))) pss_nil)
        (pss_one (ps_for PassesOwn.never rfl (pi_list (pv 1)) (pg_name (i := 5) sc_law.nd rfl (.inl rfl)) (pss_one (ps_if (pt_cmpR op_lt (pe_call G_law_side (hr.mono (by decide)) (by rfl) g_law_side F_law_side.kp b_law_side .nil pass0 (pa_cons (pv 2) (pa_cons (pv 4) (pa_cons (pv 5) pa_nil)))) pe_int (nomark _)) (pss_one (ps_ret pe_bl)) pss_nil)))))))))
        (pss_one (ps_ret (pe_cmpR op_eq (pv 9) pe_int (nomark _))))))))))))))), run_law hS fin (n := 10) rfl fun B => ?_⟩
    refine q_asgN (nr_call (ns, 1, 14) (a_cons (d_var rfl) (a_cons d_ci (a_cons d_ci a_nil))) ⟨hl, (show 1 ≤ 100 by decide), (show 14 ≤ 16 by decide)⟩) fun ds ⟨ps, e, hp1, hp2⟩ => ?_
    subst e
    have hp1 : ps.length ≤ 14 := hp1
    refine sd_freeze (n := 1) rfl ?_
    refine sd_env (δ1 := [.sem (scrP K ns), .dat (.list (ps.map encP)), .no, .no, .no, .no, .no, .no, .no, .no, .no]) rfl ?_
    refine sd_seqM (M := fun δ => ∃ ps : List Pt, δ = [.sem (scrP K ns), .dat (.list (ps.map encP)), .no, .no, .no, .no, .no, .no, .no, .no, .no] ∧ ps.length ≤ 14 ∧ ∀ p ∈ ps, Sml p) (sd_when (b_test (d_eqI (d_iC (d_int (d_callF (ns, 0) (a_cons (d_var rfl) (a_cons d_ci a_nil)) trivial)) d_ci (by decide)) d_ci)) (fun hb => ?_) (fun hb => ⟨ps, rfl, hp1, hp2⟩)) fun δ' ⟨ps, e, hp1, hp2⟩ => ?_
    · refine sd_asg (d_new (n_lc1 (ix := [2]) ps encP (fun p => [.sem (scrP K ns), .dat (.list (ps.map encP)), .dat (encP p), .no, .no, .no, .no, .no, .no, .no, .no]) (fun p => encP (p.1, p.1)) (w_list (d_var rfl)) (by decide) (by omega) (fun p _ => g_name) fun (p : Pt) _ => d_tup (ds_cons (d_ixT (d := .int p.1) (d_var rfl) d_ci rfl) (ds_cons (d_ixT (d := .int p.1) (d_var rfl) d_ci rfl) ds_nil)))) ?_
      refine ⟨ps.map fun p => (p.1, p.1), ?_, by rw [List.length_map]; exact hp1, fun p hp => ?_⟩
      · show [_, Sl.dat (.list (ps.map fun p => encP (p.1, p.1))), _, _, _, _, _, _, _, _, _] = _
        rw [List.map_map]
        rfl
      · obtain ⟨q, hq, rfl⟩ := List.mem_map.mp hp
        exact ⟨(hp2 q hq).1, (hp2 q hq).1⟩
    subst e
    refine sd_seqM (M := fun δ => ∃ ps : List Pt, δ = [.sem (scrP K ns), .dat (.list (ps.map encP)), .no, .no, .no, .no, .no, .no, .no, .no, .no] ∧ ps.length ≤ 14 ∧ ∀ p ∈ ps, Sml p) (sd_when (b_test (d_eqI (d_iC (d_int (d_callF (ns, 0) (a_cons (d_var rfl) (a_cons d_ci a_nil)) trivial)) d_ci (by decide)) d_ci)) (fun hb => ?_) (fun hb => ⟨ps, rfl, hp1, hp2⟩)) fun δ' ⟨ps, e, hp1, hp2⟩ => ?_
    · have hm : cellOf ns 0 / 8 % 4 = (((cellOf ns 0 / 8 % 4).toNat : Nat) : Int) := (Int.toNat_of_nonneg (by omega)).symm
      refine sd_asg (d_new (n_slF (ys := ps.take (cellOf ns 0 / 8 % 4).toNat) (d_var rfl) o_none (o_some (d_isI (d_iC (d_int (d_iC (d_callF (ns, 0) (a_cons (d_var rfl) (a_cons d_ci a_nil)) trivial) d_ci ⟨by decide, by decide⟩)) d_ci (by decide)) hm)) (cut_to ps _))) ?_
      exact ⟨ps.take (cellOf ns 0 / 8 % 4).toNat, rfl, by rw [List.length_take]; omega, fun p hp => hp2 p (List.mem_of_mem_take hp)⟩
    subst e
    have hpb : ∀ p ∈ ps, Pb 60 p := fun p hp => (hp2 p hp).pb
    refine q_asg [_, _, _, nB true, _, _, _, _, _, _, _] d_cb ?_
    refine q_for (w_list (d_var rfl)) (fun i δ => ∃ (b : Bool) (s2 s4 s5 : Sl), δ = [.sem (scrP K ns), .dat (.list (ps.map encP)), s2, nB b, s4, s5, .no, .no, .no, .no, .no] ∧ (b = true ↔ ∀ p ∈ ps.take i, ∀ q ∈ ps.take 4, ∀ r ∈ ps, Wh.side p q r = 0)) ⟨true, _, _, _, rfl, ⟨fun _ p hp => (nomatch hp), fun _ => rfl⟩⟩ (fun i d δ' hd hp => ?_) (fun δ' hp => ?_)
    · obtain ⟨b, s2, s4, s5, rfl, hb⟩ := hp
      have hi : i < ps.length := by
        have := (List.getElem?_eq_some_iff.mp hd).1
        rwa [List.length_map] at this
      rw [List.getElem?_map, List.getElem?_eq_getElem hi] at hd
      cases Option.some.inj hd
      have hpi : Pb 60 ps[i] := hpb _ (List.getElem_mem hi)
      have ht := all_take (P := fun p => ∀ q ∈ ps.take 4, ∀ r ∈ ps, Wh.side p q r = 0) hi
      generalize ps[i] = p at hpi ht
      refine ⟨_, _, g_name, ?_⟩
      refine sd_env (δ1 := [.sem (scrP K ns), .dat (.list (ps.map encP)), .dat (encP p), nB b, s4, s5, .no, .no, .no, .no, .no]) rfl ?_
      refine sd_for (w_list (d_new (n_slF (xs := ps) (ys := ps.take 4) (d_var rfl) o_none (o_some (d_isI (j := ((4 : Nat) : Int)) d_ci rfl)) (cut_to ps 4)))) (fun j δ => ∃ (b : Bool) (s4 s5 : Sl), δ = [.sem (scrP K ns), .dat (.list (ps.map encP)), .dat (encP p), nB b, s4, s5, .no, .no, .no, .no, .no] ∧ (b = true ↔ (∀ p ∈ ps.take i, ∀ q ∈ ps.take 4, ∀ r ∈ ps, Wh.side p q r = 0) ∧ ∀ q ∈ (ps.take 4).take j, ∀ r ∈ ps, Wh.side p q r = 0)) ⟨b, _, _, rfl, ⟨fun h => ⟨hb.mp h, fun q hq => (nomatch hq)⟩, fun h => hb.mpr h.1⟩⟩ (fun j d δ' hd hp => ?_) (fun δ' hp => ?_)
      · obtain ⟨b, s4, s5, rfl, hb⟩ := hp
        have hj : j < (ps.take 4).length := by
          have := (List.getElem?_eq_some_iff.mp hd).1
          rwa [List.length_map] at this
        rw [List.getElem?_map, List.getElem?_eq_getElem hj] at hd
        cases Option.some.inj hd
        have hqj : Pb 60 (ps.take 4)[j] := hpb _ (List.mem_of_mem_take (List.getElem_mem hj))
        have ht := all_take (P := fun q => ∀ r ∈ ps, Wh.side p q r = 0) hj
        generalize (ps.take 4)[j] = q at hqj ht
        refine ⟨_, _, g_name, ?_⟩
        refine sd_env (δ1 := [.sem (scrP K ns), .dat (.list (ps.map encP)), .dat (encP p), nB b, .dat (encP q), s5, .no, .no, .no, .no, .no]) rfl ?_
        refine sd_for (w_list (d_var rfl)) (fun k δ => ∃ (b : Bool) (s5 : Sl), δ = [.sem (scrP K ns), .dat (.list (ps.map encP)), .dat (encP p), nB b, .dat (encP q), s5, .no, .no, .no, .no, .no] ∧ (b = true ↔ ((∀ p ∈ ps.take i, ∀ q ∈ ps.take 4, ∀ r ∈ ps, Wh.side p q r = 0) ∧ ∀ q ∈ (ps.take 4).take j, ∀ r ∈ ps, Wh.side p q r = 0) ∧ ∀ r ∈ ps.take k, Wh.side p q r = 0)) ⟨b, _, rfl, ⟨fun h => ⟨hb.mp h, fun q hq => (nomatch hq)⟩, fun h => hb.mpr h.1⟩⟩ (fun k d δ' hd hp => ?_) (fun δ' hp => ?_)
        · obtain ⟨b, s5, rfl, hb⟩ := hp
          have hk : k < ps.length := by
            have := (List.getElem?_eq_some_iff.mp hd).1
            rwa [List.length_map] at this
          rw [List.getElem?_map, List.getElem?_eq_getElem hk] at hd
          cases Option.some.inj hd
          have hrk : Pb 60 ps[k] := hpb _ (List.getElem_mem hk)
          have ht := all_take (P := fun r => Wh.side p q r = 0) hk
          generalize ps[k] = r at hrk ht
          refine ⟨_, _, g_name, ?_⟩
          refine sd_env (δ1 := [.sem (scrP K ns), .dat (.list (ps.map encP)), .dat (encP p), nB b, .dat (encP q), .dat (encP r), .no, .no, .no, .no, .no]) rfl ?_
          refine sd_asg (d_andV (d_var rfl) fun _ => (d_eqI (d_callF (p, q, r) (a_cons (d_var rfl) (a_cons (d_var rfl) (a_cons (d_var rfl) a_nil))) ⟨hpi, hqj, hrk⟩) d_ci)) ?_
          refine ⟨_, _, rfl, ?_⟩
          rw [ht, Bool.and_eq_true, hb, decide_eq_true_iff, and_assoc]
        · obtain ⟨b, s5, rfl, hb⟩ := hp
          rw [List.length_map, List.take_length] at hb
          refine ⟨b, _, _, rfl, ?_⟩
          rw [hb, ht, and_assoc]
      · obtain ⟨b, s4, s5, rfl, hb⟩ := hp
        rw [List.length_map, List.take_length] at hb
        refine ⟨b, _, _, _, rfl, ?_⟩
        rw [hb, ht]
    · obtain ⟨b, s2, s4, s5, rfl, hb⟩ := hp
      rw [List.length_map, List.take_length, flat_by] at hb
      refine sd_seq (sd_try (fun C δ' => C = CI ∧ Flat ps ∧ δ' = [.sem (scrP K ns), .dat (.list (ps.map encP)), s2, nB b, s4, s5, .no, .no, .no, .no, .no]) (fun W' => ?_) fun C δ' hC => ?_)
      · refine sd_asgX (x_callS ps (a_cons (d_new (n_list (d_var rfl))) a_nil) ⟨by omega, hpb⟩) (fun C hC => ?_) fun d hd => ?_
        · by_cases hz : Flat ps
          · rw [badH_yes hz] at hC
            exact ⟨(Option.some.inj hC).symm, hz, rfl⟩
          · rw [badH_no hz] at hC
            cases hC
        · obtain ⟨h1, D, hD, hm, rfl⟩ := hd
          have hz : ¬ Flat ps := fun z => by
            rw [badH_yes z] at h1
            cases h1
          have hb0 : b = false := Bool.eq_false_iff.mpr fun z => hz (hb.mp z)
          subst hb0
          have hf := Hu.hull_main hD
          have hzD : ¬ Flat D := fun z => hz ((flat_iff hm).mp z)
          have hn3 : 3 ≤ (hullL D).length := Nat.le_of_not_lt fun z => hzD (hf.few.mp z)
          have f_mem := hf.mem hzD
          have f_left := hf.left hzD
          have f_turn := hf.turn hzD
          have f_fst := hf.fst hzD
          obtain ⟨kt, hkt, f_top⟩ := hf.top hzD
          have hlenD : (hullL D).length ≤ 1000 := by
            unfold Hu.hullL
            have hc1 := chain_len [] D
            have hc2 := chain_len [] D.reverse
            have hnd : D.length ≤ ps.length := nodup_le (hD.imp fun {a b} h e => by
              subst e
              exact Hu.lt_irr h) fun x hx => (hm x).mp hx
            rw [List.length_append, List.length_dropLast, List.length_dropLast, List.length_reverse, List.length_reverse]
            rw [List.length_reverse] at hc2
            simp only [List.length_nil] at hc1 hc2
            omega
          generalize hullL D = L at hn3 f_mem f_left f_turn f_fst f_top hkt hlenD
          clear hf
          refine sd_env (δ1 := [.sem (scrP K ns), .dat (.list (ps.map encP)), s2, nB false, s4, s5, .dat (.list (L.map encP)), .no, .no, .no, .no]) rfl ?_
          refine q_when (b_is (c := false) (b_or (b_val (d_var rfl)) fun _ => (b_or (b_not (b_val (d_isi (t := "list") (b := true) (d_var rfl) rfl (by rfl)))) fun _ => (b_test (d_b0 (d_isI (j := (L.length : Int)) (d_lenL (d_var rfl)) (by rw [List.length_map])) d_ci)))) (by show (false || (false || decide _)) = false; rw [Bool.false_or, Bool.false_or]; exact decide_eq_false (by omega))) (fun hb => (nomatch hb)) (fun _ => ?_)
          refine q_asgR (r_minP (ps := ps.map sw) (d_is (d_new (n_lc1 (ix := [2]) ps encP (fun p => [.sem (scrP K ns), .dat (.list (ps.map encP)), .dat (encP p), nB false, s4, s5, .dat (.list (L.map encP)), .no, .no, .no, .no]) (fun p => encP (sw p)) (w_list (d_var rfl)) (by decide) (by omega) (fun p _ => g_name) fun (p : Pt) _ => d_tup (ds_cons (d_ixT (d := .int p.2) (d_var rfl) d_ci rfl) (ds_cons (d_ixT (d := .int p.1) (d_var rfl) d_ci rfl) ds_nil)))) (by rw [List.map_map]; rfl)) ?_) fun d hd => ?_
          · rw [List.length_map]
            refine Nat.pos_of_ne_zero fun z => hz ?_
            have : ps = [] := List.length_eq_zero_iff.mp z
            rw [this]
            exact fun p hp => nomatch hp
          obtain ⟨lp, rfl, hlp, hlm⟩ := hd
          have hfst : atI L 0 = some (sw lp) := by
            have := least_is hD hm hlp hlm
            rw [← f_fst] at this
            exact (show atI L ((0 : Nat) : Int) = _ from atI_nat this)
          refine sd_env (δ1 := [.sem (scrP K ns), .dat (.list (ps.map encP)), s2, nB false, s4, s5, .dat (.list (L.map encP)), .no, .dat (encP lp), .no, .no]) rfl ?_
          refine q_when (b_is (c := false) (b_test (d_neE (f := encP) (x := sw lp) (y := sw lp) enc_P (d_ixM (f := encP) (x := sw lp) (d_var rfl) d_ci hfst) (d_tup (ds_cons (d_ixT (d := .int lp.2) (d_var rfl) d_ci rfl) (ds_cons (d_ixT (d := .int lp.1) (d_var rfl) d_ci rfl) ds_nil))))) (by rw [decide_eq_true rfl]; rfl)) (fun hb => (nomatch hb)) (fun _ => ?_)
          refine q_asg [_, _, _, _, _, _, _, _, _, nI 0, _] d_ci ?_
          refine q_for (w_nat (n := L.length) (ds_cons (d_isI (d_lenL (d_var rfl)) (by rw [List.length_map])) ds_nil) (by omega)) (fun k δ => ∃ s2 s4 s5 s10 : Sl, δ = [.sem (scrP K ns), .dat (.list (ps.map encP)), s2, nB false, s4, s5, .dat (.list (L.map encP)), .no, .dat (encP lp), nI (if Sg.nx L.length (Sg.nx L.length kt) < k then 1 else 0), s10]) ⟨s2, s4, s5, .no, by rw [if_neg (Nat.not_lt_zero _)]⟩ (fun k d δ' hd hp => ?_) (fun δ' hp => ?_)
          · obtain ⟨s2, s4, s5, s10, rfl⟩ := hp
            obtain ⟨hk, rfl⟩ := nats_get hd
            obtain ⟨a1, a2, a3⟩ := at_back hn3 hk
            obtain ⟨b1, b2⟩ := back2_ok hn3 hk
            have b3 := back2_inj (i := kt) hn3 hk hkt
            have t1 := f_turn _ b1
            have l1 := f_left _ b1
            have m1 := f_mem _ b1
            have m2 := f_mem _ (nx_lt b1)
            have m3 := f_mem _ hk
            have p1 := f_top _ b1
            rw [b2] at t1 p1
            generalize L.getD (back2 L.length k) (0, 0) = p at a1 t1 l1 m1 p1
            generalize L.getD (Sg.nx L.length (back2 L.length k)) (0, 0) = q at a2 t1 l1 m2 p1
            generalize L.getD k (0, 0) = r at a3 t1 m3 p1
            have hp := (hm p).mp m1
            have hq := (hm q).mp m2
            have hr' := (hm r).mp m3
            refine ⟨_, _, g_name, ?_⟩
            refine sd_env (δ1 := [.sem (scrP K ns), .dat (.list (ps.map encP)), s2, nB false, s4, s5, .dat (.list (L.map encP)), .no, .dat (encP lp), nI (if Sg.nx L.length (Sg.nx L.length kt) < k then 1 else 0), nI (k : Int)]) rfl ?_
            refine q_asg [_, _, .dat (encP p), _, _, _, _, _, _, _, _] (d_ixM (f := encP) (x := p) (d_var rfl) (d_i0 (d_var rfl) d_ci) a1) ?_
            refine q_asg [_, _, _, _, .dat (encP q), _, _, _, _, _, _] (d_ixM (f := encP) (x := q) (d_var rfl) (d_i0 (d_var rfl) d_ci) a2) ?_
            refine q_when (b_is (c := false) (b_or (b_test (d_niE (f := encP) (x := q) (l := ps) enc_P (d_var rfl) (d_var rfl))) fun _ => (b_test (d_b0 (d_callF (p, q, r) (a_cons (d_var rfl) (a_cons (d_var rfl) (a_cons (d_ixM (f := encP) (x := r) (d_var rfl) (d_var rfl) a3) a_nil))) ⟨hpb _ hp, hpb _ hq, hpb _ hr'⟩) d_ci))) (Bool.or_eq_false_iff.mpr ⟨by simp [hq], decide_eq_false (by show ¬ Wh.side p q r ≤ 0; omega)⟩)) (fun hb => (nomatch hb)) (fun _ => ?_)
            refine sd_seqM (M := fun δ => δ = [.sem (scrP K ns), .dat (.list (ps.map encP)), .dat (encP p), nB false, .dat (encP q), s5, .dat (.list (L.map encP)), .no, .dat (encP lp), nI (if Sg.nx L.length (Sg.nx L.length kt) < k + 1 then 1 else 0), nI (k : Int)]) (sd_when (b_and (b_test (d_b0 (d_ixT (d := .int q.1) (d_var rfl) d_ci rfl) (d_ixT (d := .int p.1) (d_var rfl) d_ci rfl))) fun _ => (b_test (d_b0 (d_ixT (d := .int r.1) (d_ixM (f := encP) (x := r) (d_var rfl) (d_var rfl) a3) d_ci rfl) (d_ixT (d := .int q.1) (d_var rfl) d_ci rfl)))) (fun hb => ?_) (fun hb => ?_)) fun δ' e => ?_
            · have h1 := Bool.and_eq_true_iff.mp hb
              have h2 := of_decide_eq_true h1.1
              have h3 := of_decide_eq_true h1.2
              have h4 : k = Sg.nx L.length (Sg.nx L.length kt) := b3.mp (p1.mp ⟨h2, by omega⟩)
              refine sd_asg (d_i0 (d_var rfl) d_ci) ?_
              show [_, _, _, _, _, _, _, _, _, _, _] = _
              rw [if_neg (by omega), if_pos (by omega)]
              rfl
            · have h4 : ¬ k = Sg.nx L.length (Sg.nx L.length kt) := fun z => by
                have := p1.mpr (b3.mpr z)
                have h5 : (decide (q.1 > p.1) && decide (r.1 ≤ q.1)) = true := by
                  rw [Bool.and_eq_true_iff]
                  exact ⟨decide_eq_true (by omega), decide_eq_true (by omega)⟩
                exact absurd (hb.symm.trans h5) (by decide)
              show [_, _, _, _, _, _, _, _, _, _, _] = _
              have e : (Sg.nx L.length (Sg.nx L.length kt) < k) = (Sg.nx L.length (Sg.nx L.length kt) < k + 1) := propext (by omega)
              simp only [e]
            subst e
            refine sd_for (w_list (d_var rfl)) (fun j δ => ∃ s5 : Sl, δ = [.sem (scrP K ns), .dat (.list (ps.map encP)), .dat (encP p), nB false, .dat (encP q), s5, .dat (.list (L.map encP)), .no, .dat (encP lp), nI (if Sg.nx L.length (Sg.nx L.length kt) < k + 1 then 1 else 0), nI (k : Int)]) ⟨_, rfl⟩ (fun j d δ' hd hp => ?_) (fun δ' hp => ?_)
            · obtain ⟨s5, rfl⟩ := hp
              have hj : j < ps.length := by
                have := (List.getElem?_eq_some_iff.mp hd).1
                rwa [List.length_map] at this
              rw [List.getElem?_map, List.getElem?_eq_getElem hj] at hd
              cases Option.some.inj hd
              have hx := List.getElem_mem hj
              generalize ps[j] = x at hx
              have hl2 := l1 x ((hm x).mpr hx)
              refine ⟨_, _, g_name, ?_⟩
              refine sd_env (δ1 := [.sem (scrP K ns), .dat (.list (ps.map encP)), .dat (encP p), nB false, .dat (encP q), .dat (encP x), .dat (.list (L.map encP)), .no, .dat (encP lp), nI (if Sg.nx L.length (Sg.nx L.length kt) < k + 1 then 1 else 0), nI (k : Int)]) rfl ?_
              refine sd_when (b_is (c := false) (b_test (d_b0 (d_callF (p, q, x) (a_cons (d_var rfl) (a_cons (d_var rfl) (a_cons (d_var rfl) a_nil))) ⟨hpb _ ((hm p).mp m1), hpb _ hq, hpb _ hx⟩) d_ci)) (decide_eq_false (by show ¬ Wh.side p q x < 0; omega))) (fun hb => (nomatch hb)) (fun _ => ⟨_, rfl⟩)
            · obtain ⟨s5, rfl⟩ := hp
              exact ⟨_, _, _, _, rfl⟩
          · obtain ⟨s2, s4, s5, s10, rfl⟩ := hp
            refine sd_ret (d_eqI (d_var rfl) d_ci) ?_
            have h1 : Sg.nx L.length (Sg.nx L.length kt) < L.length := nx_lt (nx_lt hkt)
            rw [nats_len]
            show PyData.bool (decide ((if _ < _ then (1 : Int) else 0) = 1)) = .bool true
            rw [if_pos h1]
            rfl
      · obtain ⟨rfl, hz, rfl⟩ := hC
        refine ⟨T.caught, fun a => sd_ex C ⟨rfl, rfl, T.ec⟩ ?_⟩
        refine sd_ret (d_andV (d_isE rfl) fun _ => d_var rfl) ?_
        show PyData.bool (true && b) = .bool true
        rw [hb.mpr hz]
        rfl
theorem all_mk {l : PySem.W.OpenLaw} {w : World} {K : PySem.W.Frag} {h : Heap} {mg : Str → Option Value} {fa f0 f1 f2 f3 f4 f5 f6 f7 : Addr} (X : K.In h) (G : h.Ns mainGlobals mg) (hfa : mg "law" = some (.ref fa))
    {od0 an0 od1 an1 od2 an2 od3 an3 od4 an4 od5 an5 od6 an6 od7 an7 : Option Addr} {sl0 sl1 sl2 sl3 sl4 sl5 sl6 sl7 : Array (Option Value)} {oc0 kV0 dc0 pm0 cd0 ct0 oc1 kV1 dc1 pm1 cd1 ct1 oc2 kV2 dc2 pm2 cd2 ct2 oc3 kV3 dc3 pm3 cd3 ct3 oc4 kV4 dc4 pm4 cd4 ct4 oc5 kV5 dc5 pm5 cd5 ct5 oc6 kV6 dc6 pm6 cd6 ct6 oc7 kV7 dc7 pm7 cd7 ct7 : Value}
    (a0 : PySem.W.nsIn K mainGlobals "hull_of" = some (some (.ref f0))) (l0 : K.lookup f0 = some ⟨oc0, od0, .func (PySem.W.fnOf "hull_of" "hull_of" (defArgs s_hull_of) (defBody s_hull_of) (defScope s_hull_of) .none kV0 dc0 pm0 an0 cd0 ct0), sl0⟩) (c0 : PySem.W.codeIn K cd0 "hull_of" = true) (k0 : PySem.W.keepIn K (.ref f0) = true)
    (a1 : PySem.W.nsIn K mainGlobals "side_of" = some (some (.ref f1))) (l1 : K.lookup f1 = some ⟨oc1, od1, .func (PySem.W.fnOf "side_of" "side_of" (defArgs s_side_of) (defBody s_side_of) (defScope s_side_of) .none kV1 dc1 pm1 an1 cd1 ct1), sl1⟩) (c1 : PySem.W.codeIn K cd1 "side_of" = true) (k1 : PySem.W.keepIn K (.ref f1) = true)
    (a2 : PySem.W.nsIn K mainGlobals "chain_of" = some (some (.ref f2))) (l2 : K.lookup f2 = some ⟨oc2, od2, .func (PySem.W.fnOf "chain_of" "chain_of" (defArgs s_chain_of) (defBody s_chain_of) (defScope s_chain_of) .none kV2 dc2 pm2 an2 cd2 ct2), sl2⟩) (c2 : PySem.W.codeIn K cd2 "chain_of" = true) (k2 : PySem.W.keepIn K (.ref f2) = true)
    (a3 : PySem.W.nsIn K mainGlobals "_law_cell" = some (some (.ref f3))) (l3 : K.lookup f3 = some ⟨oc3, od3, .func (PySem.W.fnOf "_law_cell" "_law_cell" (defArgs s_law_cell) (defBody s_law_cell) (defScope s_law_cell) .none kV3 dc3 pm3 an3 cd3 ct3), sl3⟩) (c3 : PySem.W.codeIn K cd3 "_law_cell" = true) (k3 : PySem.W.keepIn K (.ref f3) = true)
    (a4 : PySem.W.nsIn K mainGlobals "_law_numbers" = some (some (.ref f4))) (l4 : K.lookup f4 = some ⟨oc4, od4, .func (PySem.W.fnOf "_law_numbers" "_law_numbers" (defArgs s_law_numbers) (defBody s_law_numbers) (defScope s_law_numbers) .none kV4 dc4 pm4 an4 cd4 ct4), sl4⟩) (c4 : PySem.W.codeIn K cd4 "_law_numbers" = true) (k4 : PySem.W.keepIn K (.ref f4) = true)
    (a5 : PySem.W.nsIn K mainGlobals "_law_corners" = some (some (.ref f5))) (l5 : K.lookup f5 = some ⟨oc5, od5, .func (PySem.W.fnOf "_law_corners" "_law_corners" (defArgs s_law_corners) (defBody s_law_corners) (defScope s_law_corners) .none kV5 dc5 pm5 an5 cd5 ct5), sl5⟩) (c5 : PySem.W.codeIn K cd5 "_law_corners" = true) (k5 : PySem.W.keepIn K (.ref f5) = true)
    (a6 : PySem.W.nsIn K mainGlobals "_law_side" = some (some (.ref f6))) (l6 : K.lookup f6 = some ⟨oc6, od6, .func (PySem.W.fnOf "_law_side" "_law_side" (defArgs s_law_side) (defBody s_law_side) (defScope s_law_side) .none kV6 dc6 pm6 an6 cd6 ct6), sl6⟩) (c6 : PySem.W.codeIn K cd6 "_law_side" = true) (k6 : PySem.W.keepIn K (.ref f6) = true)
    (a7 : PySem.W.nsIn K mainGlobals "law" = some (some (.ref f7))) (l7 : K.lookup f7 = some ⟨oc7, od7, .func (PySem.W.fnOf "law" "law" (defArgs s_law) (defBody s_law) (defScope s_law) .none kV7 dc7 pm7 an7 cd7 ct7), sl7⟩) (c7 : PySem.W.codeIn K cd7 "law" = true) (k7 : PySem.W.keepIn K (.ref f7) = true)
    (z0 : PySem.W.nsIn K mainGlobals "len" = some none)
    (z1 : PySem.W.nsIn K mainGlobals "abs" = some none)
    (z2 : PySem.W.nsIn K mainGlobals "int" = some none)
    (z3 : PySem.W.nsIn K mainGlobals "min" = some none)
    (z4 : PySem.W.nsIn K mainGlobals "range" = some none)
    (z5 : PySem.W.nsIn K mainGlobals "isinstance" = some none)
    (z6 : PySem.W.nsIn K mainGlobals "list" = some none)
    (z7 : PySem.W.nsIn K mainGlobals "set" = some none)
    (z8 : PySem.W.nsIn K mainGlobals "sorted" = some none)
    {CP : Addr} (uP : PySem.W.nsIn K mainGlobals "PortolanError" = some (some (.ref CP))) (bP : PySem.W.subIn K (.ref CP) (.type "BaseException") = some true) (tP : PySem.W.typeIn K (.ref CP) = some (.type "type")) (iP : PySem.W.isClsIn K CP = true)
    {CE0 : Addr} (uE0 : PySem.W.nsIn K mainGlobals "NoHalves" = some (some (.ref CE0)))
    (xE0 : PySem.W.excIn K CE0 [.type "ValueError", .type "Exception", .type "BaseException", .type "object"] "ValueError.__new__" = true) (kE0 : PySem.W.keepIn K (.ref CE0) = true) (bE0 : PySem.W.subIn K (.ref CE0) (.type "BaseException") = some true) (tE0 : PySem.W.typeIn K (.ref CE0) = some (.type "type")) (sE0 : PySem.W.subIn K (.ref CE0) (.ref CP) = some true)
    (exa0 : PySem.W.findIn K (.ref CE0) "__getattribute__" = some (some (.builtin "BaseException.__getattribute__"))) (exb0 : PySem.W.findIn K (.ref CE0) "__getattr__" = some none) (exc0 : PySem.W.hasDictIn K CE0 = true) (exd0 : PySem.W.findIn K (.ref CE0) "__class__" = some (some (.builtin "object.__class__")))
    (exe0 : PySem.W.specialIn K (.builtin "object.__class__") "__get__" = some (some (.builtin "getset_descriptor.__get__"))) (exf0 : PySem.W.takesIn K (.builtin "object.__class__") = some true) (exg0 : PySem.W.mroIn K CE0 (.type "object") = some true)
    : ∃ fd : FuncData, (∀ (s : Shared) (v : Value), BindsTo s fd ⟨[v], []⟩ [("script", v)]) ∧ ∀ base : Heap, K.In base → base.Ns mainGlobals mg → FnOk l.prog w K mg base CX0 4 fa fd ["script"] (spLaw K) := by
  have e := hfa.symm.trans (PySem.W.mg_of X G a7)
  cases e
  have F_hull_of := fun_mk (st := s_hull_of) l0 c0 k0
  have F_side_of := fun_mk (st := s_side_of) l1 c1 k1
  have F_chain_of := fun_mk (st := s_chain_of) l2 c2 k2
  have F_law_cell := fun_mk (st := s_law_cell) l3 c3 k3
  have F_law_numbers := fun_mk (st := s_law_numbers) l4 c4 k4
  have F_law_corners := fun_mk (st := s_law_corners) l5 c5 k5
  have F_law_side := fun_mk (st := s_law_side) l6 c6 k6
  have F_law := fun_mk (st := s_law) l7 c7 k7
  have b_hull_of := F_hull_of.binds (ps := ["points"]) fun _ _ _ _ _ _ us hl => match us, hl with | [_], _ => rfl
  have g_hull_of := PySem.W.mg_of X G a0
  have b_side_of := F_side_of.binds (ps := ["a", "b", "c"]) fun _ _ _ _ _ _ us hl => match us, hl with | [_, _, _], _ => rfl
  have g_side_of := PySem.W.mg_of X G a1
  have b_chain_of := F_chain_of.binds (ps := ["points"]) fun _ _ _ _ _ _ us hl => match us, hl with | [_], _ => rfl
  have g_chain_of := PySem.W.mg_of X G a2
  have b_law_cell := F_law_cell.binds (ps := ["script", "k"]) fun _ _ _ _ _ _ us hl => match us, hl with | [_, _], _ => rfl
  have g_law_cell := PySem.W.mg_of X G a3
  have b_law_numbers := F_law_numbers.binds (ps := ["script", "first", "most"]) fun _ _ _ _ _ _ us hl => match us, hl with | [_, _, _], _ => rfl
  have g_law_numbers := PySem.W.mg_of X G a4
  have b_law_corners := F_law_corners.binds (ps := ["script", "first", "most"]) fun _ _ _ _ _ _ us hl => match us, hl with | [_, _, _], _ => rfl
  have g_law_corners := PySem.W.mg_of X G a5
  have b_law_side := F_law_side.binds (ps := ["p", "q", "r"]) fun _ _ _ _ _ _ us hl => match us, hl with | [_, _, _], _ => rfl
  have g_law_side := PySem.W.mg_of X G a6
  have m_len := PySem.W.mg_none_of X G z0
  have m_abs := PySem.W.mg_none_of X G z1
  have m_int := PySem.W.mg_none_of X G z2
  have m_min := PySem.W.mg_none_of X G z3
  have m_range := PySem.W.mg_none_of X G z4
  have m_isinstance := PySem.W.mg_none_of X G z5
  have m_list := PySem.W.mg_none_of X G z6
  have m_set := PySem.W.mg_none_of X G z7
  have m_sorted := PySem.W.mg_none_of X G z8
  have T0 : Errs K mg "NoHalves" CE0 CP := ⟨PySem.W.mg_of X G uE0, PySem.W.mg_of X G uP, xE0, kE0, bE0, tE0, bP, tP, iP, sE0, ⟨exa0, exb0, bE0, exc0, exd0, exe0, exf0, exg0⟩⟩
  exact ⟨PySem.W.fnOf "law" "law" (defArgs s_law) (defBody s_law) (defScope s_law) .none kV7 dc7 pm7 an7 cd7 ct7, fun s v => .of_eq rfl, fun base _ _ => ok_law F_law T0 F_hull_of F_side_of F_chain_of F_law_cell F_law_numbers F_law_corners F_law_side b_hull_of b_side_of b_chain_of b_law_cell b_law_numbers b_law_corners b_law_side g_hull_of g_side_of g_chain_of g_law_cell g_law_numbers g_law_corners g_law_side m_len m_abs m_int m_min m_range m_isinstance m_list m_set m_sorted⟩
end
end K67
open PySem PySem.W PyProof.Rows
set_option maxHeartbeats 0 in
theorem PySem.Challenge.cw_portolan_k67_hulls_of_points_holds : PySem.Challenge.rw_portolan_k67_hulls_of_points.Holds := by
  w_on; o_law; k_head; (case hw => w_witness2)
  k_fill
  refine L2.walk_of (l := PySem.Challenge.rw_portolan_k67_hulls_of_points) (n := 63) (k := 4) (x := "script") (CX := fun _ => L2.CX0) (sp := fun w => K67.spLaw _) rfl (by decide) rfl ⟨rfl, by decide, by decide⟩ (fun w h Y => PySem.W.kIn_of Y) ?F (fun _ _ a ns hl _ hS => ⟨a, ns, rfl, hS, hl, fun _ => rfl⟩) (fun _ _ _ _ _ h => h)
  case F =>
    intro w mg fa h KX G hmg
    refine' K67.all_mk KX G hmg ?a0 ?l0 ?c0 ?k0 ?a1 ?l1 ?c1 ?k1 ?a2 ?l2 ?c2 ?k2 ?a3 ?l3 ?c3 ?k3 ?a4 ?l4 ?c4 ?k4 ?a5 ?l5 ?c5 ?k5 ?a6 ?l6 ?c6 ?k6 ?a7 ?l7 ?c7 ?k7 ?z0 ?z1 ?z2 ?z3 ?z4 ?z5 ?z6 ?z7 ?z8 ?uP ?bP ?tP ?iP ?uE0 ?xE0 ?kE0 ?bE0 ?tE0 ?sE0 ?exa0 ?exb0 ?exc0 ?exd0 ?exe0 ?exf0 ?exg0
    (case a0 => k_is); (case l0 => k_is); (case c0 => k_is); (case k0 => k_is); (case a1 => k_is); (case l1 => k_is); (case c1 => k_is); (case k1 => k_is); (case a2 => k_is); (case l2 => k_is); (case c2 => k_is); (case k2 => k_is); (case a3 => k_is); (case l3 => k_is); (case c3 => k_is); (case k3 => k_is); (case a4 => k_is); (case l4 => k_is); (case c4 => k_is); (case k4 => k_is); (case a5 => k_is); (case l5 => k_is); (case c5 => k_is); (case k5 => k_is); (case a6 => k_is); (case l6 => k_is); (case c6 => k_is); (case k6 => k_is); (case a7 => k_is); (case l7 => k_is); (case c7 => k_is); (case k7 => k_is); (case z0 => k_is); (case z1 => k_is); (case z2 => k_is); (case z3 => k_is); (case z4 => k_is); (case z5 => k_is); (case z6 => k_is); (case z7 => k_is); (case z8 => k_is); (case uP => k_is); (case bP => k_is); (case tP => k_is); (case iP => k_is); (case uE0 => k_is); (case xE0 => k_exc); (case kE0 => k_is); (case bE0 => k_is); (case tE0 => k_is); (case sE0 => k_is); (case exa0 => k_is); (case exb0 => k_is); (case exc0 => k_is); (case exd0 => k_is); (case exe0 => k_is); (case exf0 => k_is); (case exg0 => k_is)

