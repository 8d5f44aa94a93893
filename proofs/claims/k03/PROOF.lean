import PyProof.Rows.All
import Wide.All
import OpenK.AllK
import Wide.FinOn
import HandS.ForMost
import HandS.More
import HandS.FStr
import HandS.Evl
import HandS.Wide
import HandS.WideBits
import HandS.Style
import HandS.IsInst
import PyProof.P3Eq
import HandS.Gcd
import PyProof.MaxThree
import Flt.RightSqrt
import KE.KMathG
import HandS.Iter
import HandS.MapJoin
import HandS.MapObj
import KE.KRevIter
import PyProof.JoinWalk
import PyProof.CollectWalk
import HandS.Codes
import HandS.StrMore
import HandS.Text
import PySem.Challenge.RW_portolan_k03_decimal_texts
set_option Elab.async false
set_option linter.all false
set_option maxRecDepth 100000
set_option maxHeartbeats 4000000
/-! Own rules over the layer: what a reading evaluates to, for texts that change nothing. -/
namespace Cm
open PySem PySem.Spec PyProof.Rows L2 Evl

theorem ex_app {H H' : Hp} (e : Ex H H') {p : Addr} {o : HO} (h : H p = some o) : H' p = some o := e p o h
/-- a new tuple comes back -/
def RetU (xs : List V) (H : Hp) (Q : VK) : Prop := ∀ p H2, H p = none → Ex H H2 → H2 p = some (.tup xs) → Q (.ref p) H2
def SpU (sp : Sp) (vs : List V) (H : Hp) (xs : List V) : Prop := ∀ H1, Ex H H1 → ∀ Q : VK, (∀ p H2, H1 p = none → Ex H1 H2 → H2 p = some (.tup xs) → Q (.ref p) H2) → ∀ E : XK, sp vs H1 Q E
section
variable {K : PySem.W.Frag} {σ : L2.St} {H H' : Hp} {ta tb tc te tx : TE} {t u : TT} {x y z v w : V} {r r' : R2} {D : Ends} {tz : TS}
/-- the slots written out anew -/
theorem st_is {σ' : L2.St} {ts : TS} (e : σ = σ') (h : ts D σ' H) : ts D σ H := by
  rw [e]
  exact h
theorem RetU.go {xs : List V} {Q : VK} (k : RetU xs H Q) (e : Ex H H') {p : Addr} {H2 : Hp} (hp : H' p = none) (e2 : Ex H' H2) (h : H2 p = some (.tup xs)) : Q (.ref p) H2 := k p H2 (fresh_back e hp) (e.trans e2) h
theorem eu_call {sp : Sp} {dvs vs xs : List V} {E : XK} {ta : TA} (h : EvA ta σ H vs) (hs : SpU sp (vs ++ dvs) H xs) : EvU (tCall sp dvs E ta) σ H xs := fun H1 e Q q =>
  h H1 e _ fun H2 e2 => hs H2 (e.trans e2) Q (fun p H3 hp e3 h3 => q p H3 (fresh_back e2 hp) (e2.trans e3) h3) E
theorem eu_is {xs ys : List V} (h : EvU te σ H xs) (e : xs = ys) : EvU te σ H ys := by
  rw [← e]
  exact h
/-- a call whose first argument is a new tuple -/
theorem ev_callU {sp : Sp} {dvs vs xs : List V} {E : XK} {tr : TA} (h1 : EvU te σ H xs) (h2 : EvA tr σ H vs) (hs : ∀ p H1, Ex H H1 → H1 p = some (.tup xs) → SpV sp (.ref p :: vs ++ dvs) H1 z) : Ev (tCall sp dvs E (tCons te tr)) σ H z := fun H1 e Q q =>
  h1 H1 e _ fun p H2 np e2 hp => h2 H2 (e.trans e2) _ fun H3 e3 => hs p H3 ((e.trans e2).trans e3) (e3 _ _ hp) H3 (Ex.refl H3) Q (fun H4 e4 => q H4 ((e2.trans e3).trans e4)) E
/-- .. whose second argument is a new tuple -/
theorem ev_callVU {sp : Sp} {dvs vs xs : List V} {E : XK} {tr : TA} (h0 : Ev ta σ H x) (h1 : EvU te σ H xs) (h2 : EvA tr σ H vs) (hs : ∀ p H1, Ex H H1 → H1 p = some (.tup xs) → SpV sp (x :: .ref p :: vs ++ dvs) H1 z) : Ev (tCall sp dvs E (tCons ta (tCons te tr))) σ H z := fun H1 e Q q =>
  h0 H1 e _ fun H2 e2 => h1 H2 (e.trans e2) _ fun p H3 np e3 hp => h2 H3 ((e.trans e2).trans e3) _ fun H4 e4 => hs p H4 (((e.trans e2).trans e3).trans e4) (e4 _ _ hp) H4 (Ex.refl H4) Q (fun H5 e5 => q H5 (((e2.trans e3).trans e4).trans e5)) E
theorem ev_chain {b c : Bool} (ha : Ev ta σ H x) (hb : Ev tb σ H y) (hc : Ev tc σ H w) (h1 : RV r x y H (.bl b)) (h2 : RV r' y w H (.bl c)) : Ev (tChain r r' ta tb tc) σ H (.bl (b && c)) := fun H1 e Q q =>
  ha H1 e _ fun H2 e2 => hb H2 (e.trans e2) _ fun H3 e3 => h1 H3 ((e.trans e2).trans e3) _ fun H4 e4 => ⟨b, rfl, by
    cases b with
    | true =>
      show tc σ H4 _
      exact hc H4 (((e.trans e2).trans e3).trans e4) _ fun H5 e5 => h2 H5 ((((e.trans e2).trans e3).trans e4).trans e5) Q fun H6 e6 => q H6 ((((e2.trans e3).trans e4).trans e5).trans e6)
    | false =>
      show Q (.bl false) H4
      exact q H4 ((e2.trans e3).trans e4)⟩
theorem rv_shl {i : Int} {k : Nat} (h : CShl i (k : Int)) : RV (fun x y H Q => ∃ (i : Int) (k : Nat), x = .int i ∧ y = .int (k : Int) ∧ CShl i (k : Int) ∧ Q (.int (i * 2 ^ k)) H) (.int i) (.int (k : Int)) H (.int (i * 2 ^ k)) :=
  fun H1 _ _ q => ⟨i, k, rfl, rfl, h, q H1 (Ex.refl H1)⟩
theorem rv_shr {i : Int} {k : Nat} : RV (fun x y H Q => ∃ (i : Int) (k : Nat), x = .int i ∧ y = .int (k : Int) ∧ Q (.int (i / 2 ^ k)) H) (.int i) (.int (k : Int)) H (.int (i / 2 ^ k)) :=
  fun H1 _ _ q => ⟨i, k, rfl, rfl, q H1 (Ex.refl H1)⟩
theorem rv_isB {a b : Bool} : RV rIsB (.bl a) (.bl b) H (.bl (decide (a = b))) := fun H1 _ _ q => ⟨a, b, rfl, rfl, q H1 (Ex.refl H1)⟩
theorem rv_notB {a b : Bool} : RV rNotB (.bl a) (.bl b) H (.bl (!decide (a = b))) := fun H1 _ _ q => ⟨a, b, rfl, rfl, q H1 (Ex.refl H1)⟩
theorem rv_isN : RV (fun x y H Q => y = .non ∧ Q (.bl (decide (x = .non))) H) x .non H (.bl (decide (x = .non))) := fun H1 _ _ q => ⟨rfl, q H1 (Ex.refl H1)⟩
theorem rv_notN : RV (fun x y H Q => y = .non ∧ Q (.bl (!decide (x = .non))) H) x .non H (.bl (!decide (x = .non))) := fun H1 _ _ q => ⟨rfl, q H1 (Ex.refl H1)⟩
theorem rc_abs {i : Int} : RC (fun xs H Q => ∃ i, xs = [.int i] ∧ Q (.int (if i < 0 then -i else i)) H) [.int i] H (.int (i.natAbs : Int)) := fun H1 _ Q q => ⟨i, rfl, by
  have e : (if i < 0 then -i else i) = (i.natAbs : Int) := by split <;> omega
  rw [e]
  exact q H1 (Ex.refl H1)⟩
theorem rc_max2 {i j : Int} : RC (fun xs H Q => ∃ i j, xs = [.int i, .int j] ∧ Q (.int (if j > i then j else i)) H) [.int i, .int j] H (.int (max i j)) := fun H1 _ Q q => ⟨i, j, rfl, by
  have e : (if j > i then j else i) = max i j := by split <;> omega
  rw [e]
  exact q H1 (Ex.refl H1)⟩
theorem rc_min2 {i j : Int} : RC (fun xs H Q => ∃ i j, xs = [.int i, .int j] ∧ Q (.int (if j < i then j else i)) H) [.int i, .int j] H (.int (min i j)) := fun H1 _ Q q => ⟨i, j, rfl, by
  have e : (if j < i then j else i) = min i j := by split <;> omega
  rw [e]
  exact q H1 (Ex.refl H1)⟩
theorem rc_intB {k : Bool} : RC (fun xs H Q => (∃ i, xs = [.int i] ∧ Q (.int i) H) ∨ ∃ k, xs = [.bl k] ∧ Q (.int (if k then 1 else 0)) H) [.bl k] H (.int (if k then 1 else 0)) := fun H1 _ Q q => Or.inr ⟨k, rfl, q H1 (Ex.refl H1)⟩
theorem rc_intI {i : Int} : RC (fun xs H Q => (∃ i, xs = [.int i] ∧ Q (.int i) H) ∨ ∃ k, xs = [.bl k] ∧ Q (.int (if k then 1 else 0)) H) [.int i] H (.int i) := fun H1 _ Q q => Or.inl ⟨i, rfl, q H1 (Ex.refl H1)⟩
theorem rc_isiT {p : Addr} {xs : List V} (h : H p = some (.tup xs)) : RC (rIsi K) [.ref p, .ty "tuple"] H (.bl true) := fun H1 e _ q =>
  ⟨.ref p, .ty "tuple", .type "tuple", .type "tuple", true, rfl, .ty _, .base (.tup (e _ _ h)), kit_ty (by decide +kernel), q H1 (Ex.refl H1)⟩
theorem rc_isiS {x : Str} : RC (rIsi K) [.str x, .ty "str"] H (.bl true) := fun H1 e _ q =>
  ⟨.str x, .ty "str", .type "str", .type "str", true, rfl, .ty _, .base (.str x), kit_ty (by decide +kernel), q H1 (Ex.refl H1)⟩
theorem rc_lenL {p : Addr} {xs : List V} (h : SqL K H p xs) : RC (fun xs H Q => ∃ x n, xs = [x] ∧ LenV K x H n ∧ Q (.int n) H) [.ref p] H (.int (xs.length : Int)) := fun H1 e _ q =>
  ⟨.ref p, (xs.length : Nat), rfl, .inl ⟨_, ex_l e h, rfl⟩, q H1 (Ex.refl H1)⟩
/-! ### data -/
mutual
theorem dp_mono (e : Ex H H') : ∀ (d : PyData) (v : V), Dp K H v d → Dp K H' v d
  | _, _, .non => .non
  | _, _, .bl b => .bl b
  | _, _, .int i => .int i
  | _, _, .str x => .str x
  | _, _, .lst h a => .lst (ex_l e h) (dps_mono e _ _ a)
  | _, _, .tup h a => .tup (ex_t e h) (dps_mono e _ _ a)
theorem dps_mono (e : Ex H H') : ∀ (ds : List PyData) (vs : List V), DpAll K H vs ds → DpAll K H' vs ds
  | _, _, .nil => .nil
  | _, _, .cons h t => .cons (dp_mono e _ _ h) (dps_mono e _ _ t)
end
theorem dpInts : ∀ (is : List Int), DpAll K H (is.map V.int) (is.map PyData.int)
  | [] => .nil
  | i :: r => .cons (.int i) (dpInts r)
theorem eqvS {d : PyData} (h : SeqAt.shaped d = true) : PyData.eqv d d = true := by
  unfold SeqAt.shaped at h
  rw [Bool.and_eq_true] at h
  exact PySem.SeqAt.eqv_refl d h.1
/-- the same data on both sides -/
theorem rv_neS {d : PyData} (hx : Dp K H x d) (hy : Dp K H y d) (hs : SeqAt.shaped d = true) : RV (rNeD K) x y H (.bl false) := fun H1 e Q q =>
  ⟨d, d, dp_mono e _ _ hx, dp_mono e _ _ hy, hs, hs, by
    rw [eqvS hs]
    exact q H1 (Ex.refl H1)⟩
theorem rv_eqS {d : PyData} (hx : Dp K H x d) (hy : Dp K H y d) (hs : SeqAt.shaped d = true) : RV (rEqD K) x y H (.bl true) := fun H1 e Q q =>
  ⟨d, d, dp_mono e _ _ hx, dp_mono e _ _ hy, hs, hs, by
    rw [eqvS hs]
    exact q H1 (Ex.refl H1)⟩
/-- a pair of ints -/
theorem dp2 {p : Addr} {i j : Int} (h : SqT K H p [.int i, .int j]) : Dp K H (.ref p) (.tuple [.int i, .int j]) := .tup h (.cons (.int i) (.cons (.int j) .nil))
theorem sh2 {i j : Int} : SeqAt.shaped (.tuple [.int i, .int j]) = true := rfl
end
/-! ### numbers -/
/-- a bound that omega does not look into -/
def Bd (k : Nat) (x : Int) : Prop := x.natAbs < 2 ^ k
theorem pow_pos (n : Nat) : (0 : Int) < 2 ^ n := PySem.W.kbt_pos n
theorem pow_abs (n : Nat) : ((2 : Int) ^ n).natAbs = 2 ^ n := by
  rw [Int.natAbs_pow]
  rfl
theorem ab_mono {x : Int} {a b : Nat} (h : x.natAbs < 2 ^ a) (hab : a ≤ b) : x.natAbs < 2 ^ b := Nat.lt_of_lt_of_le h (Nat.pow_le_pow_right (by decide) hab)
theorem ab_pow {n k : Nat} (h : n < k) : ((2 : Int) ^ n).natAbs < 2 ^ k := by
  rw [pow_abs]
  exact Nat.pow_lt_pow_right (by decide) h
theorem ab_shl {x : Int} {a n : Nat} (h : x.natAbs < 2 ^ a) : (x * 2 ^ n).natAbs < 2 ^ (a + n) := by
  rw [Int.natAbs_mul, pow_abs, Nat.pow_add]
  exact Nat.mul_lt_mul_of_pos_right h (Nat.two_pow_pos n)
theorem ab_mul {x y : Int} {a b : Nat} (hx : x.natAbs < 2 ^ a) (hy : y.natAbs < 2 ^ b) : (x * y).natAbs < 2 ^ (a + b) := wide_lt hx hy
theorem ab_add {x y : Int} {a : Nat} (hx : x.natAbs < 2 ^ a) (hy : y.natAbs < 2 ^ a) : (x + y).natAbs < 2 ^ (a + 1) := by
  have e : 2 ^ (a + 1) = 2 ^ a + 2 ^ a := by rw [Nat.pow_succ]; omega
  omega
theorem ab_neg {x : Int} {a : Nat} (hx : x.natAbs < 2 ^ a) : (-x).natAbs < 2 ^ a := by omega
theorem ab_sm {x : Int} {a c : Nat} (h : x.natAbs ≤ c) (hc : c < 2 ^ a) : x.natAbs < 2 ^ a := Nat.lt_of_le_of_lt h hc
theorem fl_le {s q : Int} (hq : 0 < q) : s / q * q ≤ s := Int.ediv_mul_le s (by omega)
theorem fl_lt {s q : Int} (hq : 0 < q) : s < (s / q + 1) * q := by
  rw [Int.add_mul, Int.one_mul]
  exact Int.lt_ediv_add_one_mul_self s hq |> fun h => by rw [Int.add_mul, Int.one_mul] at h; exact h
theorem cl_ge {s q : Int} (hq : 0 < q) : s ≤ -(-s / q) * q := by
  have h := fl_le (s := -s) hq
  rw [Int.neg_mul]
  omega
theorem cl_lt {s q : Int} (hq : 0 < q) : (-(-s / q) - 1) * q < s := by
  have h := fl_lt (s := -s) hq
  rw [Int.sub_mul, Int.one_mul, Int.neg_mul]
  rw [Int.add_mul, Int.one_mul] at h
  omega
theorem ab_div {x q : Int} {a : Nat} (hq : 0 < q) (h : x.natAbs < 2 ^ a) : (x / q).natAbs < 2 ^ a := by
  have h1 : (x / q).natAbs ≤ x.natAbs := by
    by_cases hx : 0 ≤ x
    · have := Int.ediv_le_self q hx
      have := Int.ediv_nonneg hx (Int.le_of_lt hq)
      omega
    · have h2 : x / q < 0 := Int.ediv_neg_of_neg_of_pos (by omega) hq
      have h3 := fl_lt (s := x) hq
      have h4 : (x / q + 1) * q ≤ (x / q + 1) := by
        have h5 : (x / q + 1) * (q - 1) ≤ 0 := Int.mul_nonpos_of_nonpos_of_nonneg (by omega) (by omega)
        rw [Int.mul_sub, Int.mul_one] at h5
        omega
      omega
  omega
theorem mul_le_r {a b q : Int} (h : a ≤ b) (hq : 0 < q) : a * q ≤ b * q := Int.mul_le_mul_of_nonneg_right h (Int.le_of_lt hq)
/-- the ceiling, by one more where the floor is not exact -/
theorem ceil_eq {s q : Int} (hq : 0 < q) : -(-s / q) = s / q + (if (!decide (s / q * q = s)) = true then 1 else 0) := by
  have a1 := fl_le (s := s) hq
  have a2 := fl_lt (s := s) hq
  have b1 := cl_ge (s := s) hq
  have b2 := cl_lt (s := s) hq
  have lt_of : ∀ {u v : Int}, u * q < v * q → u < v := fun h => Int.lt_of_mul_lt_mul_right h (Int.le_of_lt hq)
  have c1 : -(-s / q) - 1 < s / q + 1 := lt_of (Int.lt_trans b2 a2)
  by_cases e : s / q * q = s
  · rw [decide_eq_true e]
    have c2 : -(-s / q) - 1 < s / q := lt_of (by rw [e]; exact b2)
    have c3 : s / q - 1 < -(-s / q) := lt_of (Int.lt_of_lt_of_le (by rw [Int.sub_mul, Int.one_mul, e]; omega) b1)
    show _ = s / q + 0
    omega
  · rw [decide_eq_false e]
    have c3 : s / q < -(-s / q) := lt_of (by omega)
    show _ = s / q + 1
    omega
end Cm

/-! Own rules: min and max of four ints, isqrt, // by any divisor. -/
namespace Mi
open PySem PySem.Spec PyProof.Rows L2 Evl Cm
theorem args_min4 (a b c d : Value) : argsOk "min" ⟨[a, b, c, d], []⟩ := by unfold argsOk; kernel_rfl
theorem args_max4 (a b c d : Value) : argsOk "max" ⟨[a, b, c, d], []⟩ := by unfold argsOk; kernel_rfl
section
variable {prog : Program} {w : World} {A : Around} {E : Value → Shared → Prop} {s : Shared}
theorem call_min_four {a b c d : Value} {Q : Value → Shared → Prop}
    (h : wpAny (model prog w) A.in1 (pyIter (.ref s.heap.objs.size)) (fun it s₂ => ∃ I fp wr n P St bt, it = .ref I ∧ Walks prog w A.in1 I fp wr n P St ∧ St 0 s₂.heap ∧ (∀ b ∈ fp, b < s₂.heap.objs.size) ∧ 0 < n ∧ CmpOf prog w A.in1 .Lt P bt ∧
      ∀ v h' tk, P (argBest bt (n - 1)) v → (∀ b o, b ∉ wr → s₂.heap.get? b = some o → h'.get? b = some o) → Q v { s₂ with heap := h', toks := tk }) E
      { s with heap := s.heap.push { cls := .type "tuple", data := .seq #[a, b, c, d] } }) :
    wpAny (model prog w) A (call (.builtin "min") [a, b, c, d]) Q E s := by
  have hname : (toString "min" ++ toString ".loop" : String) = "min.loop" := by decide
  refine call_function_tree F.kind_min F.plain_min F.entry_min (args_min4 _ _ _ _) ?_
  show wpAny _ A.in1 (Builtin.Builtins.bindParams "min" ["key", "default"] 0 ⟨[], []⟩ >>= _) _ _ s
  refine wpAny_bind (wpAny_of_eq (show Builtin.Builtins.bindParams "min" ["key", "default"] 0 ⟨[], []⟩ = pure [none, none] from rfl) ?_)
  show wpAny _ A.in1 (newTuple [a, b, c, d] >>= _) _ _ s
  refine wpAny_bind (wpAny_newObj_type ?_)
  refine wpAny_bind (wpAny_mono h (fun it s₂ h₂ => ?_) fun _ _ e => e)
  obtain ⟨I, fp, wr, n, P, St, bt, rfl, W, hst, hfp, hn, hcmp, hQ⟩ := h₂
  refine wpAny_bind (wpAny_newObj_type ?_)
  have hSf : s₂.heap.objs.size ∉ fp := fun hm => Nat.lt_irrefl _ (hfp _ hm)
  rw [hname]
  refine wpAny_pure ⟨plainId_quiet F.plain_min_loop _, codeAny_min_loop_first W bt hcmp s₂.heap.objs.size hSf hn (W.frame _ _ _ hst fun b _ o e => Heap.get?_push_of_some _ e) (Heap.get?_push_size _ rfl) fun v h' tk hP hk => ?_⟩
  exact hQ v h' tk hP fun b o hbw e => hk b o hbw (Nat.ne_of_lt (Heap.lt_size e)) (Heap.get?_push_of_some _ e)
theorem call_max_four {a b c d : Value} {Q : Value → Shared → Prop}
    (h : wpAny (model prog w) A.in1 (pyIter (.ref s.heap.objs.size)) (fun it s₂ => ∃ I fp wr n P St bt, it = .ref I ∧ Walks prog w A.in1 I fp wr n P St ∧ St 0 s₂.heap ∧ (∀ b ∈ fp, b < s₂.heap.objs.size) ∧ 0 < n ∧ CmpOf prog w A.in1 .Gt P bt ∧
      ∀ v h' tk, P (argBest bt (n - 1)) v → (∀ b o, b ∉ wr → s₂.heap.get? b = some o → h'.get? b = some o) → Q v { s₂ with heap := h', toks := tk }) E
      { s with heap := s.heap.push { cls := .type "tuple", data := .seq #[a, b, c, d] } }) :
    wpAny (model prog w) A (call (.builtin "max") [a, b, c, d]) Q E s := by
  have hname : (toString "max" ++ toString ".loop" : String) = "max.loop" := by decide
  refine call_function_tree F.kind_max F.plain_max F.entry_max (args_max4 _ _ _ _) ?_
  show wpAny _ A.in1 (Builtin.Builtins.bindParams "max" ["key", "default"] 0 ⟨[], []⟩ >>= _) _ _ s
  refine wpAny_bind (wpAny_of_eq (show Builtin.Builtins.bindParams "max" ["key", "default"] 0 ⟨[], []⟩ = pure [none, none] from rfl) ?_)
  show wpAny _ A.in1 (newTuple [a, b, c, d] >>= _) _ _ s
  refine wpAny_bind (wpAny_newObj_type ?_)
  refine wpAny_bind (wpAny_mono h (fun it s₂ h₂ => ?_) fun _ _ e => e)
  obtain ⟨I, fp, wr, n, P, St, bt, rfl, W, hst, hfp, hn, hcmp, hQ⟩ := h₂
  refine wpAny_bind (wpAny_newObj_type ?_)
  have hSf : s₂.heap.objs.size ∉ fp := fun hm => Nat.lt_irrefl _ (hfp _ hm)
  rw [hname]
  refine wpAny_pure ⟨plainId_quiet F.plain_max_loop _, codeAny_max_loop_first W bt hcmp s₂.heap.objs.size hSf hn (W.frame _ _ _ hst fun b _ o e => Heap.get?_push_of_some _ e) (Heap.get?_push_size _ rfl) fun v h' tk hP hk => ?_⟩
  exact hQ v h' tk hP fun b o hbw e => hk b o hbw (Nat.ne_of_lt (Heap.lt_size e)) (Heap.get?_push_of_some _ e)
theorem min4 {a b c d : Int} {t u x y : Tok} {Q : Value → Shared → Prop} (hh : A.handled = none)
    (h : ∀ h' tk t', (∀ z o, s.heap.get? z = some o → h'.get? z = some o) → Q (.int (min (min a b) (min c d)) t') { s with heap := h', toks := tk }) :
    wpAny (model prog w) A (call (.builtin "min") [.int a t, .int b u, .int c x, .int d y]) Q E s := by
  have hT : (s.heap.push { cls := .type "tuple", data := .seq #[.int a t, .int b u, .int c x, .int d y] }).IsTuple s.heap.objs.size (intItems #[(a, t), (b, u), (c, x), (d, y)]) := ⟨_, Heap.get?_push_size _ rfl, rfl, 0, by simp [intItems]⟩
  refine call_min_four (wpAny_pyIter_tuple hT ?_)
  have hsz : (s.heap.push { cls := .type "tuple", data := .seq #[.int a t, .int b u, .int c x, .int d y] }).objs.size = s.heap.objs.size + 1 := Heap.size_push ..
  refine ⟨_, [_, s.heap.objs.size], [_], _, _, _, _, rfl, Walks.tuple (A := A.in1) hh _ s.heap.objs.size (by rw [hsz]; exact Nat.ne_of_lt (Nat.lt_succ_self _)) (intItems #[(a, t), (b, u), (c, x), (d, y)]),
    ⟨⟨_, Heap.get?_push_size _ rfl, rfl, rfl⟩, hT.push _⟩, fun z hz => ?_, by simp [intItems], CmpOf.ints_lt (numAt #[(a, t), (b, u), (c, x), (d, y)]) (fun _ _ => intItems_at), fun v h' tk hP hk => ?_⟩
  · show z < ((s.heap.push _).push _).objs.size
    rw [Heap.size_push, hsz]
    rcases List.mem_cons.mp hz with rfl | hz
    · rw [hsz]; exact Nat.lt_succ_self _
    · rcases List.mem_cons.mp hz with rfl | hz
      · exact Nat.lt_succ_of_lt (Nat.lt_succ_self _)
      · cases hz
  · have hold : ∀ z o, s.heap.get? z = some o → h'.get? z = some o := fun z o e => by
      refine hk z o (fun hm => ?_) (Heap.get?_push_of_some _ (Heap.get?_push_of_some _ e))
      rcases List.mem_cons.mp hm with e1 | hm
      · have := Heap.lt_size e; rw [e1, hsz] at this; exact Nat.lt_irrefl _ (Nat.lt_of_succ_lt this)
      · cases hm
    have hs4 : (intItems #[(a, t), (b, u), (c, x), (d, y)]).size - 1 = 3 := by simp [intItems]
    rw [hs4] at hP
    obtain ⟨t', rfl⟩ := intItems_at hP
    obtain ⟨h1, h2⟩ := argBest_lt (numAt #[(a, t), (b, u), (c, x), (d, y)]) 3
    have n0 : numAt #[(a, t), (b, u), (c, x), (d, y)] 0 = a := rfl
    have n1 : numAt #[(a, t), (b, u), (c, x), (d, y)] 1 = b := rfl
    have n2 : numAt #[(a, t), (b, u), (c, x), (d, y)] 2 = c := rfl
    have n3 : numAt #[(a, t), (b, u), (c, x), (d, y)] 3 = d := rfl
    have m0 := h2 0 (by omega)
    have m1 := h2 1 (by omega)
    have m2 := h2 2 (by omega)
    have m3 := h2 3 (by omega)
    rw [n0] at m0
    rw [n1] at m1
    rw [n2] at m2
    rw [n3] at m3
    generalize hB : argBest (fun i j => decide (numAt #[(a, t), (b, u), (c, x), (d, y)] i < numAt #[(a, t), (b, u), (c, x), (d, y)] j)) 3 = B at *
    have hv : numAt #[(a, t), (b, u), (c, x), (d, y)] B = min (min a b) (min c d) := by
      have h4 : B = 0 ∨ B = 1 ∨ B = 2 ∨ B = 3 := by omega
      rcases h4 with z | z | z | z
      · rw [z, n0] at m0 m1 m2 m3 ⊢; omega
      · rw [z, n1] at m0 m1 m2 m3 ⊢; omega
      · rw [z, n2] at m0 m1 m2 m3 ⊢; omega
      · rw [z, n3] at m0 m1 m2 m3 ⊢; omega
    rw [hv]
    exact h h' tk t' hold
theorem max4 {a b c d : Int} {t u x y : Tok} {Q : Value → Shared → Prop} (hh : A.handled = none)
    (h : ∀ h' tk t', (∀ z o, s.heap.get? z = some o → h'.get? z = some o) → Q (.int (max (max a b) (max c d)) t') { s with heap := h', toks := tk }) :
    wpAny (model prog w) A (call (.builtin "max") [.int a t, .int b u, .int c x, .int d y]) Q E s := by
  have hT : (s.heap.push { cls := .type "tuple", data := .seq #[.int a t, .int b u, .int c x, .int d y] }).IsTuple s.heap.objs.size (intItems #[(a, t), (b, u), (c, x), (d, y)]) := ⟨_, Heap.get?_push_size _ rfl, rfl, 0, by simp [intItems]⟩
  refine call_max_four (wpAny_pyIter_tuple hT ?_)
  have hsz : (s.heap.push { cls := .type "tuple", data := .seq #[.int a t, .int b u, .int c x, .int d y] }).objs.size = s.heap.objs.size + 1 := Heap.size_push ..
  refine ⟨_, [_, s.heap.objs.size], [_], _, _, _, _, rfl, Walks.tuple (A := A.in1) hh _ s.heap.objs.size (by rw [hsz]; exact Nat.ne_of_lt (Nat.lt_succ_self _)) (intItems #[(a, t), (b, u), (c, x), (d, y)]),
    ⟨⟨_, Heap.get?_push_size _ rfl, rfl, rfl⟩, hT.push _⟩, fun z hz => ?_, by simp [intItems], CmpOf.ints_gt (numAt #[(a, t), (b, u), (c, x), (d, y)]) (fun _ _ => intItems_at), fun v h' tk hP hk => ?_⟩
  · show z < ((s.heap.push _).push _).objs.size
    rw [Heap.size_push, hsz]
    rcases List.mem_cons.mp hz with rfl | hz
    · rw [hsz]; exact Nat.lt_succ_self _
    · rcases List.mem_cons.mp hz with rfl | hz
      · exact Nat.lt_succ_of_lt (Nat.lt_succ_self _)
      · cases hz
  · have hold : ∀ z o, s.heap.get? z = some o → h'.get? z = some o := fun z o e => by
      refine hk z o (fun hm => ?_) (Heap.get?_push_of_some _ (Heap.get?_push_of_some _ e))
      rcases List.mem_cons.mp hm with e1 | hm
      · have := Heap.lt_size e; rw [e1, hsz] at this; exact Nat.lt_irrefl _ (Nat.lt_of_succ_lt this)
      · cases hm
    have hs4 : (intItems #[(a, t), (b, u), (c, x), (d, y)]).size - 1 = 3 := by simp [intItems]
    rw [hs4] at hP
    obtain ⟨t', rfl⟩ := intItems_at hP
    obtain ⟨h1, h2⟩ := argBest_gt (numAt #[(a, t), (b, u), (c, x), (d, y)]) 3
    have n0 : numAt #[(a, t), (b, u), (c, x), (d, y)] 0 = a := rfl
    have n1 : numAt #[(a, t), (b, u), (c, x), (d, y)] 1 = b := rfl
    have n2 : numAt #[(a, t), (b, u), (c, x), (d, y)] 2 = c := rfl
    have n3 : numAt #[(a, t), (b, u), (c, x), (d, y)] 3 = d := rfl
    have m0 := h2 0 (by omega)
    have m1 := h2 1 (by omega)
    have m2 := h2 2 (by omega)
    have m3 := h2 3 (by omega)
    rw [n0] at m0
    rw [n1] at m1
    rw [n2] at m2
    rw [n3] at m3
    generalize hB : argBest (fun i j => decide (numAt #[(a, t), (b, u), (c, x), (d, y)] i > numAt #[(a, t), (b, u), (c, x), (d, y)] j)) 3 = B at *
    have hv : numAt #[(a, t), (b, u), (c, x), (d, y)] B = max (max a b) (max c d) := by
      have h4 : B = 0 ∨ B = 1 ∨ B = 2 ∨ B = 3 := by omega
      rcases h4 with z | z | z | z
      · rw [z, n0] at m0 m1 m2 m3 ⊢; omega
      · rw [z, n1] at m0 m1 m2 m3 ⊢; omega
      · rw [z, n2] at m0 m1 m2 m3 ⊢; omega
      · rw [z, n3] at m0 m1 m2 m3 ⊢; omega
    rw [hv]
    exact h h' tk t' hold
end
theorem vals4 {x y z v : V} {us : List Value} (r : Vals [x, y, z, v] us) : ∃ u1 u2 u3 u4, us = [u1, u2, u3, u4] ∧ RelV x u1 ∧ RelV y u2 ∧ RelV z u3 ∧ RelV v u4 := by
  cases r with
  | cons r1 r =>
    cases r with
    | cons r2 r =>
      cases r with
      | cons r3 r =>
        cases r with
        | cons r4 r =>
          cases r
          exact ⟨_, _, _, _, rfl, r1, r2, r3, r4⟩
section
variable {X : Cx}
def rMin4 : List V → Hp → VK → Prop := fun xs H Q => ∃ i j k l, xs = [.int i, .int j, .int k, .int l] ∧ Q (.int (min (min i j) (min k l))) H
def rMax4 : List V → Hp → VK → Prop := fun xs H Q => ∃ i j k l, xs = [.int i, .int j, .int k, .int l] ∧ Q (.int (max (max i j) (max k l))) H
theorem call_min4 (hc : X.calm = true) : CallR X (.builtin "min") rMin4 := by
  intro pins s σ H xs us Q I r h
  obtain ⟨i, j, k, l, rfl, q⟩ := h
  obtain ⟨u1, u2, u3, u4, rfl, ⟨t1, rfl⟩, ⟨t2, rfl⟩, ⟨t3, rfl⟩, ⟨t4, rfl⟩⟩ := vals4 r
  exact min4 (I.ok.hd hc) fun h' tk t' k => ⟨.int _, H, I.kept k, ⟨_, rfl⟩, q⟩
theorem call_max4 (hc : X.calm = true) : CallR X (.builtin "max") rMax4 := by
  intro pins s σ H xs us Q I r h
  obtain ⟨i, j, k, l, rfl, q⟩ := h
  obtain ⟨u1, u2, u3, u4, rfl, ⟨t1, rfl⟩, ⟨t2, rfl⟩, ⟨t3, rfl⟩, ⟨t4, rfl⟩⟩ := vals4 r
  exact max4 (I.ok.hd hc) fun h' tk t' k => ⟨.int _, H, I.kept k, ⟨_, rfl⟩, q⟩
/-- isqrt of a number below 2 ^ 4000 -/
def rSqrt : List V → Hp → VK → Prop := fun xs H Q => ∃ i : Int, xs = [.int i] ∧ 0 ≤ i ∧ Bd 4000 i ∧ ∀ r : Nat, (r : Int) * r ≤ i → i < ((r : Int) + 1) * ((r : Int) + 1) → Q (.int (r : Int)) H
theorem call_sqrt : CallR X (.builtin "math.isqrt") rSqrt := by
  intro pins s σ H xs us Q I r h
  obtain ⟨i, rfl, h0, hb, q⟩ := h
  obtain ⟨u1, rfl, ⟨t1, rfl⟩⟩ := vals1 r
  obtain ⟨n, rfl⟩ := Int.eq_ofNat_of_zero_le h0
  have hl : n.log2 ≤ 3999 := PySem.W.mg_log (show n < 2 ^ (3999 + 1) from hb)
  have hs := PySem.Float64.isqrt_spec n
  have qq := q (Float64.isqrt n) (by have := hs.1; exact_mod_cast this) (by have := hs.2; exact_mod_cast this)
  exact call_function_meets PySem.W.MGF.kind_isqrt PySem.W.MGF.plain_isqrt PySem.W.MGF.entry_isqrt (PySem.W.MGF.args_isqrt _) (PySem.W.mg_run_isqrt (n : Int) t1 (by omega) (by rw [Int.toNat_natCast]; omega) (by rw [Int.toNat_natCast]; omega)).meets ⟨.int _, H, I.tok _, ⟨_, rfl⟩, qq⟩
/-- // by a divisor that is not 0 and below 2 ^ 9000 -/
def CDivA (_ j : Int) : Prop := j ≠ 0 ∧ j.natAbs.log2 < 9000
theorem op_fdivA : OpR X (binaryOp .FloorDiv) (rI CDivA fun i j => .int (i.fdiv j)) := opI fun i j _ _ _ _ _ hc q => floordiv_int hc.1 q (.inl (PyProof.noPylong_of_log2 hc.2))
end
section
variable {H : Hp} {K : PySem.W.Frag}
theorem rc_min4 {i j k l : Int} : RC rMin4 [.int i, .int j, .int k, .int l] H (.int (min (min i j) (min k l))) := fun H1 _ _ q => ⟨i, j, k, l, rfl, q H1 (Ex.refl _)⟩
theorem rc_max4 {i j k l : Int} : RC rMax4 [.int i, .int j, .int k, .int l] H (.int (max (max i j) (max k l))) := fun H1 _ _ q => ⟨i, j, k, l, rfl, q H1 (Ex.refl _)⟩
end
end Mi

/-! Own rule: sep.join(reversed(a list of texts)). -/
namespace Jr
open PySem PySem.Spec PyProof.Rows L2
open PySem.Builtin PySem.Builtin.Str PySem.Builtin.Int
abbrev RI : String := "list_reverseiterator"
theorem nolenR : typeLookup (.type "list_reverseiterator") "__len__" = pure none := by rw [typeLookup_type, builtinLookup_eq_fast]; kernel_rfl
theorem hintR : typeLookup (.type "list_reverseiterator") "__length_hint__" = pure (some (.builtin "list_reverseiterator.__length_hint__")) := by rw [typeLookup_type, builtinLookup_eq_fast]; kernel_rfl
section
variable {prog : Program} {w : World} {A : Around} {E : Value → Shared → Prop} {s : Shared} {I : Addr} {fp wr : List Addr} {G : Array GenState → Array GenState → Prop} {n : Nat} {P : Nat → Value → Prop} {St : Nat → Shared → Prop}
theorem hint_rev {Q : Bool → Shared → Prop} (hT : s.TypeIs (.ref I) "list_reverseiterator") (h : Q false s) : wpAny (model prog w) A (Builtin.List.listLengthHint (.ref I)) Q E s := by
  unfold Builtin.List.listLengthHint; refine wpAny_bind (wpAny_specialOf hT nolenR ?_)
  show wpAny _ A (specialOf (Value.ref I) (Str.ofString "__length_hint__") >>= _) _ _ s
  refine wpAny_bind (wpAny_specialOf hT hintR ?_)
  (generalize hid : ("list_reverseiterator.__length_hint__" : String) = id0; wp_delta; rw [show splitId id0 = some ("list_reverseiterator", "__length_hint__") from by subst hid; decide +kernel]; subst hid)
  refine wpAny_bind (wpAny_isInstance (T := "list_reverseiterator") (b := true) hT (by rw [isSubtype_type]; kernel_rfl) ?_)
  exact wpAny_pure h
theorem collect_rev {Q : List Value → Shared → Prop} (W : WalksS prog w A.in1 I fp wr G n P St) (hT : ∀ i s, St i s → s.TypeIs (.ref I) "list_reverseiterator") (st0 : St 0 s) (hfp : ∀ b ∈ fp, b < s.heap.objs.size) (hI : I ∈ fp)
    (hQ : ∀ s' acc, Moved wr G s s' → ItemsOf P acc n → Q acc.toList s') (hn : n ≤ sizeLine) : wpAny (model prog w) A (collect (.ref I)) Q E s := by
  have nf : s.heap.objs.size ∉ fp := fun hm => absurd (hfp _ hm) (Nat.lt_irrefl _)
  have nI : s.heap.objs.size ≠ I := fun e => nf (by rw [e]; exact hI)
  have same : Builtin.List.listSameRef (.ref s.heap.objs.size) (.ref I) = false := by simp [Builtin.List.listSameRef, nI]
  have new := Heap.get?_push_size s.heap (o := { cls := .type "list", data := .seq ([] : List Value).toArray }) rfl
  have st1 := W.frame 0 s (s.heap.push { cls := .type "list", data := .seq ([] : List Value).toArray }) s.toks st0 (Nat.le_refl _) fun b _ o e => Heap.get?_push_of_some _ e
  unfold collect
  refine wpAny_bind (wpAny_runValue (codeAny_builtin F.entry_proto_collect (by
    rw [Around.under_plainId F.plain_proto_collect _]
    show wpAny _ A.in1 (newList [] >>= fun l => again (.builtin "list.__iadd__" ⟨[l, .ref I], []⟩)) _ _ s
    refine wpAny_bind (wpAny_newObj_type (wpAny_pure ⟨plainId_quiet F.plain_list_iadd _, codeAny_builtin F.entry_list_iadd ?_⟩))
    rw [Around.under_plainId F.plain_list_iadd _]
    show wpAny _ A.in1 (Builtin.List.listExtendWith (.ref s.heap.objs.size) (.ref I) (.ref s.heap.objs.size)) _ _ _
    unfold Builtin.List.listExtendWith; refine wpAny_bind (wpAny_typeOf (hT 0 _ st1) ?_)
    rw [if_neg (by rw [same]; decide)]; refine wpAny_bind (W.self 0 _ _ _ st1 (wpAny_bind (wpAny_holding (hint_rev (hT 0 _ st1) ?_))))
    rw [if_neg (by decide)]; refine wpAny_pure ⟨plainId_quiet F.plain_extend_loop _, codeAny_extend_loopS W hn _ nf _ n 0 _ _ _ rfl (Nat.zero_le _) st1 new (ItemsOf.nil P) fun s' acc' c' hm hS' hacc => ?_⟩
    show wpAny _ A (load s.heap.objs.size >>= _) _ _ s'
    exact wpAny_bind (wpAny_load hS' (wpAny_pure (hQ s' acc' (Moved.drop_new (o := { cls := .type "list", data := .seq ([] : List Value).toArray }) (tk := s.toks) hm (Nat.le_refl _)) hacc))))))
theorem join_rev {x : Str} {t : Tok} {ys : List Str} {Q : Value → Shared → Prop} (W : WalksS prog w A.in1.in1 I fp wr G n P St) (hT : ∀ i s, St i s → s.TypeIs (.ref I) "list_reverseiterator") (st0 : St 0 s) (hfp : ∀ b ∈ fp, b < s.heap.objs.size) (hI : I ∈ fp)
    (hP : ∀ acc : Array Value, ItemsOf P acc n → StrsAre acc.toList ys) (hok : (ys.map (·.length)).sum + ys.length * x.length ≤ 16777216) (hq : ∀ s', Moved wr G s s' → ∀ t' k, Q (.str (Txt.join x ys) t') { s' with toks := k }) (hn : n ≤ sizeLine) :
    wpAny (model prog w) A (call (.builtin "str.join") [.str x t, .ref I]) Q E s := by
  have j0 := joinOk_of hok
  unfold JoinOk at j0; rw [Bool.not_eq_true'] at j0
  refine wpAny_call (codeAny_call_builtin F.slot_str_join.plain F.entry_str_join (F.slot_str_join.check _ _ _ _ _ _ _ _ (typeIs_str _ _ _) (F.args_str_join_2 _ _) (by
    rw [join_tree_other]; refine wpAny_bind (wpAny_typeOf (hT 0 s st0) ?_)
    show wpAny _ A.in1 ((pyIter (.ref I)).tryCatch _ >>= fun it => collect it >>= fun items => joinTail x items) _ _ s
    refine wpAny_bind (wpAny_tryCatch (W.of_in1.self 0 s _ _ st0 (wpAny_bind (collect_rev W hT st0 hfp hI (fun s' acc hm hacc => ?_) hn))))
    obtain ⟨l, hl, ht⟩ := strsAre_values (hP acc hacc); subst ht; rw [hl]
    have g : Gives (joinTail x (strValues l)) (joinMade x l) := by rcases l with _ | ⟨p, _ | ⟨q, r⟩⟩ <;> exact gives_joinTail x _ j0
    exact g prog w A (wants Q E) s' (post_join l ⟨joinFit_length j0, hq s' hm⟩))))
end
section
variable {X : Cx}
/-- sep.join(reversed(xs)), xs a list of texts: sep first, then xs -/
def tJoinRev (K : PySem.W.Frag) (to : TE) (ta : TA) : TE := fun σ H Q => to σ H fun x H1 => (∃ a, x = .str a) ∧ ta σ H1 fun vs H2 => ∃ (a : Str) (q : Addr) (ys : List Str),
  x = .str a ∧ vs = [.ref q] ∧ SqL K H2 q (ys.map V.str) ∧ (ys.map (·.length)).sum + ys.length * a.length ≤ 16777216 ∧ Q (.str (Txt.join a ys.reverse)) H2
theorem rev_strs {its : List Value} {ys : List Str} (r : Vals (ys.map V.str) its) {acc : Array Value} (h : ItemsOf (fun i v => its.toArray[its.toArray.size - 1 - i]? = some v) acc its.toArray.size) : StrsAre acc.toList ys.reverse := by
  have e : acc.toList = its.reverse := by
    obtain ⟨h1, h2⟩ := h
    refine List.ext_getElem? fun i => ?_
    by_cases hi : i < its.length
    · have hz : i < acc.size := by rw [h1]; simpa using hi
      have h3 := h2 i acc[i] (Array.getElem?_eq_getElem hz)
      rw [List.getElem?_reverse hi, Array.getElem?_toList, Array.getElem?_eq_getElem hz, ← h3]
      simp
    · rw [List.getElem?_eq_none (by rw [Array.length_toList, h1]; simp; omega), List.getElem?_eq_none (by rw [List.length_reverse]; omega)]
  rw [e]
  have key : ∀ {ys : List Str} {its : List Value}, Vals (ys.map V.str) its → StrsAre its ys := fun {ys its} r => strs_of_vals r
  have r2 : Vals (ys.reverse.map V.str) its.reverse := by
    rw [List.map_reverse]
    exact r.reverse
  exact key r2
theorem pe_joinRev {o e : Expr} {to : TE} {ta : TA} {apos pos p pos2 : Pos} (hc : X.calm = true) (ho : PE X o to) (hg : Gl X "reversed") (hm : X.mg "reversed" = none) (ha : PA X [e] ta)
    (hs1 : starEach [.Call (.Name "reversed" p) [e] [] pos2] X.env = [(false, eval (.Call (.Name "reversed" p) [e] [] pos2) X.env)] := by rfl) (hs : starEach [e] X.env = [(false, eval e X.env)] := by rfl)
    (hbase : attributeBase o "join" X.env (eval o X.env) = eval o X.env := by rfl) (hline : (apos.endLine == pos.line) = true := by rfl) :
    PE X (.Call (.Attribute o "join" apos) [.Call (.Name "reversed" p) [e] [] pos2] [] pos) (tJoinRev X.K to ta) := by
  refine ⟨fun pins s σ H Q I h => PySem.Call_method1 hbase hs1 hline (thn (ho.run pins s σ H _ I h) fun v s1 ⟨x, H1, I1, r1, q1⟩ => ?_)⟩
  obtain ⟨⟨a, rfl⟩, q1⟩ := q1; obtain ⟨t, rfl⟩ := _root_.id r1
  refine ⟨"str", _, F.plainAttrs_str, F.slot_str_join, F.type_str_join, typeIs_str _ _ _, (fun _ e => nomatch e), Calls.callWith_builtin rfl (Calls.evalArgs_plain (Calls.spliced_cons (Call_ (ld_blt I1 hg hm PyProof.Rows.boot_reversed (PyProof.Rows.callWith_type1 (thn (ha.run pos2 pins s1 σ H1 _ I1 q1) fun us s3 ⟨vs, H2, I3, r3, q3⟩ => ?_) hs rfl)))))⟩
  obtain ⟨a', q, ys, ea, rfl, hq, hz, q3⟩ := q3; cases ea
  cases r3 with
  | cons r rr =>
    cases rr; cases r
    obtain ⟨its, rv, pl, hsz⟩ := I3.list hq
    have hlt : q < s3.heap.objs.size := by
      obtain ⟨o, ho, _⟩ := pl.isList
      exact Heap.lt_size ho
    have hh := I3.ok.hd hc
    refine call_reversed_list pl.isList (Calls.spliced_nil ?_)
    have W := (Walks.listRev (prog := X.prog) (w := X.w) (A := X.A.in1.in1) hh s3.heap.objs.size q (Nat.ne_of_lt hlt) its.toArray).toS
    refine join_rev (ys := ys.reverse) W (fun i s' st => st.2.1.typeIs) ⟨Nat.zero_le _, ⟨_, Heap.get?_push_size _ rfl, rfl, by rw [show ((its.toArray.size : Nat) : Int) - 1 - ((0 : Nat) : Int) = ((its.toArray.size : Nat) : Int) - 1 by omega]; rfl⟩, pl.isList.push _⟩ (fun b hb => ?_) (by simp) (fun acc hacc => rev_strs rv hacc) (by
      rw [List.map_reverse, List.sum_reverse, List.length_reverse]
      exact hz) (fun s' hmv t' k => ?_) (by
      have := rv.length
      simp only [List.size_toArray]
      omega)
    · rw [Heap.size_push]
      simp only [List.mem_cons, List.not_mem_nil, or_false] at hb
      rcases hb with rfl | rfl
      · exact Nat.lt_succ_self _
      · exact Nat.lt_succ_of_lt hlt
    · rw [Moved.eq_with hmv]
      exact ⟨.str _, H2, I3.kept (t' := k) fun b o e => hmv.heap b o (fun hmem => absurd (Heap.lt_size e) (by rw [List.mem_singleton.mp hmem]; exact Nat.lt_irrefl _)) (Heap.get?_push_of_some _ e), ⟨t', rfl⟩, q3⟩
end
end Jr

/-! Own data: the digits of a number. -/
namespace Dg
open PySem PySem.Builtin PySem.Builtin.Str SX TL
/-- the last k digits -/
def pad : Nat → Nat → List Nat
  | 0, _ => []
  | k + 1, n => pad k (n / 10) ++ [48 + n % 10]
theorem pad_len : ∀ k n, (pad k n).length = k
  | 0, _ => rfl
  | k + 1, n => by
    show (pad k (n / 10) ++ [48 + n % 10]).length = k + 1
    rw [List.length_append, pad_len k]
    rfl
theorem pow_div (n k : Nat) : n / 10 / 10 ^ k = n / 10 ^ (k + 1) := by
  rw [Nat.div_div_eq_div_mul, Nat.pow_succ, Nat.mul_comm]
theorem lt_pow {n k : Nat} (h : n < 10 ^ (k + 1)) : n / 10 < 10 ^ k := by
  rw [Nat.pow_succ] at h
  exact Nat.div_lt_of_lt_mul (by rw [Nat.mul_comm]; exact h)
theorem num_split : ∀ k n, 10 ^ k ≤ n → numL n = numL (n / 10 ^ k) ++ pad k n
  | 0, n, _ => by
    show numL n = numL (n / 1) ++ []
    rw [Nat.div_one, List.append_nil]
  | k + 1, n, h => by
    have h1 : 10 ^ k * 10 ≤ n := by
      rw [← Nat.pow_succ]
      exact h
    have h0 : 0 < 10 ^ k := Nat.pow_pos (by decide)
    have h2 : 10 ^ k ≤ n / 10 := (Nat.le_div_iff_mul_le (by decide)).mpr h1
    rw [numL_step (by omega), num_split k (n / 10) h2, pow_div, List.append_assoc]
    rfl
theorem pad_zero : ∀ k, pad k 0 = List.replicate k 48
  | 0 => rfl
  | k + 1 => by
    show pad k 0 ++ [48] = _
    rw [pad_zero k, List.replicate_succ']
theorem num_len : ∀ k n, n < 10 ^ (k + 1) → (numL n).length ≤ k + 1
  | 0, n, h => by
    rw [numL_lt (by omega)]
    exact Nat.le_refl _
  | k + 1, n, h => by
    by_cases h1 : n < 10
    · rw [numL_lt h1]
      show 1 ≤ k + 1 + 1
      omega
    · rw [numL_step (by omega), List.length_append]
      have := num_len k (n / 10) (lt_pow h)
      show (numL (n / 10)).length + 1 ≤ k + 1 + 1
      omega
theorem num_pad : ∀ k n, n < 10 ^ (k + 1) → List.replicate (k + 1 - (numL n).length) 48 ++ numL n = pad (k + 1) n
  | 0, n, h => by
    have h1 : n < 10 := by omega
    rw [numL_lt h1]
    show [] ++ [48 + n] = [] ++ [48 + n % 10]
    rw [Nat.mod_eq_of_lt h1]
  | k + 1, n, h => by
    by_cases h1 : n < 10
    · rw [numL_lt h1]
      show List.replicate (k + 1) 48 ++ [48 + n] = pad (k + 1) (n / 10) ++ [48 + n % 10]
      rw [Nat.mod_eq_of_lt h1, Nat.div_eq_of_lt h1, pad_zero]
    · have ih := num_pad k (n / 10) (lt_pow h)
      rw [numL_step (by omega), List.length_append]
      show List.replicate (k + 1 + 1 - ((numL (n / 10)).length + 1)) 48 ++ (numL (n / 10) ++ [48 + n % 10]) = pad (k + 1) (n / 10) ++ [48 + n % 10]
      rw [← ih, ← List.append_assoc, show k + 1 + 1 - ((numL (n / 10)).length + 1) = k + 1 - (numL (n / 10)).length by omega]
theorem pad_cons : ∀ k n, n < 10 ^ k → pad (k + 1) n = 48 :: pad k n
  | 0, n, h => by
    have h1 : n = 0 := by
      have : (10 : Nat) ^ 0 = 1 := rfl
      omega
    subst h1
    rfl
  | k + 1, n, h => by
    show pad (k + 1) (n / 10) ++ [48 + n % 10] = 48 :: (pad k (n / 10) ++ [48 + n % 10])
    rw [pad_cons k (n / 10) (lt_pow h)]
    rfl
theorem pad_front : ∀ k n, pad (k + 1) n = (48 + n / 10 ^ k % 10) :: pad k n
  | 0, n => by
    show [] ++ [48 + n % 10] = [48 + n / 1 % 10]
    rw [Nat.div_one]
    rfl
  | k + 1, n => by
    show pad (k + 1) (n / 10) ++ [48 + n % 10] = _ :: (pad k (n / 10) ++ [48 + n % 10])
    rw [pad_front k (n / 10), pow_div]
    rfl
theorem pad_mod : ∀ k n, pad k (n % 10 ^ k) = pad k n
  | 0, _ => rfl
  | k + 1, n => by
    have e : n % 10 ^ (k + 1) = n % 10 + 10 * (n / 10 % 10 ^ k) := by
      rw [Nat.pow_succ, Nat.mul_comm, Nat.mod_mul]
    show pad k (n % 10 ^ (k + 1) / 10) ++ [48 + n % 10 ^ (k + 1) % 10] = pad k (n / 10) ++ [48 + n % 10]
    rw [e, show (n % 10 + 10 * (n / 10 % 10 ^ k)) / 10 = n / 10 % 10 ^ k by omega, show (n % 10 + 10 * (n / 10 % 10 ^ k)) % 10 = n % 10 by omega, pad_mod k]
theorem num_head (n : Nat) : ∃ c r, numL n = c :: r ∧ 48 ≤ c ∧ c ≤ 57 := by
  cases h : numL n with
  | nil => exact absurd h (numL_ne n)
  | cons c r =>
    have h2 := numL_digits n c (by rw [h]; exact List.mem_cons_self ..)
    exact ⟨c, r, rfl, h2⟩
theorem zfill_long {n m : Nat} (h : m ≤ (numL n).length) : Txt.zfill (S (numL n)) (m : Int) = S (numL n) := by
  unfold Txt.zfill
  rw [S_len, if_pos (by omega)]
theorem zfill_short {n m : Nat} (h : (numL n).length < m) : Txt.zfill (S (numL n)) (m : Int) = S (List.replicate (m - (numL n).length) 48 ++ numL n) := by
  unfold Txt.zfill
  rw [S_len, if_neg (by omega), Int.toNat_natCast]
  obtain ⟨c, r, hc, h1, h2⟩ := num_head n
  refine TL.ext_tl ?_
  have e : (S (numL n)).cps[0]? = some c := by
    show (numL n).toArray[0]? = some c
    rw [hc]
    rfl
  have e2 : zfilled (S (numL n)) (m - (numL n).length) = padded (S (numL n)) (m - (numL n).length) 0 48 := by
    unfold zfilled
    rw [e]
    split
    · rename_i z
      cases Option.some.inj z
      omega
    · rename_i z
      cases Option.some.inj z
      omega
    · rfl
  rw [e2]
  show (padded (S (numL n)) (m - (numL n).length) 0 48).cps.toList = _
  rw [PyProof.Rows.padded_list]
  simp
/-- a number with fewer than m digits, filled -/
theorem zfill_num {n m : Nat} (hm : 1 ≤ m) (h : n < 10 ^ m) : Txt.zfill (S (numL n)) (m : Int) = S (pad m n) := by
  obtain ⟨k, rfl⟩ : ∃ k, m = k + 1 := ⟨m - 1, by omega⟩
  rw [← num_pad k n h]
  by_cases hl : k + 1 ≤ (numL n).length
  · rw [zfill_long hl, show k + 1 - (numL n).length = 0 by omega]
    rfl
  · exact zfill_short (by omega)
/-- .. to one digit more than its places -/
theorem zfill_places (n p : Nat) : Txt.zfill (S (numL n)) ((p + 1 : Nat) : Int) = S (numL (n / 10 ^ p) ++ pad p n) := by
  by_cases h : 10 ^ p ≤ n
  · have e := num_split p n h
    have h1 : p + 1 ≤ (numL n).length := by
      rw [e, List.length_append, pad_len]
      have := List.length_pos_iff.mpr (numL_ne (n / 10 ^ p))
      omega
    rw [zfill_long h1, ← e]
  · have h0 : n < 10 ^ p := by omega
    have h1 : n < 10 ^ (p + 1) := by
      rw [Nat.pow_succ]
      omega
    rw [zfill_num (by omega) h1, pad_cons p n h0, Nat.div_eq_of_lt h0, numL_lt (by decide)]
    rfl
theorem joinL_nil : ∀ ps : List (List Nat), joinL [] ps = ps.flatten
  | [] => rfl
  | [p] => by
    show p = p ++ []
    rw [List.append_nil]
  | p :: q :: r => by
    show p ++ ([] ++ joinL [] (q :: r)) = p ++ (q :: r).flatten
    rw [joinL_nil (q :: r)]
    rfl
theorem join_nil (ps : List (List Nat)) : Txt.join (S []) (ps.map S) = S ps.flatten := by rw [join_S, joinL_nil]
theorem slice_to_neg {a b : List Nat} (h : 0 < b.length) : Txt.slice (S (a ++ b)) none (some (-(b.length : Int))) = S a := by
  have e := beq_iff_eq.mp (PyProof.Rows.slice_closes_to_neg (x := S (a ++ b)) (j := -(b.length : Int)) (k := (a.length : Int)) (by omega) (by rw [S_len, List.length_append]; omega) (by rw [S_len, List.length_append]; omega))
  refine e.trans (TL.ext_tl ?_)
  show ((a ++ b).drop (0 : Int).toNat).take ((a.length : Int) - 0).toNat = a
  rw [show (0 : Int).toNat = 0 from rfl, List.drop_zero, show ((a.length : Int) - 0).toNat = a.length by omega, List.take_left]
theorem slice_from_neg {a b : List Nat} (h : 0 < b.length) : Txt.slice (S (a ++ b)) (some (-(b.length : Int))) none = S b := by
  have e := beq_iff_eq.mp (PyProof.Rows.slice_closes_from_neg (x := S (a ++ b)) (i := -(b.length : Int)) (a := (a.length : Int)) (b := ((a ++ b).length : Int)) (by omega) (by rw [S_len, List.length_append]; omega) (by rw [S_len, List.length_append]; omega) (by rw [S_len]))
  refine e.trans (TL.ext_tl ?_)
  show ((a ++ b).drop (a.length : Int).toNat).take (((a ++ b).length : Int) - (a.length : Int)).toNat = b
  rw [Int.toNat_natCast, List.drop_left, List.take_of_length_le (by rw [List.length_append]; omega)]
end Dg


namespace K03
open PySem PySem.Spec PyProof.Rows L2 Evl Cm Jr Dg Mi
open SX (S S_cat S_len num_S)
open TL (numL)
def topS (i : Nat) : Stmt := PySem.Challenge.pw_portolan_k03_decimal_texts.main.body.getD i (.Pass ⟨0, 0, 0, 0⟩)
abbrev s_decimal_text : Stmt := topS 3
theorem sc_decimal_text : FnScope ["a", "bits", "places", "scale", "_", "low", "high"] ["a", "bits", "places"] (defScope s_decimal_text) := ⟨rfl, rfl, rfl, by decide +kernel, rfl, by decide +kernel, by decide +kernel⟩
abbrev s_fewer_bits : Stmt := topS 4
theorem sc_fewer_bits : FnScope ["low", "high", "bits"] ["low", "high", "bits"] (defScope s_fewer_bits) := ⟨rfl, rfl, rfl, by decide +kernel, rfl, by decide +kernel, by decide +kernel⟩
abbrev s_decimal_number : Stmt := topS 5
theorem sc_decimal_number : FnScope ["n", "places", "sign", "digits", "whole", "rest"] ["n", "places"] (defScope s_decimal_number) := ⟨rfl, rfl, rfl, by decide +kernel, rfl, by decide +kernel, by decide +kernel⟩
abbrev s_digits_of : Stmt := topS 6
theorem sc_digits_of : FnScope ["n", "pieces", "rest"] ["n"] (defScope s_digits_of) := ⟨rfl, rfl, rfl, by decide +kernel, rfl, by decide +kernel, by decide +kernel⟩
abbrev s_law_cell : Stmt := topS 8
theorem sc_law_cell : FnScope ["script", "k"] ["script", "k"] (defScope s_law_cell) := ⟨rfl, rfl, rfl, by decide +kernel, rfl, by decide +kernel, by decide +kernel⟩
abbrev s_law_number : Stmt := topS 9
theorem sc_law_number : FnScope ["value", "places", "ten", "k", "whole", "text", "rest", "digits"] ["value", "places"] (defScope s_law_number) := ⟨rfl, rfl, rfl, by decide +kernel, rfl, by decide +kernel, by decide +kernel⟩
abbrev s_law : Stmt := topS 10
theorem sc_law : FnScope ["script", "one", "two", "bits", "places", "a", "enclosure", "ten", "k", "low", "high", "actual"] ["script"] (defScope s_law) := ⟨rfl, rfl, rfl, by decide +kernel, rfl, by decide +kernel, by decide +kernel⟩
section
variable {P : Program} {w : World} {K : PySem.W.Frag} {mg : Str → Option Value} {base : Heap}
/-! ### texts -/
/-- a bound that nothing looks into -/
def Sm (n : Nat) : Prop := n < 10 ^ 300
theorem sm_le {n m : Nat} (h : Sm n) (hm : m ≤ n) : Sm m := Nat.lt_of_le_of_lt hm h
theorem lg {n k : Nat} (h : n < 2 ^ k) (hk : 0 < k) : n.log2 < k := by
  by_cases h0 : n = 0
  · subst h0
    exact hk
  · exact (Nat.log2_lt h0).mpr h
theorem sm_lg {n : Nat} (h : Sm n) : n.log2 < 1920 := lg (Nat.lt_of_lt_of_le h (by decide +kernel)) (by decide)
theorem sm_len {n : Nat} (h : Sm n) : (numL n).length ≤ 300 := num_len 299 n h
section
variable {σ : L2.St} {H : Hp} {ta tb te to : TE} {x y z : V} {a b : List Nat}
theorem rc_str {n : Nat} (h : Sm n) : RC (fun xs H Q => ∃ i, xs = [.int i] ∧ i.natAbs.log2 < 1920 ∧ Q (.str (toString i)) H) [.int (n : Int)] H (.str (S (numL n))) := fun H1 _ Q q => ⟨(n : Int), rfl, sm_lg h, by
  have e := num_S n
  show Q (.str (Str.ofString (toString (n : Int)))) H1
  rw [e]
  exact q H1 (Ex.refl H1)⟩
theorem rv_cat (h : a.length + b.length ≤ 100000) : RV (fun x y H Q => ∃ i j, x = .str i ∧ y = .str j ∧ i.length + j.length ≤ sizeLine ∧ Q (.str (i ++ j)) H) (.str (S a)) (.str (S b)) H (.str (S (a ++ b))) := fun H1 _ Q q => ⟨S a, S b, rfl, rfl, by
  rw [S_len, S_len]
  exact sz_of h, by
  rw [S_cat]
  exact q H1 (Ex.refl H1)⟩
theorem ev_zfill {n : Int} {w1 : List Nat} (h : Ev to σ H (.str (S a))) (hn : Ev te σ H (.int n)) (hp : PadOk n = true) (e : Txt.zfill (S a) n = S w1) : Ev (tBM K "str" (fun x xs H Q => ∃ (a : Str) (i : Int), x = .str a ∧ xs = [.int i] ∧ PadOk i = true ∧ Q (.str (Txt.zfill a i)) H) to (tCons te tNil)) σ H (.str (S w1)) := fun H1 e1 Q q =>
  h H1 e1 _ fun H2 e2 => ⟨rfl, hn H2 (e1.trans e2) _ fun H3 e3 => ⟨S a, n, rfl, rfl, hp, by
    rw [e]
    exact q H3 (e2.trans e3)⟩⟩
theorem ev_sl {tl th : TO} {lo hi : Option Int} {w1 : List Nat} (h : Ev te σ H (.str (S a))) (h1 : EvO tl σ H lo) (h2 : EvO th σ H hi) (hz : a.length ≤ 100000) (e : Txt.slice (S a) lo hi = S w1) : Ev (tSl C8.rSlX te tl th) σ H (.str (S w1)) := fun H1 e1 Q q =>
  h H1 e1 _ fun H2 e2 => h1 H2 (e1.trans e2) _ fun H3 e3 => h2 H3 ((e1.trans e2).trans e3) _ fun H4 e4 => ⟨S a, rfl, by
    rw [S_len]
    exact sz_of hz, by
    rw [e]
    exact q H4 ((e2.trans e3).trans e4)⟩
/-- {x} of a text -/
theorem ev_fmt (h : Ev te σ H (.str (S a))) (hz : a.length ≤ 100000) : Ev (tFmt te) σ H (.str (S a)) := fun H1 e1 Q q => h H1 e1 _ fun H2 e2 => .inl ⟨S a, rfl, by
  rw [S_len]
  exact sz_of hz, q H2 e2⟩
inductive Js (σ : L2.St) (H : Hp) : List TE → List (List Nat) → Prop
  | nil : Js σ H [] []
  | cons {t : TE} {ts : List TE} {a : List Nat} {as : List (List Nat)} : Ev t σ H (.str (S a)) → Js σ H ts as → Js σ H (t :: ts) (a :: as)
theorem js_run : ∀ {ts : List TE} {as : List (List Nat)}, Js σ H ts as → ∀ (acc : List Nat) (H1 : Hp) (Q : Str → Hp → Prop), Ex H H1 → acc.length + as.flatten.length ≤ 100000 → (∀ H2, Ex H1 H2 → Q (S (acc ++ as.flatten)) H2) → tJs ts (S acc) σ H1 Q
  | _, _, .nil, acc, H1, Q, e, hz, q => by
    have := q H1 (Ex.refl H1)
    rw [List.flatten_nil, List.append_nil] at this
    exact this
  | _, _, .cons (a := a) (as := as) h r, acc, H1, Q, e, hz, q => h H1 e _ fun H2 e2 => ⟨S a, rfl, by
    rw [S_cat, S_len]
    rw [List.flatten_cons, List.length_append] at hz
    exact sz_of (by rw [List.length_append]; omega), by
    rw [S_cat]
    refine js_run r (acc ++ a) H2 Q (e.trans e2) (by rw [List.length_append]; rw [List.flatten_cons, List.length_append] at hz; omega) fun H3 e3 => ?_
    have := q H3 (e2.trans e3)
    rw [List.flatten_cons, ← List.append_assoc] at this
    exact this⟩
theorem ev_js {ts : List TE} {as : List (List Nat)} (h : Js σ H ts as) (hz : as.flatten.length ≤ 100000) : Ev (fun σ H Q => tJs ts Str.empty σ H fun out H1 => Q (.str out) H1) σ H (.str (S as.flatten)) := fun H1 e Q q =>
  js_run h [] H1 _ e (by simpa using hz) fun H2 e2 => q H2 e2
end
/-! ### the program -/
def spDigits : Sp := fun vs H Q _ => ∃ n : Nat, vs = [.int (n : Int)] ∧ Sm n ∧ RetV (.str (S (numL n))) H Q
theorem ok_digits {f : Addr} {fd : FuncData} (F : Fun K "digits_of" "digits_of" s_digits_of f fd) {t0 t1 : Tok} (g_PIECE : mg "PIECE" = some (.int 10000000000000000000000000000000000000000000000000000000000000000 t0)) (g_PIECE_DIGITS : mg "PIECE_DIGITS" = some (.int 64 t1)) (m_divmod : mg "divmod" = none) (m_str : mg "str" = none) (m_reversed : mg "reversed" = none) : FnOk P w K mg base CX0 1 f fd ["n"] spDigits := by
  refine F.ok sc_digits_of (fun vs H Q E h => ?_) (fun cdv A outer s H vs Q E hr h => ?_)
  · obtain ⟨n, rfl, _⟩ := h
    rfl
  · obtain ⟨n, rfl, hn, q⟩ := h
    refine ⟨_, (pss_cons (ps_set (i := 1) sc_digits_of.nd rfl (.inl rfl) (pe_lst pa_nil))
        (pss_cons (ps_while PassesOwn.never (pt_cmpR op_ge (pv 0) (pe_glob (by rfl) g_PIECE (show RelV (.int 10000000000000000000000000000000000000000000000000000000000000000) _ from ⟨_, rfl⟩)) (nomark _)) (pss_cons (ps_asg (pe_callB call_divmodW (by rfl) m_divmod (by decide +kernel) (pa_cons (pv 0) (pa_cons (pe_glob (by rfl) g_PIECE (show RelV (.int 10000000000000000000000000000000000000000000000000000000000000000) _ from ⟨_, rfl⟩)) pa_nil))) (pg_tup rfl (pgs_cons (pg_name (i := 0) sc_digits_of.nd rfl (.inl rfl)) (pgs_cons (pg_name (i := 2) sc_digits_of.nd rfl (.inl rfl)) pgs_nil))))
        (pss_one (ps_expr (pe_bm PySem.F.plainAttrs_list PySem.F.slot_list_append PySem.F.type_list_append mt_append (pv 1) (pa_cons (pe_bm PySem.F.plainAttrs_str PySem.F.slot_str_zfill PySem.F.type_str_zfill mt_zfill (pe_callTy call_str_int (by rfl) m_str (by decide +kernel) (pa_cons (pv 2) pa_nil)) (pa_cons (pe_glob (by rfl) g_PIECE_DIGITS (show RelV (.int 64) _ from ⟨_, rfl⟩)) pa_nil)) pa_nil))))))
        (pss_cons (ps_expr (pe_bm PySem.F.plainAttrs_list PySem.F.slot_list_append PySem.F.type_list_append mt_append (pv 1) (pa_cons (pe_callTy call_str_int (by rfl) m_str (by decide +kernel) (pa_cons (pv 0) pa_nil)) pa_nil)))
        (pss_one (ps_ret (pe_joinRev rfl pe_str (by rfl) m_reversed (pa_cons (pv 1) pa_nil))))))), ?_⟩
    refine q_asgL (el_lst ea_nil (show 0 ≤ 100000 by decide)) fun l H1 nl e1 hl1 => ?_
    refine st_is (σ' := [_, _, _]) rfl ?_
    refine q_while (fun m σ' H' => ∃ (x2 : Option V) (ps : List (List Nat)), σ' = [some (.int (m : Int)), some (.ref l), x2] ∧ Ex H H' ∧ H' l = some (.lst ((ps.map S).map V.str)) ∧ numL n = numL m ++ ps.reverse.flatten ∧ ps.length ≤ ps.reverse.flatten.length ∧ m ≤ n) n ⟨_, [], rfl, e1, hl1, (List.append_nil _).symm, Nat.le_refl _, Nat.le_refl _⟩ (fun m σ' H' W => ?_)
    obtain ⟨x2, ps, rfl, e2, hl2, hnum, hps, hmn⟩ := W
    have hlen : (numL m).length + ps.reverse.flatten.length ≤ 300 := by
      have := sm_len hn
      rw [hnum, List.length_append] at this
      exact this
    refine ⟨decide ((10000000000000000000000000000000000000000000000000000000000000000 : Int) ≤ (m : Int)), et_test (ev_op (ev_var rfl) ev_c rv_I0), fun hb H3 e3 => ?_, fun hb H3 e3 => ?_⟩
    · have hb1 := of_decide_eq_true hb
      have hb2 : 10 ^ 64 ≤ m := by
        have e : (10 : Nat) ^ 64 = 10000000000000000000000000000000000000000000000000000000000000000 := by decide +kernel
        rw [e]
        omega
      have hlt : m / 10 ^ 64 < m := Nat.div_lt_self (Nat.lt_of_lt_of_le (Nat.pow_pos (by decide)) hb2) (by decide +kernel)
      refine ⟨fun σ2 H2 => ∃ (x2 : Option V) (ps : List (List Nat)), σ2 = [some (.int ((m / 10 ^ 64 : Nat) : Int)), some (.ref l), x2] ∧ Ex H H2 ∧ H2 l = some (.lst ((ps.map S).map V.str)) ∧ numL n = numL (m / 10 ^ 64) ++ ps.reverse.flatten ∧ ps.length ≤ ps.reverse.flatten.length ∧ m / 10 ^ 64 ≤ n, fun σ2 H2 h => ⟨m / 10 ^ 64, hlt, h⟩, ?_⟩
      have ediv : (m : Int) / 10000000000000000000000000000000000000000000000000000000000000000 = ((m / 10 ^ 64 : Nat) : Int) := by
        rw [show (10000000000000000000000000000000000000000000000000000000000000000 : Int) = ((10 ^ 64 : Nat) : Int) by decide +kernel]
        exact (Int.natCast_ediv m (10 ^ 64)).symm
      have emod : (m : Int) % 10000000000000000000000000000000000000000000000000000000000000000 = ((m % 10 ^ 64 : Nat) : Int) := by
        rw [show (10000000000000000000000000000000000000000000000000000000000000000 : Int) = ((10 ^ 64 : Nat) : Int) by decide +kernel]
        exact (Int.natCast_emod m (10 ^ 64)).symm
      refine ⟨_, rfl, (m : Int), _, rfl, ⟨by decide, PyProof.noPylong_of_log2 (by decide +kernel)⟩, fun p hp => ?_⟩
      rw [ediv, emod]
      refine ⟨p, [.int ((m / 10 ^ 64 : Nat) : Int), .int ((m % 10 ^ 64 : Nat) : Int)], rfl, .inl (.inl upd_same), rfl, _, _, rfl, _, _, rfl, rfl, ?_⟩
      have e4 : Ex H' (upd H3 p (.tup [.int ((m / 10 ^ 64 : Nat) : Int), .int ((m % 10 ^ 64 : Nat) : Int)])) := e3.trans (Ex.new hp)
      generalize upd H3 p (.tup [.int ((m / 10 ^ 64 : Nat) : Int), .int ((m % 10 ^ 64 : Nat) : Int)]) = H4 at e4 ⊢
      refine st_is (σ' := [_, _, _]) rfl ?_
      have hmod : m % 10 ^ 64 < 10 ^ 64 := Nat.mod_lt _ (Nat.pow_pos (by decide))
      have hsm : Sm (m % 10 ^ 64) := sm_le hn (Nat.le_trans (Nat.mod_le _ _) hmn)
      refine s_app (e4 _ _ hl2) (ev_var rfl) (v := .str (S (pad 64 m))) (ev_zfill (ev_cb (ea_cons (ev_var rfl) ea_nil) (rc_str hsm)) ev_c (by decide +kernel) (by
        rw [← pad_mod 64 m]
        exact zfill_num (m := 64) (by decide) hmod)) (by rw [List.length_map, List.length_map]; omega) fun H5 e5 => ?_
      refine ⟨_, ps ++ [pad 64 m], rfl, Ex.mut ((e2.trans e4).trans e5) nl, ?_, ?_, ?_, Nat.le_trans (Nat.le_of_lt hlt) hmn⟩
      · rw [upd_same, List.map_append, List.map_append]
        rfl
      · rw [hnum, num_split 64 m hb2, List.reverse_append, List.append_assoc]
        rfl
      · rw [List.reverse_append, List.length_append]
        show ps.length + 1 ≤ (pad 64 m ++ ps.reverse.flatten).length
        rw [List.length_append, pad_len]
        omega
    · have hsm : Sm m := sm_le hn hmn
      refine q_app (e3 _ _ hl2) (ev_var rfl) (v := .str (S (numL m))) (ev_cb (ea_cons (ev_var rfl) ea_nil) (rc_str hsm)) (by rw [List.length_map, List.length_map]; omega) fun H4 e4 => ?_
      have e5 : Ex H (upd H4 l (.lst (((ps.map S).map V.str) ++ [.str (S (numL m))]))) := Ex.mut ((e2.trans e3).trans e4) nl
      refine ⟨⟨_, rfl⟩, _, rfl, S [], l, (ps ++ [numL m]).map S, rfl, rfl, sq_of (by rw [upd_same, List.map_append, List.map_append]; rfl), ?_, ?_⟩
      · have h0 : (((ps ++ [numL m]).map S).map (·.length)).sum = (ps.reverse.flatten).length + (numL m).length := by
          rw [SX.lens, List.map_append, List.sum_append, List.length_flatten, List.map_reverse, List.sum_reverse]
          rfl
        rw [h0, S_len, List.length_nil, Nat.mul_zero]
        omega
      · have h1 : Txt.join (S []) ((ps ++ [numL m]).map S).reverse = S (numL n) := by
          rw [← List.map_reverse, Dg.join_nil, List.reverse_append, hnum]
          rfl
        rw [h1]
        exact q _ e5
/-- a number in the form of the document -/
def T (n : Int) (p : Nat) : List Nat := (if n < 0 then [45] else []) ++ (if p = 0 then numL n.natAbs else numL (n.natAbs / 10 ^ p) ++ ([46] ++ pad p n.natAbs))
theorem T_len {n : Int} {p : Nat} (h : Sm n.natAbs) (hp : p ≤ 100) : (T n p).length ≤ 1000 := by
  have h1 := sm_len h
  have h2 := sm_len (sm_le h (Nat.div_le_self n.natAbs (10 ^ p)))
  unfold T
  rw [List.length_append]
  have h3 : (if n < 0 then [45] else ([] : List Nat)).length ≤ 1 := by split <;> simp
  have h4 : (if p = 0 then numL n.natAbs else numL (n.natAbs / 10 ^ p) ++ ([46] ++ pad p n.natAbs)).length ≤ 500 := by
    split
    · omega
    · rw [List.length_append, List.length_append, pad_len, List.length_singleton]
      omega
  omega
def spDecNum : Sp := fun vs H Q _ => ∃ (n : Int) (p : Nat), vs = [.int n, .int (p : Int)] ∧ Sm n.natAbs ∧ p ≤ 100 ∧ RetV (.str (S (T n p))) H Q
theorem ev_sign {σ : L2.St} {H : Hp} {n : Int} (h : σ[0]? = some (some (.int n))) : Ev (tIf (tTest (tOp (rI0 fun i j => .bl (decide (i < j))) (tVar 0) (tC (.int 0)))) (tC (.str "-")) (tC (.str ""))) σ H (.str (S (if n < 0 then [45] else []))) := by
  by_cases hn : n < 0
  · rw [if_pos hn]
    exact ev_if (b := true) (et_is (et_test (ev_op (ev_var h) ev_c rv_I0)) (decide_eq_true hn)) (fun _ => ev_c) (fun z => nomatch z)
  · rw [if_neg hn]
    exact ev_if (b := false) (et_is (et_test (ev_op (ev_var h) ev_c rv_I0)) (decide_eq_false hn)) (fun z => nomatch z) (fun _ => ev_c)
theorem padok {p : Nat} (h : p ≤ 100) : PadOk ((p + 1 : Nat) : Int) = true := by
  have : ∀ q : Nat, q < 101 → PadOk ((q + 1 : Nat) : Int) = true := by decide +kernel
  exact this p (by omega)
theorem ok_decnum {f f0 : Addr} {fd fd0 : FuncData} (F : Fun K "decimal_number" "decimal_number" s_decimal_number f fd) (G_digits_of : FnOk P w K mg base CX0 1 f0 fd0 ["n"] spDigits) (F_digits_of : Fun K "digits_of" "digits_of" s_digits_of f0 fd0) (b_digits_of : Binds K fd0 ["n"] []) (g_digits_of : mg "digits_of" = some (.ref f0)) (m_abs : mg "abs" = none) : FnOk P w K mg base CX0 2 f fd ["n", "places"] spDecNum := by
  refine F.ok sc_decimal_number (fun vs H Q E h => ?_) (fun cdv A outer s H vs Q E hr h => ?_)
  · obtain ⟨n, p, rfl, _⟩ := h
    rfl
  · obtain ⟨n, p, rfl, hn, hp, q⟩ := h
    refine ⟨_, (pss_cons (ps_set (i := 2) sc_decimal_number.nd rfl (.inl rfl) (pe_ifExp (pt_cmpR op_lt (pv 0) pe_int (nomark _)) pe_str pe_str))
        (pss_cons (ps_set (i := 3) sc_decimal_number.nd rfl (.inl rfl) (pe_bm PySem.F.plainAttrs_str PySem.F.slot_str_zfill PySem.F.type_str_zfill mt_zfill (pe_call G_digits_of (hr.mono (by decide)) (by rfl) g_digits_of F_digits_of.kp b_digits_of .nil pass0 (pa_cons (pe_callB call_abs (by rfl) m_abs (by decide +kernel) (pa_cons (pv 0) pa_nil)) pa_nil)) (pa_cons (pe_op op_add (pv 1) pe_int) pa_nil)))
        (pss_cons (ps_if (pt_cmpR op_eq (pv 1) pe_int (nomark _)) (pss_one (ps_ret (pe_op op_add_str (pv 2) (pv 3)))) pss_nil)
        (pss_cons (ps_set (i := 4) sc_decimal_number.nd rfl (.inl rfl) (pe_slice C8.sl_txt (pv 3) po_none (po_some (pe_un un_neg (pv 1)))))
        (pss_cons (ps_set (i := 5) sc_decimal_number.nd rfl (.inl rfl) (pe_slice C8.sl_txt (pv 3) (po_some (pe_un un_neg (pv 1))) po_none))
        (pss_one (ps_ret (pe_joined (PJ.cons (pe_fmt (pv 2)) (PJ.cons (pe_fmt (pv 4)) (PJ.cons pe_str (PJ.cons (pe_fmt (pv 5)) PJ.nil)))))))))))), ?_⟩
    refine q_asg (ev_sign rfl) fun H1 e1 => ?_
    refine st_is (σ' := [_, _, _, _, _, _]) rfl ?_
    have hz1 : (if n < 0 then [45] else ([] : List Nat)).length ≤ 1 := by split <;> simp
    have hz2 := sm_len (sm_le hn (Nat.div_le_self n.natAbs (10 ^ p)))
    have hzp : (pad p n.natAbs).length = p := pad_len _ _
    refine q_asg (ev_zfill (ev_call (z := .str (S (numL n.natAbs))) (ea_cons (ev_cb (ea_cons (ev_var rfl) ea_nil) rc_abs) ea_nil) (fun H2 e2 Q2 q2 E2 => ⟨n.natAbs, rfl, hn, q2⟩)) (ev_is (ev_op (ev_var rfl) ev_c rv_I0) (congrArg V.int (show (p : Int) + 1 = ((p + 1 : Nat) : Int) by omega))) (padok hp) (zfill_places n.natAbs p)) fun H2 e2 => ?_
    refine st_is (σ' := [_, _, _, _, _, _]) rfl ?_
    by_cases hp0 : p = 0
    · subst hp0
      refine q_when (b := true) (et_is (et_test (ev_op (ev_var rfl) ev_c (rv_eq rfl))) (decide_eq_true rfl)) (fun _ H3 e3 => ?_) (fun z => nomatch z)
      refine s_ret (ev_is (ev_op (ev_var rfl) (ev_var rfl) (rv_cat (by rw [List.length_append, pad_len]; omega))) (congrArg (fun a => V.str (S a)) ?_)) fun H4 e4 => q H4 (e1.trans (e2.trans (e3.trans e4)))
      show _ ++ (numL (n.natAbs / 1) ++ []) = _ ++ numL n.natAbs
      rw [Nat.div_one, List.append_nil]
    · refine q_when (b := false) (et_is (et_test (ev_op (ev_var rfl) ev_c (rv_eq rfl))) (decide_eq_false fun z => hp0 (by have := V.int.inj z; omega))) (fun z => nomatch z) (fun _ H3 e3 => ?_)
      have hb : 0 < (pad p n.natAbs).length := by omega
      refine q_asg (ev_sl (w1 := numL (n.natAbs / 10 ^ p)) (ev_var rfl) eo_none (eo_some (ev_un (ev_var rfl) ru_neg)) (by rw [List.length_append]; omega) (by
        have := slice_to_neg (a := numL (n.natAbs / 10 ^ p)) hb
        rw [hzp] at this
        exact this)) fun H4 e4 => ?_
      refine st_is (σ' := [_, _, _, _, _, _]) rfl ?_
      refine q_asg (ev_sl (w1 := pad p n.natAbs) (ev_var rfl) (eo_some (ev_un (ev_var rfl) ru_neg)) eo_none (by rw [List.length_append]; omega) (by
        have := slice_from_neg (a := numL (n.natAbs / 10 ^ p)) hb
        rw [hzp] at this
        exact this)) fun H5 e5 => ?_
      refine st_is (σ' := [_, _, _, _, _, _]) rfl ?_
      refine s_ret (ev_is (ev_js (as := [if n < 0 then [45] else [], numL (n.natAbs / 10 ^ p), [46], pad p n.natAbs]) (.cons (ev_fmt (ev_var rfl) (by omega)) (.cons (ev_fmt (ev_var rfl) (by omega)) (.cons ev_c (.cons (ev_fmt (ev_var rfl) (by omega)) .nil)))) (by
        simp only [List.flatten_cons, List.flatten_nil, List.length_append, List.length_nil, List.length_singleton]
        omega)) (congrArg (fun a => V.str (S a)) ?_)) fun H6 e6 => q H6 (e1.trans (e2.trans (e3.trans (e4.trans (e5.trans e6)))))
      unfold T
      rw [if_neg hp0]
      simp only [List.flatten_cons, List.flatten_nil, List.append_nil]
def spFewer : Sp := fun vs H Q _ => ∃ (x y : Int) (k : Nat), vs = [.int x, .int y, .int (k : Int)] ∧ RetU [.int (x / 2 ^ k), .int (-(-y / 2 ^ k))] H Q
theorem ok_fewer {f : Addr} {fd : FuncData} (F : Fun K "fewer_bits" "fewer_bits" s_fewer_bits f fd) : FnOk P w K mg base CX0 1 f fd ["low", "high", "bits"] spFewer := by
  refine F.ok sc_fewer_bits (fun vs H Q E h => ?_) (fun cdv A outer s H vs Q E hr h => ?_)
  · obtain ⟨x, y, k, rfl, _⟩ := h
    rfl
  · obtain ⟨x, y, k, rfl, q⟩ := h
    refine ⟨_, (pss_one (ps_ret (pe_tup (pa_cons (pe_op op_shrN (pv 0) (pv 2)) (pa_cons (pe_un un_neg (pe_op op_shrN (pe_un un_neg (pv 1)) (pv 2))) pa_nil))))), ?_⟩
    refine s_retU (eu_tup (ea_cons (ev_op (ev_var rfl) (ev_var rfl) rv_shr) (ea_cons (ev_un (ev_op (ev_un (ev_var rfl) ru_neg) (ev_var rfl) rv_shr) ru_neg) ea_nil)) (show 2 ≤ 100000 by decide)) q
theorem q_asgUg {te : TE} {g : TG} {σ : L2.St} {H : Hp} {D : Ends} {tz : TS} {xs : List V} (h : EvU te σ H xs) (k : ∀ p H1, H p = none → Ex H H1 → H1 p = some (.tup xs) → g (.ref p) σ H1 (fun σ2 H2 => tz D σ2 H2)) : tSeq (tAsg te g) tz D σ H := h H (Ex.refl H) _ k
def ten (p : Nat) : Int := 10 ^ p
theorem ten_succ (p : Nat) : ten p * 10 = ten (p + 1) := (Int.pow_succ 10 p).symm
theorem ten_abs (p : Nat) : (ten p).natAbs = 10 ^ p := by
  unfold ten
  rw [Int.natAbs_pow]
  rfl
theorem ten_le {p : Nat} (h : p ≤ 60) : (ten p).natAbs ≤ 10 ^ 60 := by
  rw [ten_abs]
  exact Nat.pow_le_pow_right (by decide) h
theorem ten_bd {p : Nat} (h : p ≤ 60) : (ten p).natAbs < 2 ^ 200 := Nat.lt_of_le_of_lt (ten_le h) (by decide +kernel)
theorem low_sm {a : Int} {p k : Nat} (ha : Bd 200 a) (h : p ≤ 60) : Sm (a * ten p / 2 ^ k).natAbs := by
  have h1 := ab_div (q := 2 ^ k) (pow_pos k) (ab_mul ha (ten_bd h))
  exact Nat.lt_of_lt_of_le h1 (by decide +kernel)
theorem high_sm {a : Int} {p k : Nat} (ha : Bd 200 a) (h : p ≤ 60) : Sm (-(-(a * ten p) / 2 ^ k)).natAbs := by
  have h1 := ab_neg (ab_div (q := 2 ^ k) (pow_pos k) (ab_neg (ab_mul ha (ten_bd h))))
  exact Nat.lt_of_lt_of_le h1 (by decide +kernel)
def spDecText (K : PySem.W.Frag) : Sp := fun vs H Q _ => ∃ (q0 : Addr) (a b : Int) (k p : Nat), vs = [.ref q0, .int (k : Int), .int (p : Int)] ∧ SqT K H q0 [.int a, .int b] ∧ Bd 200 a ∧ Bd 200 b ∧ p ≤ 60 ∧
  RetV (.str (S (T (a * ten p / 2 ^ k) p ++ [46, 46] ++ T (-(-(b * ten p) / 2 ^ k)) p))) H Q
theorem ok_dectext {f f0 f1 : Addr} {fd fd0 fd1 : FuncData} (F : Fun K "decimal_text" "decimal_text" s_decimal_text f fd) (G_decimal_number : FnOk P w K mg base CX0 2 f0 fd0 ["n", "places"] spDecNum) (F_decimal_number : Fun K "decimal_number" "decimal_number" s_decimal_number f0 fd0) (b_decimal_number : Binds K fd0 ["n", "places"] []) (g_decimal_number : mg "decimal_number" = some (.ref f0))
    (F_fewer_bits : Fun K "fewer_bits" "fewer_bits" s_fewer_bits f1 fd1) (b_fewer_bits : Binds K fd1 ["low", "high", "bits"] []) (g_fewer_bits : mg "fewer_bits" = some (.ref f1)) (m_range : mg "range" = none) : FnOk P w K mg base CX0 3 f fd ["a", "bits", "places"] (spDecText K) := by
  have G_fewer_bits : FnOk P w K mg base CX0 1 f1 fd1 _ spFewer := ok_fewer F_fewer_bits
  refine F.ok sc_decimal_text (fun vs H Q E h => ?_) (fun cdv A outer s H vs Q E hr h => ?_)
  · obtain ⟨q0, a, b, k, p, rfl, _⟩ := h
    rfl
  · obtain ⟨q0, a, b, k, p, rfl, ht, ha, hb, hp, q⟩ := h
    refine ⟨_, (pss_cons (ps_set (i := 3) sc_decimal_text.nd rfl (.inl rfl) pe_int)
        (pss_cons (ps_for PassesOwn.never rfl (pi_range1 (by rfl) m_range (pa_cons (pv 2) pa_nil)) (pg_name (i := 4) sc_decimal_text.nd rfl (.inl rfl)) (pss_one (ps_set (i := 3) sc_decimal_text.nd rfl (.inl rfl) (pe_op op_mulX (pv 3) pe_int))))
        (pss_cons (ps_asg (pe_call G_fewer_bits (hr.mono (by decide)) (by rfl) g_fewer_bits F_fewer_bits.kp b_fewer_bits .nil pass0 (pa_cons (pe_op op_mulX (pe_ix ix_tup (pv 0) pe_int (fun _ _ => rfl)) (pv 3)) (pa_cons (pe_op op_mulX (pe_ix ix_tup (pv 0) pe_int (fun _ _ => rfl)) (pv 3)) (pa_cons (pv 1) pa_nil)))) (pg_tup rfl (pgs_cons (pg_name (i := 5) sc_decimal_text.nd rfl (.inl rfl)) (pgs_cons (pg_name (i := 6) sc_decimal_text.nd rfl (.inl rfl)) pgs_nil))))
        (pss_one (ps_ret (pe_joined (PJ.cons (pe_fmt (pe_call G_decimal_number (hr.mono (by decide)) (by rfl) g_decimal_number F_decimal_number.kp b_decimal_number .nil pass0 (pa_cons (pv 5) (pa_cons (pv 2) pa_nil)))) (PJ.cons pe_str (PJ.cons (pe_fmt (pe_call G_decimal_number (hr.mono (by decide)) (by rfl) g_decimal_number F_decimal_number.kp b_decimal_number .nil pass0 (pa_cons (pv 6) (pa_cons (pv 2) pa_nil)))) PJ.nil))))))))), ?_⟩
    refine q_asg ev_c fun H1 e1 => ?_
    refine st_is (σ' := [_, _, _, _, _, _, _]) rfl ?_
    refine q_forR1 (n := (p : Int)) (ea_cons (ev_var rfl) ea_nil) ⟨by omega, by omega⟩ (fun i σ' H' => ∃ x4, σ' = [some (.ref q0), some (.int (k : Int)), some (.int (p : Int)), some (.int (ten i)), x4, none, none] ∧ Ex H H') (fun H2 e2 => ⟨_, rfl, e1.trans e2⟩) (fun i σ' H' hi pp => ?_) (fun σ' H' pp => ?_)
    · obtain ⟨x4, rfl, e2⟩ := pp
      refine st_is (σ' := [_, _, _, _, _, _, _]) rfl ?_
      refine s_asg (ev_is (ev_op (ev_var rfl) ev_c (rv_I (mulx_ok (a := 200) (b := 4) (ten_bd (by omega)) (by decide) (by decide)))) (congrArg V.int (ten_succ i))) fun H3 e3 => ⟨_, rfl, e2.trans e3⟩
    · obtain ⟨x4, rfl, e2⟩ := pp
      rw [show ((p : Int)).toNat = p by omega]
      have t1 := ex_t e2 ht
      -- low, high
      refine q_asgUg (eu_call (ea_cons (ev_op (ev_op (ev_var rfl) ev_c (rv_ixT t1 rfl)) (ev_var rfl) (rv_I (mulx_ok (a := 200) (b := 200) ha (ten_bd hp) (by decide)))) (ea_cons (ev_op (ev_op (ev_var rfl) ev_c (rv_ixT t1 rfl)) (ev_var rfl) (rv_I (mulx_ok (a := 200) (b := 200) hb (ten_bd hp) (by decide)))) (ea_cons (ev_var rfl) ea_nil))) (fun H2 e2 Q2 k2 E2 => ⟨_, _, k, rfl, k2⟩)) fun r H3 _ e3 hr3 => ?_
      refine ⟨r, [_, _], rfl, .inl (.inl hr3), rfl, _, _, rfl, _, _, rfl, rfl, ?_⟩
      refine st_is (σ' := [_, _, _, _, _, _, _]) rfl ?_
      have s1 := low_sm (k := k) ha hp
      have s2 := high_sm (k := k) hb hp
      have l1 := T_len s1 (show p ≤ 100 by omega)
      have l2 := T_len s2 (show p ≤ 100 by omega)
      generalize a * ten p / 2 ^ k = lo at *
      generalize -(-(b * ten p) / 2 ^ k) = hi at *
      refine s_ret (ev_is (ev_js (as := [T lo p, [46, 46], T hi p]) (.cons (ev_fmt (ev_call (z := .str (S (T lo p))) (ea_cons (ev_var rfl) (ea_cons (ev_var rfl) ea_nil)) (fun H4 e4 Q4 q4 E4 => ⟨lo, p, rfl, s1, by omega, q4⟩)) (by omega)) (.cons ev_c (.cons (ev_fmt (ev_call (z := .str (S (T hi p))) (ea_cons (ev_var rfl) (ea_cons (ev_var rfl) ea_nil)) (fun H4 e4 Q4 q4 E4 => ⟨hi, p, rfl, s2, by omega, q4⟩)) (by omega)) .nil))) (by
        simp only [List.flatten_cons, List.flatten_nil, List.length_append, List.length_nil, List.length_cons]
        omega)) (congrArg (fun a => V.str (S a)) ?_)) fun H4 e4 => q H4 (e2.trans (e3.trans e4))
      simp only [List.flatten_cons, List.flatten_nil, List.append_nil, List.append_assoc]
/-! ### the law's own defs -/
theorem ok_cell {f : Addr} {fd : FuncData} (F : Fun K "_law_cell" "_law_cell" s_law_cell f fd) (m_len : mg "len" = none) : FnOk P w K mg base CX0 1 f fd ["script", "k"] (spCell K) := by
  refine F.ok sc_law_cell (fun vs H Q E h => ?_) (fun cdv A outer s H vs Q E hr h => ?_)
  · obtain ⟨l, ns, j, rfl, _⟩ := h
    rfl
  · obtain ⟨l, ns, j, rfl, hs, q⟩ := h
    refine ⟨_, (pss_cons (ps_if (pt_cmpR op_lt (pv 1) (pe_callB call_len (by rfl) m_len (by decide +kernel) (pa_cons (pv 0) pa_nil)) (nomark _)) (pss_one (ps_ret (pe_ix ix_list (pv 0) (pv 1) (fun _ _ => rfl)))) pss_nil)
        (pss_one (ps_ret pe_int))), ?_⟩
    refine ⟨_, rfl, _, rfl, .ref l, ((ns.map V.int).length : Nat), rfl, .inl ⟨_, hs, rfl⟩, _, _, rfl, rfl, _, rfl, ite2 (fun e => ?_) (fun e => ?_)⟩
    · have hj : j < ns.length := by
        have := of_decide_eq_true e
        rw [List.length_map] at this
        omega
      exact ⟨_, rfl, _, rfl, l, _, _, _, rfl, rfl, hs, atI_cell hj, q⟩
    · have hj : ¬ j < ns.length := fun z => e (decide_eq_true (by rw [List.length_map]; omega))
      rw [cell_out hj] at q
      exact q
theorem ten_nat (p : Nat) : ten p = ((10 ^ p : Nat) : Int) := by
  unfold ten
  rw [Int.natCast_pow]
  rfl
theorem fdiv_nat (a b : Nat) : ((a : Int)).fdiv (b : Int) = ((a / b : Nat) : Int) := by
  rw [Int.fdiv_eq_ediv_of_nonneg _ (by omega), Int.natCast_ediv]
theorem rest_nat (n p : Nat) : (n : Int) - ((n / 10 ^ p : Nat) : Int) * ten p = ((n % 10 ^ p : Nat) : Int) := by
  rw [ten_nat, ← Int.natCast_mul]
  have h := Nat.div_add_mod n (10 ^ p)
  rw [Nat.mul_comm] at h
  omega
def spLNum : Sp := fun vs H Q _ => ∃ (n : Int) (p : Nat), vs = [.int n, .int (p : Int)] ∧ Sm n.natAbs ∧ p ≤ 60 ∧ RetV (.str (S (T n p))) H Q
theorem sm_bd {n : Nat} (h : Sm n) : ((n : Int)).natAbs < 2 ^ 1000 := Nat.lt_of_lt_of_le h (by decide +kernel)
theorem ok_lnum {f : Addr} {fd : FuncData} (F : Fun K "_law_number" "_law_number" s_law_number f fd) (m_abs : mg "abs" = none) (m_str : mg "str" = none) (m_int : mg "int" = none) (m_range : mg "range" = none) : FnOk P w K mg base CX0 1 f fd ["value", "places"] spLNum := by
  refine F.ok sc_law_number (fun vs H Q E h => ?_) (fun cdv A outer s H vs Q E hr h => ?_)
  · obtain ⟨n, p, rfl, _⟩ := h
    rfl
  · obtain ⟨n, p, rfl, hn, hp, q⟩ := h
    refine ⟨_, (pss_cons (ps_set (i := 2) sc_law_number.nd rfl (.inl rfl) pe_int)
        (pss_cons (ps_for PassesOwn.never rfl (pi_range1 (by rfl) m_range (pa_cons (pv 1) pa_nil)) (pg_name (i := 3) sc_law_number.nd rfl (.inl rfl)) (pss_one (ps_set (i := 2) sc_law_number.nd rfl (.inl rfl) (pe_op op_mulX (pv 2) pe_int))))
        (pss_cons (ps_set (i := 4) sc_law_number.nd rfl (.inl rfl) (pe_op op_fdivA (pe_callB call_abs (by rfl) m_abs (by decide +kernel) (pa_cons (pv 0) pa_nil)) (pv 2)))
        (pss_cons (ps_set (i := 5) sc_law_number.nd rfl (.inl rfl) (pe_callTy call_str_int (by rfl) m_str (by decide +kernel) (pa_cons (pv 4) pa_nil)))
        (Evl.pss_cut (ps_if (pt_cmpR op_gt (pv 1) pe_int (nomark _)) (pss_cons (ps_set (i := 6) sc_law_number.nd rfl (.inl rfl) (pe_op op_sub (pe_callB call_abs (by rfl) m_abs (by decide +kernel) (pa_cons (pv 0) pa_nil)) (pe_op op_mulX (pv 4) (pv 2))))
        (pss_cons (ps_set (i := 7) sc_law_number.nd rfl (.inl rfl) pe_str)
        (pss_cons (ps_for PassesOwn.never rfl (pi_range1 (by rfl) m_range (pa_cons (pv 1) pa_nil)) (pg_name (i := 3) sc_law_number.nd rfl (.inl rfl)) (pss_cons (ps_set (i := 7) sc_law_number.nd rfl (.inl rfl) (pe_op op_add_str (pe_callTy call_str_int (by rfl) m_str (by decide +kernel) (pa_cons (pe_op op_mod (pe_callTy call_int1 (by rfl) m_int (by decide +kernel) (pa_cons (pv 6) pa_nil)) pe_int) pa_nil)) (pv 7)))
        (pss_one (ps_set (i := 6) sc_law_number.nd rfl (.inl rfl) (pe_op op_fdiv (pv 6) pe_int)))))
        (pss_one (ps_set (i := 5) sc_law_number.nd rfl (.inl rfl) (pe_op op_add_str (pe_op op_add_str (pv 5) pe_str) (pv 7))))))) pss_nil)
        (Evl.pss_cut (ps_if (pt_cmpR op_lt (pv 0) pe_int (nomark _)) (pss_one (ps_set (i := 5) sc_law_number.nd rfl (.inl rfl) (pe_op op_add_str pe_str (pv 5)))) pss_nil)
        (pss_one (ps_ret (pv 5))))))))), ?_⟩
    obtain ⟨N, hN⟩ : ∃ N, n.natAbs = N := ⟨_, rfl⟩
    rw [hN] at hn
    refine q_asg ev_c fun H1 e1 => ?_
    refine st_is (σ' := [_, _, _, _, _, _, _, _]) rfl ?_
    refine q_forR1 (n := (p : Int)) (ea_cons (ev_var rfl) ea_nil) ⟨by omega, by omega⟩ (fun i σ' H' => ∃ x3, σ' = [some (.int n), some (.int (p : Int)), some (.int (ten i)), x3, none, none, none, none] ∧ Ex H H') (fun H2 e2 => ⟨_, rfl, e1.trans e2⟩) (fun i σ' H' hi pp => ?_) (fun σ' H' pp => ?_)
    · obtain ⟨x3, rfl, e2⟩ := pp
      refine st_is (σ' := [_, _, _, _, _, _, _, _]) rfl ?_
      exact s_asg (ev_is (ev_op (ev_var rfl) ev_c (rv_I (mulx_ok (a := 200) (b := 4) (ten_bd (by omega)) (by decide) (by decide)))) (congrArg V.int (ten_succ i))) fun H3 e3 => ⟨_, rfl, e2.trans e3⟩
    · obtain ⟨x3, rfl, e2⟩ := pp
      rw [show ((p : Int)).toNat = p by omega]
      have h10 : 0 < 10 ^ p := Nat.pow_pos (by decide)
      have dten : CDivA (N : Int) (ten p) := ⟨fun z => by
        rw [ten_nat] at z
        omega, lg (Nat.lt_of_lt_of_le (ten_bd hp) (by decide +kernel)) (by decide)⟩
      -- whole, text
      refine q_asg (ev_is (ev_op (ev_is (ev_cb (ea_cons (ev_var rfl) ea_nil) rc_abs) (congrArg (fun m : Nat => V.int (m : Int)) hN)) (ev_var rfl) (rv_I dten)) (congrArg V.int (show ((N : Int)).fdiv (ten p) = ((N / 10 ^ p : Nat) : Int) by rw [ten_nat, fdiv_nat]))) fun H3 e3 => ?_
      refine st_is (σ' := [_, _, _, _, _, _, _, _]) rfl ?_
      have hs2 : Sm (N / 10 ^ p) := sm_le hn (Nat.div_le_self _ _)
      have hz2 := sm_len hs2
      refine q_asg (ev_cb (ea_cons (ev_var rfl) ea_nil) (rc_str hs2)) fun H4 e4 => ?_
      refine st_is (σ' := [_, _, _, _, _, _, _, _]) rfl ?_
      have e14 := e2.trans (e3.trans e4)
      -- the digits behind the point
      refine q_cut (M := fun σ' H' => ∃ x3 x6 x7, σ' = [some (.int n), some (.int (p : Int)), some (.int (ten p)), x3, some (.int ((N / 10 ^ p : Nat) : Int)), some (.str (S (if p = 0 then numL N else numL (N / 10 ^ p) ++ ([46] ++ pad p N)))), x6, x7] ∧ Ex H H') ?_ fun σ' H' M1 => ?_
      · by_cases hp0 : p = 0
        · subst hp0
          refine s_when (b := false) (et_is (et_test (ev_op (ev_var rfl) ev_c rv_I0)) (by decide)) (fun z => nomatch z) fun _ H5 e5 => ⟨x3, none, none, ?_, e14.trans e5⟩
          rw [if_pos rfl, show N / 10 ^ 0 = N from Nat.div_one N]
        · refine s_when (b := true) (et_is (et_test (ev_op (ev_var rfl) ev_c rv_I0)) (decide_eq_true (by omega))) (fun _ H5 e5 => ?_) (fun z => nomatch z)
          obtain ⟨R, hR⟩ : ∃ R, N % 10 ^ p = R := ⟨_, rfl⟩
          have hRs : Sm R := sm_le hn (by rw [← hR]; exact Nat.mod_le _ _)
          refine q_asg (ev_is (ev_op (ev_is (ev_cb (ea_cons (ev_var rfl) ea_nil) rc_abs) (congrArg (fun m : Nat => V.int (m : Int)) hN)) (ev_op (ev_var rfl) (ev_var rfl) (rv_I (mulx_ok (a := 1000) (b := 200) (sm_bd hs2) (ten_bd hp) (by decide)))) rv_I0) (congrArg V.int (show (N : Int) - ((N / 10 ^ p : Nat) : Int) * ten p = (R : Int) by rw [rest_nat, hR]))) fun H6 e6 => ?_
          refine st_is (σ' := [_, _, _, _, _, _, _, _]) rfl ?_
          refine q_asg ev_c fun H7 e7 => ?_
          refine st_is (σ' := [_, _, _, _, _, _, _, _]) rfl ?_
          have e17 := e14.trans (e5.trans (e6.trans e7))
          refine q_forR1 (n := (p : Int)) (ea_cons (ev_var rfl) ea_nil) ⟨by omega, by omega⟩ (fun i σ' H' => ∃ x3, σ' = [some (.int n), some (.int (p : Int)), some (.int (ten p)), x3, some (.int ((N / 10 ^ p : Nat) : Int)), some (.str (S (numL (N / 10 ^ p)))), some (.int ((R / 10 ^ i : Nat) : Int)), some (.str (S (pad i R)))] ∧ Ex H H') (fun H8 e8 => ⟨x3, ?_, e17.trans e8⟩) (fun i σ' H' hi pp => ?_) (fun σ' H' pp => ?_)
          · rw [show R / 10 ^ 0 = R from Nat.div_one R]
            rfl
          · obtain ⟨x3, rfl, e8⟩ := pp
            refine st_is (σ' := [_, _, _, _, _, _, _, _]) rfl ?_
            have hd : numL (R / 10 ^ i % 10) = [48 + R / 10 ^ i % 10] := TL.numL_lt (by omega)
            have hsd : Sm (R / 10 ^ i % 10) := sm_le hRs (Nat.le_trans (Nat.mod_le _ _) (Nat.div_le_self _ _))
            refine q_asg (v := .str (S (pad (i + 1) R))) (ev_is (ev_op (ev_cb (ea_cons (ev_is (ev_op (ev_cb (ea_cons (ev_var rfl) ea_nil) rc_intI) ev_c (rv_I (by decide))) (congrArg V.int (show ((R / 10 ^ i : Nat) : Int) % 10 = ((R / 10 ^ i % 10 : Nat) : Int) by omega))) ea_nil) (rc_str hsd)) (ev_var rfl) (rv_cat (by rw [hd, pad_len, List.length_singleton]; omega))) (by rw [hd, pad_front]; rfl)) fun H9 e9 => ?_
            refine st_is (σ' := [_, _, _, _, _, _, _, _]) rfl ?_
            refine s_asg (ev_is (ev_op (ev_var rfl) ev_c (rv_I ⟨by decide, by decide⟩)) (congrArg V.int (show (((R / 10 ^ i : Nat) : Int)) / 10 = ((R / 10 ^ (i + 1) : Nat) : Int) by rw [show (10 : Int) = ((10 : Nat) : Int) from rfl, ← Int.natCast_ediv, Nat.div_div_eq_div_mul, Nat.pow_succ]))) fun H10 e10 => ⟨_, rfl, e8.trans (e9.trans e10)⟩
          · obtain ⟨x3, rfl, e8⟩ := pp
            rw [show ((p : Int)).toNat = p by omega]
            refine s_asg (ev_is (ev_op (ev_op (ev_var rfl) ev_c (rv_cat (b := [46]) (by rw [List.length_singleton]; omega))) (ev_var rfl) (rv_cat (by rw [List.length_append, pad_len, List.length_singleton]; omega))) (congrArg (fun a => V.str (S a)) ?_)) fun H9 e9 => ⟨_, _, _, rfl, e8.trans e9⟩
            rw [if_neg hp0, ← hR, pad_mod, List.append_assoc]
      · obtain ⟨x3, x6, x7, rfl, e5⟩ := M1
        have hz5 : (if p = 0 then numL N else numL (N / 10 ^ p) ++ ([46] ++ pad p N)).length ≤ 500 := by
          have := sm_len hn
          split
          · omega
          · rw [List.length_append, List.length_append, pad_len, List.length_singleton]
            omega
        have hT : T n p = (if n < 0 then [45] else []) ++ (if p = 0 then numL N else numL (N / 10 ^ p) ++ ([46] ++ pad p N)) := by
          unfold T
          rw [hN]
        generalize (if p = 0 then numL N else numL (N / 10 ^ p) ++ ([46] ++ pad p N)) = body at hz5 hT ⊢
        refine q_cut (M := fun σ' H' => ∃ x0 x1 x2 x3 x4 x6 x7, σ' = [x0, x1, x2, x3, x4, some (.str (S (T n p))), x6, x7] ∧ Ex H H') ?_ fun σ' H' M2 => ?_
        · refine s_when (b := decide (n < 0)) (et_test (ev_op (ev_var rfl) ev_c rv_I0)) (fun hb H6 e6 => ?_) (fun hb H6 e6 => ?_)
          · refine s_asg (ev_is (ev_op ev_c (ev_var rfl) (rv_cat (a := [45]) (by rw [List.length_singleton]; omega))) (congrArg (fun a => V.str (S a)) ?_)) fun H7 e7 => ⟨_, _, _, _, _, _, _, rfl, e5.trans (e6.trans e7)⟩
            rw [hT, if_pos (of_decide_eq_true hb)]
          · refine ⟨some (.int n), some (.int (p : Int)), some (.int (ten p)), x3, some (.int ((N / 10 ^ p : Nat) : Int)), x6, x7, ?_, e5.trans e6⟩
            rw [hT, if_neg (of_decide_eq_false hb)]
            rfl
        · obtain ⟨x0, x1, x2, x3, x4, x6, x7, rfl, e6⟩ := M2
          exact s_ret (ev_var rfl) fun H7 e7 => q H7 (e6.trans e7)
/-! ### the law -/
def spLaw (K : PySem.W.Frag) : Sp := fun vs H Q _ => ∃ (a : Addr) (ns : List Int), vs = [.ref a] ∧ SqL K H a (ns.map V.int) ∧ ns.length ≤ 63 ∧ ∀ H', Q (.bl true) H'
theorem item4p {x y z u : Nat} {i : Int} (h : 0 ≤ i ∧ i < 4) (hx : x ≤ 60) (hy : y ≤ 60) (hz : z ≤ 60) (hu : u ≤ 60) : ∃ c : Nat, atI [V.int (x : Int), V.int (y : Int), V.int (z : Int), V.int (u : Int)] i = some (.int (c : Int)) ∧ c ≤ 60 := by
  have h3 : i = 0 ∨ i = 1 ∨ i = 2 ∨ i = 3 := by omega
  rcases h3 with rfl | rfl | rfl | rfl
  · exact ⟨x, rfl, hx⟩
  · exact ⟨y, rfl, hy⟩
  · exact ⟨z, rfl, hz⟩
  · exact ⟨u, rfl, hu⟩
theorem item4b {x y z u : Int} {i : Int} (h : 0 ≤ i ∧ i < 4) (hx : Bd 150 x) (hy : Bd 150 y) (hz : Bd 150 z) (hu : Bd 150 u) : ∃ c : Int, atI [V.int x, V.int y, V.int z, V.int u] i = some (.int c) ∧ Bd 150 c := by
  have h3 : i = 0 ∨ i = 1 ∨ i = 2 ∨ i = 3 := by omega
  rcases h3 with rfl | rfl | rfl | rfl
  · exact ⟨x, rfl, hx⟩
  · exact ⟨y, rfl, hy⟩
  · exact ⟨z, rfl, hz⟩
  · exact ⟨u, rfl, hu⟩
theorem bd_sm {x : Int} {c : Nat} (h : x.natAbs ≤ c) (hc : c < 2 ^ 31) : Bd 150 x := ab_mono (a := 31) (Nat.lt_of_le_of_lt h hc) (by decide)
theorem bd_shl {x : Int} {n : Nat} (h : x.natAbs < 2 ^ 31) (hn : n ≤ 60) : Bd 150 (x * 2 ^ n) := ab_mono (ab_shl h) (by omega)
theorem bd_up {a n : Int} (ha : Bd 150 a) (h : 0 ≤ n ∧ n < 50) : Bd 200 (a + n) := ab_mono (ab_add (a := 150) ha (Nat.lt_of_le_of_lt (m := 50) (by omega) (by decide +kernel))) (by decide)
theorem shl60 {x : Int} {n : Nat} (h : x.natAbs < 2 ^ 31) (hn : n ≤ 60) : CShl x (n : Int) := shl_ok h (by omega)
theorem pow62 {k : Nat} (h : k ≤ 60) : (2 : Int) ^ k ≤ 2 ^ 62 := by
  have h1 := Nat.pow_le_pow_right (n := 2) (by decide) (show k ≤ 62 by omega)
  have e : (2 : Int) ^ k = ((2 ^ k : Nat) : Int) := by
    rw [Int.natCast_pow]
    rfl
  rw [e]
  exact Int.le_trans (Int.ofNat_le.mpr h1) (by decide +kernel)
theorem ok_law {f f0 f1 f2 f3 f4 f5 : Addr} {fd fd0 fd1 fd2 fd3 fd4 fd5 : FuncData} (F : Fun K "law" "law" s_law f fd)
    (F_decimal_text : Fun K "decimal_text" "decimal_text" s_decimal_text f0 fd0) (F_fewer_bits : Fun K "fewer_bits" "fewer_bits" s_fewer_bits f1 fd1) (F_decimal_number : Fun K "decimal_number" "decimal_number" s_decimal_number f2 fd2) (F_digits_of : Fun K "digits_of" "digits_of" s_digits_of f3 fd3) (F_law_cell : Fun K "_law_cell" "_law_cell" s_law_cell f4 fd4) (F_law_number : Fun K "_law_number" "_law_number" s_law_number f5 fd5)
    (b_decimal_text : Binds K fd0 ["a", "bits", "places"] []) (b_fewer_bits : Binds K fd1 ["low", "high", "bits"] []) (b_decimal_number : Binds K fd2 ["n", "places"] []) (b_digits_of : Binds K fd3 ["n"] []) (b_law_cell : Binds K fd4 ["script", "k"] []) (b_law_number : Binds K fd5 ["value", "places"] [])
    (g_decimal_text : mg "decimal_text" = some (.ref f0)) (g_fewer_bits : mg "fewer_bits" = some (.ref f1)) (g_decimal_number : mg "decimal_number" = some (.ref f2)) (g_digits_of : mg "digits_of" = some (.ref f3)) (g_law_cell : mg "_law_cell" = some (.ref f4)) (g_law_number : mg "_law_number" = some (.ref f5))
    {t0 t1 : Tok} (g_PIECE : mg "PIECE" = some (.int 10000000000000000000000000000000000000000000000000000000000000000 t0)) (g_PIECE_DIGITS : mg "PIECE_DIGITS" = some (.int 64 t1))
    (m_len : mg "len" = none) (m_abs : mg "abs" = none) (m_int : mg "int" = none) (m_str : mg "str" = none) (m_isinstance : mg "isinstance" = none) (m_range : mg "range" = none) (m_divmod : mg "divmod" = none) (m_reversed : mg "reversed" = none) : FnOk P w K mg base CX0 4 f fd ["script"] (spLaw K) := by
  have G_digits_of : FnOk P w K mg base CX0 1 f3 fd3 ["n"] spDigits := ok_digits F_digits_of g_PIECE g_PIECE_DIGITS m_divmod m_str m_reversed
  have G_decimal_number : FnOk P w K mg base CX0 2 f2 fd2 ["n", "places"] spDecNum := ok_decnum F_decimal_number G_digits_of F_digits_of b_digits_of g_digits_of m_abs
  have G_decimal_text : FnOk P w K mg base CX0 3 f0 fd0 ["a", "bits", "places"] (spDecText K) := ok_dectext F_decimal_text G_decimal_number F_decimal_number b_decimal_number g_decimal_number F_fewer_bits b_fewer_bits g_fewer_bits m_range
  have G_law_cell : FnOk P w K mg base CX0 1 f4 fd4 ["script", "k"] (spCell K) := ok_cell F_law_cell m_len
  have G_law_number : FnOk P w K mg base CX0 1 f5 fd5 ["value", "places"] spLNum := ok_lnum F_law_number m_abs m_str m_int m_range
  refine F.ok sc_law (fun vs H Q E h => ?_) (fun cdv A outer s H vs Q E hr h => ?_)
  · obtain ⟨a, ns, rfl, _⟩ := h
    rfl
  · obtain ⟨sa, ns, rfl, hS, hl, fin⟩ := h
    refine ⟨_, (pss_cons (ps_set (i := 1) sc_law.nd rfl (.inl rfl) (pe_callB call_abs (by rfl) m_abs (by decide +kernel) (pa_cons (pe_call G_law_cell (hr.mono (by decide)) (by rfl) g_law_cell F_law_cell.kp b_law_cell .nil pass0 (pa_cons (pv 0) (pa_cons pe_int pa_nil))) pa_nil)))
        (pss_cons (ps_set (i := 2) sc_law.nd rfl (.inl rfl) (pe_op op_mod (pe_call G_law_cell (hr.mono (by decide)) (by rfl) g_law_cell F_law_cell.kp b_law_cell .nil pass0 (pa_cons (pv 0) (pa_cons pe_int pa_nil))) pe_int))
        (pss_cons (ps_set (i := 3) sc_law.nd rfl (.inl rfl) (pe_op op_mod (pe_callTy call_int1 (by rfl) m_int (by decide +kernel) (pa_cons (pv 1) pa_nil)) pe_int))
        (pss_cons (ps_set (i := 4) sc_law.nd rfl (.inl rfl) (pe_ix ix_list (pe_lst (pa_cons (pe_op op_mod (pe_op op_fdiv (pv 1) pe_int) pe_int) (pa_cons (pe_op op_mod (pe_op op_fdiv (pv 1) pe_int) pe_int) (pa_cons pe_int (pa_cons pe_int pa_nil))))) (pe_op op_mod (pe_op op_fdiv (pv 1) pe_int) pe_int) (fun _ _ => rfl)))
        (pss_cons (ps_set (i := 5) sc_law.nd rfl (.inl rfl) (pe_ix ix_list (pe_lst (pa_cons (pe_op op_sub (pv 2) pe_int) (pa_cons (pe_op op_sub (pe_op op_mod (pe_callTy call_int1 (by rfl) m_int (by decide +kernel) (pa_cons (pv 2) pa_nil)) pe_int) pe_int) (pa_cons (pe_op op_shlN (pe_op op_sub (pv 2) pe_int) (pv 3)) (pa_cons (pe_op op_shlN (pe_op op_mod (pe_callTy call_int1 (by rfl) m_int (by decide +kernel) (pa_cons (pv 2) pa_nil)) pe_int) (pv 3)) pa_nil))))) (pe_op op_mod (pe_op op_fdiv (pv 1) pe_int) pe_int) (fun _ _ => rfl)))
        (pss_cons (ps_set (i := 6) sc_law.nd rfl (.inl rfl) (pe_tup (pa_cons (pv 5) (pa_cons (pe_op op_add (pv 5) (pe_op op_mod (pe_op op_fdiv (pv 1) pe_int) pe_int)) pa_nil))))
        (pss_cons (ps_set (i := 7) sc_law.nd rfl (.inl rfl) pe_int)
        (pss_cons (ps_for PassesOwn.never rfl (pi_range1 (by rfl) m_range (pa_cons (pv 4) pa_nil)) (pg_name (i := 8) sc_law.nd rfl (.inl rfl)) (pss_one (ps_set (i := 7) sc_law.nd rfl (.inl rfl) (pe_op op_mulX (pv 7) pe_int))))
        (pss_cons (ps_set (i := 9) sc_law.nd rfl (.inl rfl) (pe_op op_fdivA (pe_op op_mulX (pe_ix ix_tup (pv 6) pe_int (fun _ _ => rfl)) (pv 7)) (pe_op op_shlN pe_int (pv 3))))
        (pss_cons (ps_set (i := 10) sc_law.nd rfl (.inl rfl) (pe_un un_neg (pe_op op_fdivA (pe_op op_mulX (pe_un un_neg (pe_ix ix_tup (pv 6) pe_int (fun _ _ => rfl))) (pv 7)) (pe_op op_shlN pe_int (pv 3)))))
        (pss_cons (ps_set (i := 11) sc_law.nd rfl (.inl rfl) (pe_call G_decimal_text (hr.mono (by decide)) (by rfl) g_decimal_text F_decimal_text.kp b_decimal_text .nil pass0 (pa_cons (pv 6) (pa_cons (pv 3) (pa_cons (pv 4) pa_nil)))))
        (pss_one (ps_ret (pe_and (pe_callB call_isi (by rfl) m_isinstance (by decide +kernel) (pa_cons (pv 11) (pa_cons (pe_bltn (by rfl) m_str (by decide +kernel) (show RelV (.ty "str") _ from rfl)) pa_nil))) (pe_one (pe_cmpR op_eq (pv 11) (pe_op op_add_str (pe_op op_add_str (pe_call G_law_number (hr.mono (by decide)) (by rfl) g_law_number F_law_number.kp b_law_number .nil pass0 (pa_cons (pv 9) (pa_cons (pv 4) pa_nil))) pe_str) (pe_call G_law_number (hr.mono (by decide)) (by rfl) g_law_number F_law_number.kp b_law_number .nil pass0 (pa_cons (pv 10) (pa_cons (pv 4) pa_nil)))) (nomark _))))))))))))))))), ?_⟩
    -- one, two
    refine q_asg (ev_cb (ea_cons (ev_call (z := .int (cellOf ns 0)) (ea_cons (ev_var rfl) (ea_cons ev_c ea_nil)) (fun H1 e1 Q1 q1 E1 => ⟨sa, ns, 0, rfl, ex_l e1 hS, q1 H1 (Ex.refl H1)⟩)) ea_nil) rc_abs) fun H1 e1 => ?_
    refine st_is (σ' := [_, _, _, _, _, _, _, _, _, _, _, _]) rfl ?_
    replace hS := ex_l e1 hS
    obtain ⟨o, ho⟩ : ∃ n : Nat, (cellOf ns 0).natAbs = n := ⟨_, rfl⟩
    rw [ho]
    obtain ⟨t, ht, ht0⟩ : ∃ t : Int, cellOf ns 1 % 1000000007 = t ∧ 0 ≤ t ∧ t < 1000000007 := ⟨_, rfl, by omega, by omega⟩
    refine q_asg (ev_is (ev_op (ev_call (z := .int (cellOf ns 1)) (ea_cons (ev_var rfl) (ea_cons ev_c ea_nil)) (fun H1 e1 Q1 q1 E1 => ⟨sa, ns, 1, rfl, ex_l e1 hS, q1 H1 (Ex.refl H1)⟩)) ev_c (rv_I (by decide))) (congrArg V.int ht)) fun H2 e2 => ?_
    refine st_is (σ' := [_, _, _, _, _, _, _, _, _, _, _, _]) rfl ?_
    -- bits, places
    obtain ⟨k, hk, hk0⟩ : ∃ k : Nat, (o : Int) % 61 = (k : Int) ∧ k ≤ 60 := ⟨o % 61, by omega, by omega⟩
    refine q_asg (ev_is (ev_op (ev_cb (ea_cons (ev_var rfl) ea_nil) rc_intI) ev_c (rv_I (by decide))) (congrArg V.int hk)) fun H3 e3 => ?_
    refine st_is (σ' := [_, _, _, _, _, _, _, _, _, _, _, _]) rfl ?_
    obtain ⟨p, hp, hp0⟩ := item4p (x := o / 64 % 4) (y := o / 64 % 61) (z := 6) (u := 0) (i := (o : Int) / 4096 % 4) ⟨by omega, by omega⟩ (by omega) (by omega) (by omega) (by omega)
    refine q_asg (v := .int (p : Int)) (ev_opL1 (el_lst (ea_cons (ev_is (ev_op (ev_op (ev_var rfl) ev_c (rv_I ⟨by decide, by decide⟩)) ev_c (rv_I (by decide))) (congrArg V.int (show (o : Int) / 64 % 4 = ((o / 64 % 4 : Nat) : Int) by omega))) (ea_cons (ev_is (ev_op (ev_op (ev_var rfl) ev_c (rv_I ⟨by decide, by decide⟩)) ev_c (rv_I (by decide))) (congrArg V.int (show (o : Int) / 64 % 61 = ((o / 64 % 61 : Nat) : Int) by omega))) (ea_cons ev_c (ea_cons ev_c ea_nil)))) (show 4 ≤ 100000 by decide))
      (fun _ _ => ev_op (ev_op (ev_var rfl) ev_c (rv_I ⟨by decide, by decide⟩)) ev_c (rv_I (by decide))) (fun _ _ hq _ => rv_ixL (sq_of hq) hp)) fun H4 e4 => ?_
    refine st_is (σ' := [_, _, _, _, _, _, _, _, _, _, _, _]) rfl ?_
    clear hp
    -- a
    have b1 : (t - 500000000).natAbs < 2 ^ 31 := by omega
    have b2 : (t % 7).natAbs < 2 ^ 31 := by omega
    obtain ⟨a, ha, hab⟩ := item4b (x := t - 500000000) (y := t % 9 - 4) (z := (t - 500000000) * 2 ^ k) (u := t % 7 * 2 ^ k) (i := (o : Int) / 16384 % 4) ⟨by omega, by omega⟩ (bd_sm (c := 1000000000) (by omega) (by decide)) (bd_sm (c := 1000000000) (by omega) (by decide)) (bd_shl b1 hk0) (bd_shl b2 hk0)
    refine q_asg (v := .int a) (ev_opL1 (el_lst (ea_cons (ev_op (ev_var rfl) ev_c rv_I0) (ea_cons (ev_op (ev_op (ev_cb (ea_cons (ev_var rfl) ea_nil) rc_intI) ev_c (rv_I (by decide))) ev_c rv_I0) (ea_cons (ev_op (ev_op (ev_var rfl) ev_c rv_I0) (ev_var rfl) (rv_shl (shl60 b1 hk0))) (ea_cons (ev_op (ev_op (ev_cb (ea_cons (ev_var rfl) ea_nil) rc_intI) ev_c (rv_I (by decide))) (ev_var rfl) (rv_shl (shl60 b2 hk0))) ea_nil)))) (show 4 ≤ 100000 by decide))
      (fun _ _ => ev_op (ev_op (ev_var rfl) ev_c (rv_I ⟨by decide, by decide⟩)) ev_c (rv_I (by decide))) (fun _ _ hq _ => rv_ixL (sq_of hq) ha)) fun H5 e5 => ?_
    refine st_is (σ' := [_, _, _, _, _, _, _, _, _, _, _, _]) rfl ?_
    clear ha b1 b2
    -- enclosure
    obtain ⟨b, hb, hbb⟩ : ∃ b, a + (o : Int) / 65536 % 50 = b ∧ Bd 200 b := ⟨_, rfl, bd_up hab (by omega)⟩
    have hab2 : Bd 200 a := ab_mono hab (by decide)
    refine q_asgU (eu_tup (ea_cons (ev_var rfl) (ea_cons (ev_is (ev_op (ev_var rfl) (ev_op (ev_op (ev_var rfl) ev_c (rv_I ⟨by decide, by decide⟩)) ev_c (rv_I (by decide))) rv_I0) (congrArg V.int hb)) ea_nil)) (show 2 ≤ 100000 by decide)) fun en H6 _ e6 hen => ?_
    refine st_is (σ' := [_, _, _, _, _, _, _, _, _, _, _, _]) rfl ?_
    -- ten
    refine q_asg ev_c fun H7 e7 => ?_
    refine st_is (σ' := [_, _, _, _, _, _, _, _, _, _, _, _]) rfl ?_
    refine q_forR1 (n := (p : Int)) (ea_cons (ev_var rfl) ea_nil) ⟨by omega, by omega⟩ (fun i σ' H' => ∃ x8, σ' = [some (.ref sa), some (.int (o : Int)), some (.int t), some (.int (k : Int)), some (.int (p : Int)), some (.int a), some (.ref en), some (.int (ten i)), x8, none, none, none] ∧ Ex H6 H') (fun H8 e8 => ⟨_, rfl, e7.trans e8⟩) (fun i σ' H' hi pp => ?_) (fun σ' H' pp => ?_)
    · obtain ⟨x8, rfl, e8⟩ := pp
      refine st_is (σ' := [_, _, _, _, _, _, _, _, _, _, _, _]) rfl ?_
      exact s_asg (ev_is (ev_op (ev_var rfl) ev_c (rv_I (mulx_ok (a := 200) (b := 4) (ten_bd (by omega)) (by decide) (by decide)))) (congrArg V.int (ten_succ i))) fun H9 e9 => ⟨_, rfl, e8.trans e9⟩
    · obtain ⟨x8, rfl, e8⟩ := pp
      rw [show ((p : Int)).toNat = p by omega]
      have te := st_of (K := K) (e8 _ _ hen)
      have k1 : CShl 1 (k : Int) := shl60 (by decide) hk0
      have pw : (1 : Int) * 2 ^ k = 2 ^ k := Int.one_mul _
      have pd : ∀ i : Int, CDivA i ((1 : Int) * 2 ^ k) := fun i => by
        rw [pw]
        refine ⟨fun z => by have := pow_pos k; omega, ?_⟩
        rw [pow_abs]
        exact lg (Nat.pow_lt_pow_right (by decide) (show k < 9000 by omega)) (by decide)
      have fd : ∀ i : Int, i.fdiv (1 * 2 ^ k) = i / 2 ^ k := fun i => by
        rw [pw]
        exact Int.fdiv_eq_ediv_of_nonneg _ (Int.le_of_lt (pow_pos k))
      have el : (a * ten p).fdiv (1 * 2 ^ k) = a * ten p / 2 ^ k := fd _
      have eh : -((-b * ten p).fdiv (1 * 2 ^ k)) = -(-(b * ten p) / 2 ^ k) := by rw [fd, Int.neg_mul]
      -- low, high
      refine q_asg (v := .int (a * ten p / 2 ^ k)) (ev_is (ev_op (ev_op (ev_op (ev_var rfl) ev_c (rv_ixT te rfl)) (ev_var rfl) (rv_I (mulx_ok (a := 200) (b := 200) hab2 (ten_bd hp0) (by decide)))) (ev_op ev_c (ev_var rfl) (rv_shl k1)) (rv_I (pd _))) (congrArg V.int el)) fun H9 e9 => ?_
      refine st_is (σ' := [_, _, _, _, _, _, _, _, _, _, _, _]) rfl ?_
      replace te := ex_t e9 te
      refine q_asg (v := .int (-(-(b * ten p) / 2 ^ k))) (ev_is (ev_un (ev_op (ev_op (ev_un (ev_op (ev_var rfl) ev_c (rv_ixT te rfl)) ru_neg) (ev_var rfl) (rv_I (mulx_ok (a := 200) (b := 200) (ab_neg hbb) (ten_bd hp0) (by decide)))) (ev_op ev_c (ev_var rfl) (rv_shl k1)) (rv_I (pd _))) ru_neg) (congrArg V.int eh)) fun H10 e10 => ?_
      refine st_is (σ' := [_, _, _, _, _, _, _, _, _, _, _, _]) rfl ?_
      replace te := ex_t e10 te
      have s1 := low_sm (k := k) hab2 hp0
      have s2 := high_sm (k := k) hbb hp0
      have l1 := T_len s1 (show p ≤ 100 by omega)
      have l2 := T_len s2 (show p ≤ 100 by omega)
      refine q_asg (v := .str (S (T (a * ten p / 2 ^ k) p ++ [46, 46] ++ T (-(-(b * ten p) / 2 ^ k)) p))) (ev_call (ea_cons (ev_var rfl) (ea_cons (ev_var rfl) (ea_cons (ev_var rfl) ea_nil))) (fun H11 e11 Q11 q11 E11 => ⟨en, a, b, k, p, rfl, ex_t e11 te, hab2, hbb, hp0, q11⟩)) fun H11 e11 => ?_
      refine st_is (σ' := [_, _, _, _, _, _, _, _, _, _, _, _]) rfl ?_
      generalize a * ten p / 2 ^ k = lo at *
      generalize -(-(b * ten p) / 2 ^ k) = hi at *
      refine s_ret (v := .bl true) (ev_is (ev_andV (ev_cb (ea_cons (ev_var rfl) (ea_cons ev_c ea_nil)) rc_isiS) fun _ => (ev_op (ev_var rfl) (ev_op (ev_op (ev_call (z := .str (S (T lo p))) (ea_cons (ev_var rfl) (ea_cons (ev_var rfl) ea_nil)) (fun H12 e12 Q12 q12 E12 => ⟨lo, p, rfl, s1, hp0, q12⟩)) ev_c (rv_cat (b := [46, 46]) (by rw [List.length_cons, List.length_singleton]; omega))) (ev_call (z := .str (S (T hi p))) (ea_cons (ev_var rfl) (ea_cons (ev_var rfl) ea_nil)) (fun H12 e12 Q12 q12 E12 => ⟨hi, p, rfl, s2, hp0, q12⟩)) (rv_cat (by rw [List.length_append, List.length_cons, List.length_singleton]; omega))) (rv_eq rfl))) (congrArg V.bl (by rw [decide_eq_true rfl]; rfl))) fun H12 _ => fin H12
theorem all_mk {l : PySem.W.OpenLaw} {w : World} {K : PySem.W.Frag} {h : Heap} {mg : Str → Option Value} {fa f0 f1 f2 f3 f4 f5 f6 : Addr} (X : K.In h) (G : h.Ns mainGlobals mg) (hfa : mg "law" = some (.ref fa))
    {od0 an0 od1 an1 od2 an2 od3 an3 od4 an4 od5 an5 od6 an6 : Option Addr} {sl0 sl1 sl2 sl3 sl4 sl5 sl6 : Array (Option Value)} {oc0 kV0 dc0 pm0 cd0 ct0 oc1 kV1 dc1 pm1 cd1 ct1 oc2 kV2 dc2 pm2 cd2 ct2 oc3 kV3 dc3 pm3 cd3 ct3 oc4 kV4 dc4 pm4 cd4 ct4 oc5 kV5 dc5 pm5 cd5 ct5 oc6 kV6 dc6 pm6 cd6 ct6 : Value}
    (a0 : PySem.W.nsIn K mainGlobals "decimal_text" = some (some (.ref f0))) (l0 : K.lookup f0 = some ⟨oc0, od0, .func (PySem.W.fnOf "decimal_text" "decimal_text" (defArgs s_decimal_text) (defBody s_decimal_text) (defScope s_decimal_text) .none kV0 dc0 pm0 an0 cd0 ct0), sl0⟩) (c0 : PySem.W.codeIn K cd0 "decimal_text" = true) (k0 : PySem.W.keepIn K (.ref f0) = true)
    (a1 : PySem.W.nsIn K mainGlobals "fewer_bits" = some (some (.ref f1))) (l1 : K.lookup f1 = some ⟨oc1, od1, .func (PySem.W.fnOf "fewer_bits" "fewer_bits" (defArgs s_fewer_bits) (defBody s_fewer_bits) (defScope s_fewer_bits) .none kV1 dc1 pm1 an1 cd1 ct1), sl1⟩) (c1 : PySem.W.codeIn K cd1 "fewer_bits" = true) (k1 : PySem.W.keepIn K (.ref f1) = true)
    (a2 : PySem.W.nsIn K mainGlobals "decimal_number" = some (some (.ref f2))) (l2 : K.lookup f2 = some ⟨oc2, od2, .func (PySem.W.fnOf "decimal_number" "decimal_number" (defArgs s_decimal_number) (defBody s_decimal_number) (defScope s_decimal_number) .none kV2 dc2 pm2 an2 cd2 ct2), sl2⟩) (c2 : PySem.W.codeIn K cd2 "decimal_number" = true) (k2 : PySem.W.keepIn K (.ref f2) = true)
    (a3 : PySem.W.nsIn K mainGlobals "digits_of" = some (some (.ref f3))) (l3 : K.lookup f3 = some ⟨oc3, od3, .func (PySem.W.fnOf "digits_of" "digits_of" (defArgs s_digits_of) (defBody s_digits_of) (defScope s_digits_of) .none kV3 dc3 pm3 an3 cd3 ct3), sl3⟩) (c3 : PySem.W.codeIn K cd3 "digits_of" = true) (k3 : PySem.W.keepIn K (.ref f3) = true)
    (a4 : PySem.W.nsIn K mainGlobals "_law_cell" = some (some (.ref f4))) (l4 : K.lookup f4 = some ⟨oc4, od4, .func (PySem.W.fnOf "_law_cell" "_law_cell" (defArgs s_law_cell) (defBody s_law_cell) (defScope s_law_cell) .none kV4 dc4 pm4 an4 cd4 ct4), sl4⟩) (c4 : PySem.W.codeIn K cd4 "_law_cell" = true) (k4 : PySem.W.keepIn K (.ref f4) = true)
    (a5 : PySem.W.nsIn K mainGlobals "_law_number" = some (some (.ref f5))) (l5 : K.lookup f5 = some ⟨oc5, od5, .func (PySem.W.fnOf "_law_number" "_law_number" (defArgs s_law_number) (defBody s_law_number) (defScope s_law_number) .none kV5 dc5 pm5 an5 cd5 ct5), sl5⟩) (c5 : PySem.W.codeIn K cd5 "_law_number" = true) (k5 : PySem.W.keepIn K (.ref f5) = true)
    (a6 : PySem.W.nsIn K mainGlobals "law" = some (some (.ref f6))) (l6 : K.lookup f6 = some ⟨oc6, od6, .func (PySem.W.fnOf "law" "law" (defArgs s_law) (defBody s_law) (defScope s_law) .none kV6 dc6 pm6 an6 cd6 ct6), sl6⟩) (c6 : PySem.W.codeIn K cd6 "law" = true) (k6 : PySem.W.keepIn K (.ref f6) = true)
    (z0 : PySem.W.nsIn K mainGlobals "len" = some none)
    (z1 : PySem.W.nsIn K mainGlobals "abs" = some none)
    (z2 : PySem.W.nsIn K mainGlobals "int" = some none)
    (z3 : PySem.W.nsIn K mainGlobals "str" = some none)
    (z4 : PySem.W.nsIn K mainGlobals "isinstance" = some none)
    (z5 : PySem.W.nsIn K mainGlobals "range" = some none)
    (z6 : PySem.W.nsIn K mainGlobals "divmod" = some none)
    (z7 : PySem.W.nsIn K mainGlobals "reversed" = some none)
    {t0 t1 : Tok} (u0 : PySem.W.nsIn K mainGlobals "PIECE" = some (some (.int 10000000000000000000000000000000000000000000000000000000000000000 t0))) (u1 : PySem.W.nsIn K mainGlobals "PIECE_DIGITS" = some (some (.int 64 t1)))
    : ∃ fd : FuncData, (∀ (s : Shared) (v : Value), BindsTo s fd ⟨[v], []⟩ [("script", v)]) ∧ ∀ base : Heap, K.In base → base.Ns mainGlobals mg → FnOk l.prog w K mg base CX0 4 fa fd ["script"] (spLaw K) := by
  have e := hfa.symm.trans (PySem.W.mg_of X G a6)
  cases e
  have F_decimal_text := fun_mk (st := s_decimal_text) l0 c0 k0
  have F_fewer_bits := fun_mk (st := s_fewer_bits) l1 c1 k1
  have F_decimal_number := fun_mk (st := s_decimal_number) l2 c2 k2
  have F_digits_of := fun_mk (st := s_digits_of) l3 c3 k3
  have F_law_cell := fun_mk (st := s_law_cell) l4 c4 k4
  have F_law_number := fun_mk (st := s_law_number) l5 c5 k5
  have F_law := fun_mk (st := s_law) l6 c6 k6
  have b_decimal_text := F_decimal_text.binds (ps := ["a", "bits", "places"]) fun _ _ _ _ _ _ us hl => match us, hl with | [_, _, _], _ => rfl
  have g_decimal_text := PySem.W.mg_of X G a0
  have b_fewer_bits := F_fewer_bits.binds (ps := ["low", "high", "bits"]) fun _ _ _ _ _ _ us hl => match us, hl with | [_, _, _], _ => rfl
  have g_fewer_bits := PySem.W.mg_of X G a1
  have b_decimal_number := F_decimal_number.binds (ps := ["n", "places"]) fun _ _ _ _ _ _ us hl => match us, hl with | [_, _], _ => rfl
  have g_decimal_number := PySem.W.mg_of X G a2
  have b_digits_of := F_digits_of.binds (ps := ["n"]) fun _ _ _ _ _ _ us hl => match us, hl with | [_], _ => rfl
  have g_digits_of := PySem.W.mg_of X G a3
  have b_law_cell := F_law_cell.binds (ps := ["script", "k"]) fun _ _ _ _ _ _ us hl => match us, hl with | [_, _], _ => rfl
  have g_law_cell := PySem.W.mg_of X G a4
  have b_law_number := F_law_number.binds (ps := ["value", "places"]) fun _ _ _ _ _ _ us hl => match us, hl with | [_, _], _ => rfl
  have g_law_number := PySem.W.mg_of X G a5
  have m_len := PySem.W.mg_none_of X G z0
  have m_abs := PySem.W.mg_none_of X G z1
  have m_int := PySem.W.mg_none_of X G z2
  have m_str := PySem.W.mg_none_of X G z3
  have m_isinstance := PySem.W.mg_none_of X G z4
  have m_range := PySem.W.mg_none_of X G z5
  have m_divmod := PySem.W.mg_none_of X G z6
  have m_reversed := PySem.W.mg_none_of X G z7
  exact ⟨PySem.W.fnOf "law" "law" (defArgs s_law) (defBody s_law) (defScope s_law) .none kV6 dc6 pm6 an6 cd6 ct6, fun s v => .of_eq rfl, fun base _ _ => ok_law F_law F_decimal_text F_fewer_bits F_decimal_number F_digits_of F_law_cell F_law_number b_decimal_text b_fewer_bits b_decimal_number b_digits_of b_law_cell b_law_number g_decimal_text g_fewer_bits g_decimal_number g_digits_of g_law_cell g_law_number (PySem.W.mg_of X G u0) (PySem.W.mg_of X G u1) m_len m_abs m_int m_str m_isinstance m_range m_divmod m_reversed⟩
end
end K03
open PySem PySem.W PyProof.Rows
set_option maxHeartbeats 0 in
theorem PySem.Challenge.cw_portolan_k03_decimal_texts_holds : PySem.Challenge.rw_portolan_k03_decimal_texts.Holds := by
  w_on; o_law; k_head; (case hw => w_witness2)
  k_fill
  refine L2.walk_of (l := PySem.Challenge.rw_portolan_k03_decimal_texts) (n := 63) (k := 4) (x := "script") (CX := fun _ => L2.CX0) (sp := fun w => K03.spLaw _) rfl (by decide) rfl ⟨rfl, by decide, by decide⟩ (fun w h Y => PySem.W.kIn_of Y) ?F (fun _ _ a ns hl _ hS => ⟨a, ns, rfl, hS, hl, fun _ => rfl⟩) (fun _ _ _ _ _ h => h)
  case F =>
    intro w mg fa h KX G hmg
    refine' K03.all_mk KX G hmg ?a0 ?l0 ?c0 ?k0 ?a1 ?l1 ?c1 ?k1 ?a2 ?l2 ?c2 ?k2 ?a3 ?l3 ?c3 ?k3 ?a4 ?l4 ?c4 ?k4 ?a5 ?l5 ?c5 ?k5 ?a6 ?l6 ?c6 ?k6 ?z0 ?z1 ?z2 ?z3 ?z4 ?z5 ?z6 ?z7 ?u0 ?u1
    (case a0 => k_is); (case l0 => k_is); (case c0 => k_is); (case k0 => k_is); (case a1 => k_is); (case l1 => k_is); (case c1 => k_is); (case k1 => k_is); (case a2 => k_is); (case l2 => k_is); (case c2 => k_is); (case k2 => k_is); (case a3 => k_is); (case l3 => k_is); (case c3 => k_is); (case k3 => k_is); (case a4 => k_is); (case l4 => k_is); (case c4 => k_is); (case k4 => k_is); (case a5 => k_is); (case l5 => k_is); (case c5 => k_is); (case k5 => k_is); (case a6 => k_is); (case l6 => k_is); (case c6 => k_is); (case k6 => k_is); (case z0 => k_is); (case z1 => k_is); (case z2 => k_is); (case z3 => k_is); (case z4 => k_is); (case z5 => k_is); (case z6 => k_is); (case z7 => k_is); (case u0 => k_is); (case u1 => k_is)

