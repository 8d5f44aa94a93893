import PyProof.Rows.All
import Wide.All
import OpenK.AllK
import Wide.FinOn
import PySem.Challenge.RW_portolan_k08_formulas_tidied
import HandS.Small
import HandS.Deep
import HandS.RevRange
import HandS.TupLen
import HandS.Dict
import HandS.SetFor
import HandS.ForMost
import HandS.Evl
import HandS.Wide
import HandS.WideBits
import HandS.Style
import HandS.IsInst
import PyProof.P3Eq
import KE.GoesEnum
import HandS.Star
import HandS.Conv
import HandS.More
import HandS.Walk
import HandS.Codes
import HandS.Words
import HandS.Zip
import HandS.Strs
set_option Elab.async false
set_option linter.all false
set_option maxRecDepth 100000
set_option maxHeartbeats 4000000
/-! Own rules over the layer: what a reading evaluates to, for texts that change nothing. -/
namespace Cm
open PySem PySem.Spec PyProof.Rows L2 Evl

theorem ex_app {H H' : Hp} (e : Ex H H') {p : Addr} {o : HO} (h : H p = some o) : H' p = some o := e p o h
/-- a new tuple comes back -/
def RetU (xs : List V) (H : Hp) (Q : VK) : Prop := ∀ p H2, H p = none → Ex H H2 → H2 p = some (.tup xs) → Q (.ref p) H2
def SpU (sp : Sp) (vs : List V) (H : Hp) (xs : List V) : Prop := ∀ H1, Ex H H1 → ∀ Q : VK, (∀ p H2, H1 p = none → Ex H1 H2 → H2 p = some (.tup xs) → Q (.ref p) H2) → ∀ E : XK, sp vs H1 Q E
section
variable {K : PySem.W.Frag} {σ : L2.St} {H H' : Hp} {ta tb tc te tx : TE} {t u : TT} {x y z v w : V} {r r' : R2} {D : Ends} {tz : TS}
/-- the slots written out anew -/
theorem st_is {σ' : L2.St} {ts : TS} (e : σ = σ') (h : ts D σ' H) : ts D σ H := by
  rw [e]
  exact h
theorem RetU.go {xs : List V} {Q : VK} (k : RetU xs H Q) (e : Ex H H') {p : Addr} {H2 : Hp} (hp : H' p = none) (e2 : Ex H' H2) (h : H2 p = some (.tup xs)) : Q (.ref p) H2 := k p H2 (fresh_back e hp) (e.trans e2) h
theorem eu_call {sp : Sp} {dvs vs xs : List V} {E : XK} {ta : TA} (h : EvA ta σ H vs) (hs : SpU sp (vs ++ dvs) H xs) : EvU (tCall sp dvs E ta) σ H xs := fun H1 e Q q =>
  h H1 e _ fun H2 e2 => hs H2 (e.trans e2) Q (fun p H3 hp e3 h3 => q p H3 (fresh_back e2 hp) (e2.trans e3) h3) E
theorem eu_is {xs ys : List V} (h : EvU te σ H xs) (e : xs = ys) : EvU te σ H ys := by
  rw [← e]
  exact h
/-- a call whose first argument is a new tuple -/
theorem ev_callU {sp : Sp} {dvs vs xs : List V} {E : XK} {tr : TA} (h1 : EvU te σ H xs) (h2 : EvA tr σ H vs) (hs : ∀ p H1, Ex H H1 → H1 p = some (.tup xs) → SpV sp (.ref p :: vs ++ dvs) H1 z) : Ev (tCall sp dvs E (tCons te tr)) σ H z := fun H1 e Q q =>
  h1 H1 e _ fun p H2 np e2 hp => h2 H2 (e.trans e2) _ fun H3 e3 => hs p H3 ((e.trans e2).trans e3) (e3 _ _ hp) H3 (Ex.refl H3) Q (fun H4 e4 => q H4 ((e2.trans e3).trans e4)) E
/-- .. whose second argument is a new tuple -/
theorem ev_callVU {sp : Sp} {dvs vs xs : List V} {E : XK} {tr : TA} (h0 : Ev ta σ H x) (h1 : EvU te σ H xs) (h2 : EvA tr σ H vs) (hs : ∀ p H1, Ex H H1 → H1 p = some (.tup xs) → SpV sp (x :: .ref p :: vs ++ dvs) H1 z) : Ev (tCall sp dvs E (tCons ta (tCons te tr))) σ H z := fun H1 e Q q =>
  h0 H1 e _ fun H2 e2 => h1 H2 (e.trans e2) _ fun p H3 np e3 hp => h2 H3 ((e.trans e2).trans e3) _ fun H4 e4 => hs p H4 (((e.trans e2).trans e3).trans e4) (e4 _ _ hp) H4 (Ex.refl H4) Q (fun H5 e5 => q H5 (((e2.trans e3).trans e4).trans e5)) E
theorem ev_chain {b c : Bool} (ha : Ev ta σ H x) (hb : Ev tb σ H y) (hc : Ev tc σ H w) (h1 : RV r x y H (.bl b)) (h2 : RV r' y w H (.bl c)) : Ev (tChain r r' ta tb tc) σ H (.bl (b && c)) := fun H1 e Q q =>
  ha H1 e _ fun H2 e2 => hb H2 (e.trans e2) _ fun H3 e3 => h1 H3 ((e.trans e2).trans e3) _ fun H4 e4 => ⟨b, rfl, by
    cases b with
    | true =>
      show tc σ H4 _
      exact hc H4 (((e.trans e2).trans e3).trans e4) _ fun H5 e5 => h2 H5 ((((e.trans e2).trans e3).trans e4).trans e5) Q fun H6 e6 => q H6 ((((e2.trans e3).trans e4).trans e5).trans e6)
    | false =>
      show Q (.bl false) H4
      exact q H4 ((e2.trans e3).trans e4)⟩
theorem rv_shl {i : Int} {k : Nat} (h : CShl i (k : Int)) : RV (fun x y H Q => ∃ (i : Int) (k : Nat), x = .int i ∧ y = .int (k : Int) ∧ CShl i (k : Int) ∧ Q (.int (i * 2 ^ k)) H) (.int i) (.int (k : Int)) H (.int (i * 2 ^ k)) :=
  fun H1 _ _ q => ⟨i, k, rfl, rfl, h, q H1 (Ex.refl H1)⟩
theorem rv_shr {i : Int} {k : Nat} : RV (fun x y H Q => ∃ (i : Int) (k : Nat), x = .int i ∧ y = .int (k : Int) ∧ Q (.int (i / 2 ^ k)) H) (.int i) (.int (k : Int)) H (.int (i / 2 ^ k)) :=
  fun H1 _ _ q => ⟨i, k, rfl, rfl, q H1 (Ex.refl H1)⟩
theorem rv_isB {a b : Bool} : RV rIsB (.bl a) (.bl b) H (.bl (decide (a = b))) := fun H1 _ _ q => ⟨a, b, rfl, rfl, q H1 (Ex.refl H1)⟩
theorem rv_notB {a b : Bool} : RV rNotB (.bl a) (.bl b) H (.bl (!decide (a = b))) := fun H1 _ _ q => ⟨a, b, rfl, rfl, q H1 (Ex.refl H1)⟩
theorem rv_isN : RV (fun x y H Q => y = .non ∧ Q (.bl (decide (x = .non))) H) x .non H (.bl (decide (x = .non))) := fun H1 _ _ q => ⟨rfl, q H1 (Ex.refl H1)⟩
theorem rv_notN : RV (fun x y H Q => y = .non ∧ Q (.bl (!decide (x = .non))) H) x .non H (.bl (!decide (x = .non))) := fun H1 _ _ q => ⟨rfl, q H1 (Ex.refl H1)⟩
theorem rc_abs {i : Int} : RC (fun xs H Q => ∃ i, xs = [.int i] ∧ Q (.int (if i < 0 then -i else i)) H) [.int i] H (.int (i.natAbs : Int)) := fun H1 _ Q q => ⟨i, rfl, by
  have e : (if i < 0 then -i else i) = (i.natAbs : Int) := by split <;> omega
  rw [e]
  exact q H1 (Ex.refl H1)⟩
theorem rc_max2 {i j : Int} : RC (fun xs H Q => ∃ i j, xs = [.int i, .int j] ∧ Q (.int (if j > i then j else i)) H) [.int i, .int j] H (.int (max i j)) := fun H1 _ Q q => ⟨i, j, rfl, by
  have e : (if j > i then j else i) = max i j := by split <;> omega
  rw [e]
  exact q H1 (Ex.refl H1)⟩
theorem rc_min2 {i j : Int} : RC (fun xs H Q => ∃ i j, xs = [.int i, .int j] ∧ Q (.int (if j < i then j else i)) H) [.int i, .int j] H (.int (min i j)) := fun H1 _ Q q => ⟨i, j, rfl, by
  have e : (if j < i then j else i) = min i j := by split <;> omega
  rw [e]
  exact q H1 (Ex.refl H1)⟩
theorem rc_intB {k : Bool} : RC (fun xs H Q => (∃ i, xs = [.int i] ∧ Q (.int i) H) ∨ ∃ k, xs = [.bl k] ∧ Q (.int (if k then 1 else 0)) H) [.bl k] H (.int (if k then 1 else 0)) := fun H1 _ Q q => Or.inr ⟨k, rfl, q H1 (Ex.refl H1)⟩
theorem rc_intI {i : Int} : RC (fun xs H Q => (∃ i, xs = [.int i] ∧ Q (.int i) H) ∨ ∃ k, xs = [.bl k] ∧ Q (.int (if k then 1 else 0)) H) [.int i] H (.int i) := fun H1 _ Q q => Or.inl ⟨i, rfl, q H1 (Ex.refl H1)⟩
theorem rc_isiT {p : Addr} {xs : List V} (h : H p = some (.tup xs)) : RC (rIsi K) [.ref p, .ty "tuple"] H (.bl true) := fun H1 e _ q =>
  ⟨.ref p, .ty "tuple", .type "tuple", .type "tuple", true, rfl, .ty _, .base (.tup (e _ _ h)), kit_ty (by decide +kernel), q H1 (Ex.refl H1)⟩
theorem rc_isiS {x : Str} : RC (rIsi K) [.str x, .ty "str"] H (.bl true) := fun H1 e _ q =>
  ⟨.str x, .ty "str", .type "str", .type "str", true, rfl, .ty _, .base (.str x), kit_ty (by decide +kernel), q H1 (Ex.refl H1)⟩
theorem rc_lenL {p : Addr} {xs : List V} (h : SqL K H p xs) : RC (fun xs H Q => ∃ x n, xs = [x] ∧ LenV K x H n ∧ Q (.int n) H) [.ref p] H (.int (xs.length : Int)) := fun H1 e _ q =>
  ⟨.ref p, (xs.length : Nat), rfl, .inl ⟨_, ex_l e h, rfl⟩, q H1 (Ex.refl H1)⟩
/-! ### data -/
mutual
theorem dp_mono (e : Ex H H') : ∀ (d : PyData) (v : V), Dp K H v d → Dp K H' v d
  | _, _, .non => .non
  | _, _, .bl b => .bl b
  | _, _, .int i => .int i
  | _, _, .str x => .str x
  | _, _, .lst h a => .lst (ex_l e h) (dps_mono e _ _ a)
  | _, _, .tup h a => .tup (ex_t e h) (dps_mono e _ _ a)
theorem dps_mono (e : Ex H H') : ∀ (ds : List PyData) (vs : List V), DpAll K H vs ds → DpAll K H' vs ds
  | _, _, .nil => .nil
  | _, _, .cons h t => .cons (dp_mono e _ _ h) (dps_mono e _ _ t)
end
theorem dpInts : ∀ (is : List Int), DpAll K H (is.map V.int) (is.map PyData.int)
  | [] => .nil
  | i :: r => .cons (.int i) (dpInts r)
theorem eqvS {d : PyData} (h : SeqAt.shaped d = true) : PyData.eqv d d = true := by
  unfold SeqAt.shaped at h
  rw [Bool.and_eq_true] at h
  exact PySem.SeqAt.eqv_refl d h.1
/-- the same data on both sides -/
theorem rv_neS {d : PyData} (hx : Dp K H x d) (hy : Dp K H y d) (hs : SeqAt.shaped d = true) : RV (rNeD K) x y H (.bl false) := fun H1 e Q q =>
  ⟨d, d, dp_mono e _ _ hx, dp_mono e _ _ hy, hs, hs, by
    rw [eqvS hs]
    exact q H1 (Ex.refl H1)⟩
theorem rv_eqS {d : PyData} (hx : Dp K H x d) (hy : Dp K H y d) (hs : SeqAt.shaped d = true) : RV (rEqD K) x y H (.bl true) := fun H1 e Q q =>
  ⟨d, d, dp_mono e _ _ hx, dp_mono e _ _ hy, hs, hs, by
    rw [eqvS hs]
    exact q H1 (Ex.refl H1)⟩
/-- a pair of ints -/
theorem dp2 {p : Addr} {i j : Int} (h : SqT K H p [.int i, .int j]) : Dp K H (.ref p) (.tuple [.int i, .int j]) := .tup h (.cons (.int i) (.cons (.int j) .nil))
theorem sh2 {i j : Int} : SeqAt.shaped (.tuple [.int i, .int j]) = true := rfl
end
/-! ### numbers -/
/-- a bound that omega does not look into -/
def Bd (k : Nat) (x : Int) : Prop := x.natAbs < 2 ^ k
theorem pow_pos (n : Nat) : (0 : Int) < 2 ^ n := PySem.W.kbt_pos n
theorem pow_abs (n : Nat) : ((2 : Int) ^ n).natAbs = 2 ^ n := by
  rw [Int.natAbs_pow]
  rfl
theorem ab_mono {x : Int} {a b : Nat} (h : x.natAbs < 2 ^ a) (hab : a ≤ b) : x.natAbs < 2 ^ b := Nat.lt_of_lt_of_le h (Nat.pow_le_pow_right (by decide) hab)
theorem ab_pow {n k : Nat} (h : n < k) : ((2 : Int) ^ n).natAbs < 2 ^ k := by
  rw [pow_abs]
  exact Nat.pow_lt_pow_right (by decide) h
theorem ab_shl {x : Int} {a n : Nat} (h : x.natAbs < 2 ^ a) : (x * 2 ^ n).natAbs < 2 ^ (a + n) := by
  rw [Int.natAbs_mul, pow_abs, Nat.pow_add]
  exact Nat.mul_lt_mul_of_pos_right h (Nat.two_pow_pos n)
theorem ab_mul {x y : Int} {a b : Nat} (hx : x.natAbs < 2 ^ a) (hy : y.natAbs < 2 ^ b) : (x * y).natAbs < 2 ^ (a + b) := wide_lt hx hy
theorem ab_add {x y : Int} {a : Nat} (hx : x.natAbs < 2 ^ a) (hy : y.natAbs < 2 ^ a) : (x + y).natAbs < 2 ^ (a + 1) := by
  have e : 2 ^ (a + 1) = 2 ^ a + 2 ^ a := by rw [Nat.pow_succ]; omega
  omega
theorem ab_neg {x : Int} {a : Nat} (hx : x.natAbs < 2 ^ a) : (-x).natAbs < 2 ^ a := by omega
theorem ab_sm {x : Int} {a c : Nat} (h : x.natAbs ≤ c) (hc : c < 2 ^ a) : x.natAbs < 2 ^ a := Nat.lt_of_le_of_lt h hc
theorem fl_le {s q : Int} (hq : 0 < q) : s / q * q ≤ s := Int.ediv_mul_le s (by omega)
theorem fl_lt {s q : Int} (hq : 0 < q) : s < (s / q + 1) * q := by
  rw [Int.add_mul, Int.one_mul]
  exact Int.lt_ediv_add_one_mul_self s hq |> fun h => by rw [Int.add_mul, Int.one_mul] at h; exact h
theorem cl_ge {s q : Int} (hq : 0 < q) : s ≤ -(-s / q) * q := by
  have h := fl_le (s := -s) hq
  rw [Int.neg_mul]
  omega
theorem cl_lt {s q : Int} (hq : 0 < q) : (-(-s / q) - 1) * q < s := by
  have h := fl_lt (s := -s) hq
  rw [Int.sub_mul, Int.one_mul, Int.neg_mul]
  rw [Int.add_mul, Int.one_mul] at h
  omega
theorem ab_div {x q : Int} {a : Nat} (hq : 0 < q) (h : x.natAbs < 2 ^ a) : (x / q).natAbs < 2 ^ a := by
  have h1 : (x / q).natAbs ≤ x.natAbs := by
    by_cases hx : 0 ≤ x
    · have := Int.ediv_le_self q hx
      have := Int.ediv_nonneg hx (Int.le_of_lt hq)
      omega
    · have h2 : x / q < 0 := Int.ediv_neg_of_neg_of_pos (by omega) hq
      have h3 := fl_lt (s := x) hq
      have h4 : (x / q + 1) * q ≤ (x / q + 1) := by
        have h5 : (x / q + 1) * (q - 1) ≤ 0 := Int.mul_nonpos_of_nonpos_of_nonneg (by omega) (by omega)
        rw [Int.mul_sub, Int.mul_one] at h5
        omega
      omega
  omega
theorem mul_le_r {a b q : Int} (h : a ≤ b) (hq : 0 < q) : a * q ≤ b * q := Int.mul_le_mul_of_nonneg_right h (Int.le_of_lt hq)
/-- the ceiling, by one more where the floor is not exact -/
theorem ceil_eq {s q : Int} (hq : 0 < q) : -(-s / q) = s / q + (if (!decide (s / q * q = s)) = true then 1 else 0) := by
  have a1 := fl_le (s := s) hq
  have a2 := fl_lt (s := s) hq
  have b1 := cl_ge (s := s) hq
  have b2 := cl_lt (s := s) hq
  have lt_of : ∀ {u v : Int}, u * q < v * q → u < v := fun h => Int.lt_of_mul_lt_mul_right h (Int.le_of_lt hq)
  have c1 : -(-s / q) - 1 < s / q + 1 := lt_of (Int.lt_trans b2 a2)
  by_cases e : s / q * q = s
  · rw [decide_eq_true e]
    have c2 : -(-s / q) - 1 < s / q := lt_of (by rw [e]; exact b2)
    have c3 : s / q - 1 < -(-s / q) := lt_of (Int.lt_of_lt_of_le (by rw [Int.sub_mul, Int.one_mul, e]; omega) b1)
    show _ = s / q + 0
    omega
  · rw [decide_eq_false e]
    have c3 : s / q < -(-s / q) := lt_of (by omega)
    show _ = s / q + 1
    omega
end Cm

/-! Own rule: for i, x in enumerate(t), t a tuple. -/
namespace Et
open PySem PySem.Spec PyProof.Rows L2

theorem meets1 {v : Value} {o : Obj} {H : Heap → Prop} (B : Begins v o H) :
    Meets (Builtin.«enumerate.__new__» ⟨[.type "enumerate", v], []⟩) (fun _ R s => H s.heap ∧
      R (.ok (.ret (.ref (s.heap.push o).objs.size))) { s with heap := (s.heap.push o).push { cls := .type "enumerate", data := .fields #[.none, .bool false, .ref s.heap.objs.size, rawInt 0, .none, .none] } }) :=
  .of_wp fun prog w A R s h => by
    obtain ⟨hp, g, d, tk, os⟩ := s; obtain ⟨h1, h⟩ := h
    have hsub := sub_enumerate
    have q1 : ∀ {A' : Around} {E : Value → Shared → Prop} {Q : Value → Shared → Prop}, Q (.ref hp.objs.size) ⟨hp.push o, g, d, tk, os⟩ → wpAny (model prog w) A' (pyIter v) Q E ⟨hp, g, d, tk, os⟩ :=
      fun q => B.iter prog w _ _ ⟨hp, g, d, tk, os⟩ _ h1 q
    wp_walk using q1
    refine wpAny_stack_any fun st => wpAny_pure ?_
    split
    · rename_i c _ _ _ _ _
      cases (c == Value.type "enumerate")
      · wp_walk using q1
        exact ⟨_, rfl, h⟩
      · wp_walk using q1
        exact ⟨_, rfl, h⟩
    · wp_walk using q1
      exact ⟨_, rfl, h⟩
section
variable {prog : Program} {w : World} {A : Around} {E : Value → Shared → Prop} {s : Shared}
theorem begins1 {v : Value} {o : Obj} {H : Heap → Prop} {Q : Value → Shared → Prop} (B : Begins v o H) (h1 : H s.heap)
    (h : ∀ h', IsEnum h' (s.heap.objs.size + 1) s.heap.objs.size 0 .none → h'.get? s.heap.objs.size = some o → h'.objs.size = s.heap.objs.size + 2 →
      (∀ b o, s.heap.get? b = some o → h'.get? b = some o) → Q (.ref (s.heap.objs.size + 1)) { s with heap := h' }) :
    wpAny (model prog w) A (call (.type "enumerate") [v]) Q E s := by
  refine callType_new F.called_enumerate (by decide) (F.typeCall_enumerate_1 _) (F.newCall_enumerate_1 _) (fun obj => F.args_object_init_2 obj _) F.entry_enumerate_new
    (meets1 B) ⟨h1, ?_⟩
  have hz : (s.heap.push o).objs.size = s.heap.objs.size + 1 := Heap.size_push ..
  show _ ∧ _
  rw [hz]
  have he : IsEnum ((s.heap.push o).push { cls := .type "enumerate", data := .fields #[.none, .bool false, .ref s.heap.objs.size, rawInt 0, .none, .none] }) (s.heap.objs.size + 1) s.heap.objs.size 0 .none := by
    have := Heap.get?_push_size (s.heap.push o) (o := { cls := .type "enumerate", data := .fields #[.none, .bool false, .ref s.heap.objs.size, rawInt 0, .none, .none] }) rfl
    rw [hz] at this; exact this
  refine ⟨⟨_, he, rfl⟩, h _ he (Heap.get?_push_of_some _ (Heap.get?_push_size _ B.free)) (by rw [Heap.size_push, hz]) fun b o x => Heap.get?_push_of_some _ (Heap.get?_push_of_some _ x)⟩
end
section
variable {prog : Program} {w : World} {A : Around} {E : Value → Shared → Prop} {s : Shared}
theorem enum_endT {e it l : Addr} {i : Nat} {items : Array Value} {old : Value} {Q : Option Value → Shared → Prop} (hh : A.handled = none)
    (he : IsEnum s.heap e it i old) (hit : s.heap.IsTupleIter it l i) (hl : s.heap.IsTuple l items) (hx : items[i]? = none)
    (hQ : ∀ h', Heap.ExtBut it s.heap h' → Q none { s with heap := h' }) : wpAny (model prog w) A (pyNext (.ref e)) Q E s := by
  have hT : s.TypeIs (.ref e) "enumerate" := ⟨_, he, rfl⟩
  unfold pyNext
  refine wpAny_bind (wpAny_attempt (wpAny_callSpecial?_slot (name := Str.ofString "__next__") hT F.slot_enumerate_next
    (wpAny_call_entry F.slot_enumerate_next hT F.entry_enumerate_next ?_ (F.args_enumerate_next_1 _))))
  show wpAny _ _ (field (.ref e) 2 >>= _) _ _ _
  refine wpAny_bind (wpAny_field he rfl (x := .ref it) rfl ?_)
  refine wpAny_bind (wpAny_nextOf_tuple_end hh hit hl hx fun h' x he' hx' => ?_)
  obtain ⟨o, ho, hc⟩ := hx'
  refine wpAny_bind (wpAny_isInstance (T := "StopIteration") (b := true) ⟨o, ho, hc⟩ isSubtype_stop ?_)
  exact wpAny_pure (hQ _ he')
end
/-- the tuple at a as it stands at each turn, each item in a new pair -/
def Iet (K : PySem.W.Frag) (a : Addr) : It :=
  ⟨fun i H => ∃ (xs : List V) (x : V), SqT K H a xs ∧ xs[i]? = some x, fun i H v H' => ∃ T x, v = .ref T ∧ H T = none ∧ H' = upd H T (.tup [.int (i : Nat), x]) ∧ ∀ xs, SqT K H a xs → xs[i]? = some x, fun i H => ∃ xs : List V, SqT K H a xs ∧ xs.length ≤ i⟩
theorem turn_enumT {P : Program} {w : World} {K : PySem.W.Frag} {elts : List Expr} {kk : Nat} {tpos : Pos} (a e it : Addr) :
    Turn P w K (.Tuple elts kk tpos) (Iet K a) [e, it] e (fun i h => (∃ old, IsEnum h e it ((i : Nat) : Int) old) ∧ h.IsTupleIter it a i ∧ e ≠ it) where
  mem := by simp
  obj := fun i h st b hb => by
    obtain ⟨⟨old, he⟩, ⟨o, ho, hc, hd⟩, _⟩ := st
    have e' : b = e ∨ b = it := by simpa using hb
    rcases e' with z | z
    · rw [z]; exact ⟨_, he, fun v q => nomatch q⟩
    · rw [z]; exact ⟨o, ho, fun v q => by rw [hd] at q; cases q⟩
  keep := fun i h h' st k => let ⟨⟨old, he⟩, hi, hne⟩ := st; ⟨⟨old, k e (by simp) _ he⟩, hi.at fun o q => k it (by simp) o q, hne⟩
  item := by
    intro X hP hw hK hc i pins s σ H E I hf st hg
    subst hP hw hK
    obtain ⟨⟨old, he⟩, hit, hne⟩ := st
    obtain ⟨xs, x, hq, hx⟩ := hg
    obtain ⟨its, rv, p, hz⟩ := I.tuple hq
    obtain ⟨u, hu, ru⟩ := rv.get hx
    have hel : e < s.heap.objs.size := Heap.lt_size he
    have hil : it < s.heap.objs.size := by obtain ⟨_, q, _⟩ := hit; exact Heap.lt_size q
    have hat : a ≠ it := fun z => by
      subst z
      obtain ⟨o1, e1, c1, _⟩ := hit
      obtain ⟨o2, e2, c2, _⟩ := p
      rw [e1] at e2
      cases e2
      rw [c1] at c2
      exact absurd (Value.type.inj c2) (by decide)
    have hae : a ≠ e := fun z => by
      subst z
      obtain ⟨o2, e2, c2, _⟩ := p
      rw [he] at e2
      cases e2
      exact absurd (Value.type.inj c2) (by decide)
    have hlt : i < its.toArray.size := by
      rw [List.size_toArray]
      exact (List.getElem?_eq_some_iff.mp hu).1
    refine wpAny_pyNext_enum_itemD (Draws.tuple (A := X.A.in1) (I.ok.hd hc) it a hat its.toArray) he ⟨hit, p⟩ hlt hne (by simp; exact ⟨hne, Ne.symm hae⟩) fun y h' tk hy ho hst' hT hsz hk => ?_
    have eu : y = u := by
      have h1 : its.toArray[i]? = some u := by simpa using hu
      rw [h1] at hy
      exact (Option.some.inj hy).symm
    subst eu
    refine ⟨_, rfl, wpAny_letOwnedTupleGo_enum (s := { s with heap := h', toks := tk + 1 }) ho fun h'' he' sb => ?_⟩
    have hT2 : h''.get? s.heap.objs.size = some { cls := .type "tuple", data := .seq #[.int i tk, y] } := (sb.2 _ (Nat.ne_of_gt hel)).trans hT
    have new : ObjOk X.prog X.w (upd H s.heap.objs.size (.tup [.int (i : Nat), x])) h'' s.heap.objs.size (.tup [.int (i : Nat), x]) :=
      ⟨by show 2 ≤ sizeLine; decide, [.int i tk, y], .cons ⟨_, rfl⟩ (.cons ru .nil), ⟨_, hT2, rfl, _, rfl⟩⟩
    have I1 : Inv X pins σ (upd H s.heap.objs.size (.tup [.int (i : Nat), x])) { s with heap := h'', toks := tk + 1 } :=
      I.turnedNew (ch := [e, it]) (fun b ob hb q => (sb.2 b (fun z => hb (by simp [z]))).trans (hk b ob (fun z => hb (by simp [z])) (fun z => hb (by simp [z])) q)) hf (Nat.le_refl _) new
    refine ⟨.ref s.heap.objs.size, _, I1, rfl, ⟨_, x, rfl, I.hok.fresh (Nat.le_refl _), rfl, fun ys hy => by rw [I.tuple_inj hy hq]; exact hx⟩, ⟨⟨y, ?_⟩, hst'.1.at fun o q => (sb.2 it (Ne.symm hne)).trans q, hne⟩, fun b hb => ?_⟩
    · have e1 : ((i + 1 : Nat) : Int) = (i : Int) + 1 := by omega
      rw [e1]; exact he'
    · have hb' : b < s.heap.objs.size := by
        have e' : b = e ∨ b = it := by simpa using hb
        rcases e' with z | z
        · rw [z]; exact hel
        · rw [z]; exact hil
      rw [upd_ne (Nat.ne_of_lt hb')]
      exact (hf b hb).1
  done := by
    intro X hP hw hK hc i pins s σ H E I hf st hg
    subst hP hw hK
    obtain ⟨⟨old, he⟩, hit, hne⟩ := st
    obtain ⟨xs, hq, hx⟩ := hg
    obtain ⟨its, rv, p, hz⟩ := I.tuple hq
    obtain ⟨f0, f1, f2, f3, f4, f5⟩ := hf it (by simp)
    have hl := rv.length
    refine enum_endT (I.ok.hd hc) he hit p (by simp; omega) fun h' eb => ⟨rfl, I.turned (t' := s.toks) (fun b o hb q => eb b o hb q) f0 f1 f3 f4 f5⟩
  self := fun A i s Q E st h => let ⟨⟨_, he⟩, _⟩ := st; wpAny_pyIter_enum he h
def iEnumT (K : PySem.W.Frag) (ta : TA) : TI := fun σ H R => ta σ H fun vs H1 => ∃ a xs, vs = [.ref a] ∧ SqT K H1 a xs ∧ R (Iet K a) H1
theorem pi_enumT {X : Cx} {e : Expr} {ta : TA} {p pos tpos : Pos} {elts : List Expr} {kk : Nat} (hg : Gl X "enumerate") (hm : X.mg "enumerate" = none) (ha : PA X [e] ta) (hs : starEach [e] X.env = [(false, eval e X.env)] := by rfl) :
    PI X (.Tuple elts kk tpos) (.Call (.Name "enumerate" p) [e] [] pos) (iEnumT X.K ta) := by
  refine ⟨fun pins s σ H R I h => ?_⟩
  refine Call_ (ld_blt I hg hm boot_enumerate (PyProof.Rows.callWith_type1 (thn (ha.run pos pins s σ H _ I h) fun us s1 ⟨vs, H1, I1, r1, q1⟩ => ?_) hs rfl))
  obtain ⟨a, xs, ex, hq, q⟩ := q1
  subst ex
  cases r1 with
  | cons r rr =>
    cases rr
    cases r
    obtain ⟨its, rv, p', hz⟩ := I1.tuple hq
    refine begins1 (begins_tuple a its.toArray) p' fun h' he hit hsz hk => wpAny_pyIter_enum he ?_
    have I2 : Inv X pins σ H1 { s1 with heap := h' } := I1.kept (t' := s1.toks) hk
    refine ⟨s1.heap.objs.size + 1, [s1.heap.objs.size + 1, s1.heap.objs.size], _, _, H1, rfl, I2, turn_enumT a (s1.heap.objs.size + 1) s1.heap.objs.size, ⟨⟨.none, he⟩, ⟨_, hit, rfl, rfl⟩, Nat.succ_ne_self _⟩, fun b hb => ?_, q⟩
    have e' : b = s1.heap.objs.size + 1 ∨ b = s1.heap.objs.size := by simpa using hb
    have hle : s1.heap.objs.size ≤ b := by
      rcases e' with z | z
      · rw [z]; exact Nat.le_add_right _ _
      · rw [z]; exact Nat.le_refl _
    exact I1.fpOk hle (I1.hok.fresh hle)
end Et

/-! Own data: formulas as they stand in the heap. -/
namespace Fm
open PySem PySem.Spec PyProof.Rows L2 Evl Cm Et

abbrev FStep := Str × List Int
def stV (s : FStep) : List V := .str s.1 :: s.2.map V.int
def stD (s : FStep) : PyData := .tuple (.str s.1 :: s.2.map PyData.int)
def StepAt (H : Hp) (v : V) (s : FStep) : Prop := ∃ p, v = .ref p ∧ H p = some (.tup (stV s))
def StepsAt (H : Hp) (vs : List V) (ss : List FStep) : Prop := vs.length = ss.length ∧ ∀ (i : Nat) v s, vs[i]? = some v → ss[i]? = some s → StepAt H v s
section
variable {K : PySem.W.Frag} {σ : L2.St} {H H' : Hp} {ta tb tc te tx tl : TE} {t u : TT} {x y z v w : V} {r r' : R2} {D : Ends} {tu tz : TS} {vs ws : List V} {ss ts : List FStep} {s : FStep} {g : TG}
theorem StepAt.mono (e : Ex H H') (h : StepAt H v s) : StepAt H' v s := by
  obtain ⟨p, h1, h2⟩ := h
  exact ⟨p, h1, e _ _ h2⟩
theorem StepsAt.mono (e : Ex H H') (h : StepsAt H vs ss) : StepsAt H' vs ss := ⟨h.1, fun i v s a b => (h.2 i v s a b).mono e⟩
theorem StepsAt.nil : StepsAt H [] [] := ⟨rfl, fun i v s h _ => by simp at h⟩
theorem StepsAt.app (h1 : StepsAt H vs ss) (h2 : StepsAt H ws ts) : StepsAt H (vs ++ ws) (ss ++ ts) := by
  refine ⟨by rw [List.length_append, List.length_append, h1.1, h2.1], fun i v s a b => ?_⟩
  by_cases hi : i < vs.length
  · rw [List.getElem?_append_left hi] at a
    rw [List.getElem?_append_left (by rw [← h1.1]; exact hi)] at b
    exact h1.2 i v s a b
  · rw [List.getElem?_append_right (by omega)] at a
    rw [List.getElem?_append_right (by have := h1.1; omega)] at b
    rw [← h1.1] at b
    exact h2.2 _ v s a b
theorem StepsAt.one (h : StepAt H v s) : StepsAt H [v] [s] := ⟨rfl, fun i x y a b => by
  cases i with
  | zero =>
    cases Option.some.inj a
    cases Option.some.inj b
    exact h
  | succ i => simp at a⟩
theorem StepsAt.snoc (h1 : StepsAt H vs ss) (h : StepAt H v s) : StepsAt H (vs ++ [v]) (ss ++ [s]) := h1.app (.one h)
theorem StepsAt.get (h : StepsAt H vs ss) {i : Nat} (hi : vs[i]? = some v) : ∃ s, ss[i]? = some s ∧ StepAt H v s := by
  have h1 : i < ss.length := by
    rw [← h.1]
    exact (List.getElem?_eq_some_iff.mp hi).1
  exact ⟨ss[i], List.getElem?_eq_getElem h1, h.2 i v _ hi (List.getElem?_eq_getElem h1)⟩
theorem StepAt.dp (h : StepAt H v s) : Dp K H v (stD s) := by
  obtain ⟨p, rfl, h⟩ := h
  exact .tup (st_of h) (.cons (.str _) (dpInts _))
theorem StepsAt.dp : ∀ {vs : List V} {ss : List FStep}, StepsAt H vs ss → DpAll K H vs (ss.map stD)
  | [], [], _ => .nil
  | [], _ :: _, h => by simp [StepsAt] at h
  | _ :: _, [], h => by simp [StepsAt] at h
  | v :: vs, s :: ss, h => .cons (StepAt.dp (h.2 0 v s rfl rfl)) (StepsAt.dp ⟨by simpa using h.1, fun i x y a b => h.2 (i + 1) x y a b⟩)
theorem lay_ints : ∀ (is : List Int), PyData.canLayAll0 (is.map PyData.int) = true
  | [] => rfl
  | i :: r => by
    show (PyData.canLay0 (.int i) && PyData.canLayAll0 (r.map PyData.int)) = true
    rw [lay_ints r]
    rfl
theorem dep_ints : ∀ (is : List Int), PyData.depthAll (is.map PyData.int) = 0
  | [] => rfl
  | i :: r => by
    show max 0 (PyData.depthAll (r.map PyData.int)) = 0
    rw [dep_ints r]
    rfl
theorem dep_st (s : FStep) : PyData.depth (stD s) = 1 := by
  show max 0 (PyData.depthAll (s.2.map PyData.int)) + 1 = 1
  rw [dep_ints]
  rfl
theorem dep_sts : ∀ (ss : List FStep), PyData.depthAll (ss.map stD) ≤ 1
  | [] => Nat.zero_le _
  | s :: r => by
    show max (PyData.depth (stD s)) (PyData.depthAll (r.map stD)) ≤ 1
    rw [dep_st]
    have := dep_sts r
    omega
def OkS (s : FStep) : Prop := PyData.strOk s.1 = true
theorem lay_st {s : FStep} (h : OkS s) : PyData.canLay0 (stD s) = true := by
  show (PyData.canLay0 (.str s.1) && PyData.canLayAll0 (s.2.map PyData.int)) = true
  rw [lay_ints, Bool.and_true]
  exact h
theorem lay_sts : ∀ {ss : List FStep}, (∀ s ∈ ss, OkS s) → PyData.canLayAll0 (ss.map stD) = true
  | [], _ => rfl
  | s :: r, h => by
    show (PyData.canLay0 (stD s) && PyData.canLayAll0 (r.map stD)) = true
    rw [lay_st (h s (.head _)), lay_sts fun x hx => h x (.tail _ hx)]
    rfl
def foD (ss : List FStep) : PyData := .tuple (ss.map stD)
theorem sh_form (h : ∀ s ∈ ss, OkS s) : SeqAt.shaped (foD ss) = true := by
  unfold SeqAt.shaped
  rw [show PyData.canLay0 (foD ss) = PyData.canLayAll0 (ss.map stD) from rfl, lay_sts h, Bool.true_and]
  refine decide_eq_true ?_
  show PyData.depthAll (ss.map stD) + 1 ≤ 64
  have := dep_sts ss
  omega
theorem sh_list (h : ∀ s ∈ ss, OkS s) : SeqAt.shaped (.list (ss.map stD)) = true := sh_form h
/-! ### what is a formula -/
def W2 : List Str := ["add", "subtract", "times", "divide"]
def W1 : List Str := ["root", "sine", "cosine", "exp", "log", "arctan", "arcsine", "arccosine"]
def OkStep (k : Nat) (s : FStep) : Prop :=
  (∃ p q, s = (("number" : Str), [p, q]) ∧ 1 ≤ q) ∨ s = (("pi" : Str), []) ∨ (∃ w i j, w ∈ W2 ∧ s = (w, [i, j]) ∧ (0 ≤ i ∧ i < k) ∧ (0 ≤ j ∧ j < k)) ∨ (∃ w i, w ∈ W1 ∧ s = (w, [i]) ∧ (0 ≤ i ∧ i < k))
def OkForm (ss : List FStep) : Prop := ∀ k s, ss[k]? = some s → OkStep k s
theorem w2_all {P : Str → Prop} (h : P "add" ∧ P "subtract" ∧ P "times" ∧ P "divide") : ∀ w ∈ W2, P w := by
  intro w hw
  unfold W2 at hw
  simp only [List.mem_cons, List.not_mem_nil, or_false] at hw
  obtain ⟨h1, h2, h3, h4⟩ := h
  rcases hw with rfl | rfl | rfl | rfl <;> assumption
theorem w1_all {P : Str → Prop} (h : P "root" ∧ P "sine" ∧ P "cosine" ∧ P "exp" ∧ P "log" ∧ P "arctan" ∧ P "arcsine" ∧ P "arccosine") : ∀ w ∈ W1, P w := by
  intro w hw
  unfold W1 at hw
  simp only [List.mem_cons, List.not_mem_nil, or_false] at hw
  obtain ⟨h1, h2, h3, h4, h5, h6, h7, h8⟩ := h
  rcases hw with rfl | rfl | rfl | rfl | rfl | rfl | rfl | rfl <;> assumption
theorem w2_ok : ∀ w ∈ W2, PyData.strOk w = true := w2_all ⟨by decide +kernel, by decide +kernel, by decide +kernel, by decide +kernel⟩
theorem w1_ok : ∀ w ∈ W1, PyData.strOk w = true := w1_all ⟨by decide +kernel, by decide +kernel, by decide +kernel, by decide +kernel, by decide +kernel, by decide +kernel, by decide +kernel, by decide +kernel⟩
theorem w2_nn : ∀ w ∈ W2, w ≠ "number" := w2_all ⟨by decide +kernel, by decide +kernel, by decide +kernel, by decide +kernel⟩
theorem w2_np : ∀ w ∈ W2, w ≠ "pi" := w2_all ⟨by decide +kernel, by decide +kernel, by decide +kernel, by decide +kernel⟩
theorem w1_nn : ∀ w ∈ W1, w ≠ "number" := w1_all ⟨by decide +kernel, by decide +kernel, by decide +kernel, by decide +kernel, by decide +kernel, by decide +kernel, by decide +kernel, by decide +kernel⟩
theorem w1_np : ∀ w ∈ W1, w ≠ "pi" := w1_all ⟨by decide +kernel, by decide +kernel, by decide +kernel, by decide +kernel, by decide +kernel, by decide +kernel, by decide +kernel, by decide +kernel⟩
theorem pi_nn : ("pi" : Str) ≠ "number" := by decide +kernel
theorem ok_num : PyData.strOk "number" = true := by decide +kernel
theorem ok_pi : PyData.strOk "pi" = true := by decide +kernel
theorem OkStep.oks {k : Nat} (h : OkStep k s) : OkS s := by
  rcases h with ⟨p, q, rfl, _⟩ | rfl | ⟨w, i, j, hw, rfl, _⟩ | ⟨w, i, hw, rfl, _⟩
  · exact ok_num
  · exact ok_pi
  · exact w2_ok w hw
  · exact w1_ok w hw
theorem OkStep.mono {k m : Nat} (hk : k ≤ m) (h : OkStep k s) : OkStep m s := by
  rcases h with h | h | ⟨w, i, j, hw, rfl, h1, h2⟩ | ⟨w, i, hw, rfl, h1⟩
  · exact .inl h
  · exact .inr (.inl h)
  · exact .inr (.inr (.inl ⟨w, i, j, hw, rfl, ⟨h1.1, by omega⟩, ⟨h2.1, by omega⟩⟩))
  · exact .inr (.inr (.inr ⟨w, i, hw, rfl, ⟨h1.1, by omega⟩⟩))
theorem OkForm.oks (h : OkForm ss) : ∀ s ∈ ss, OkS s := fun s hs => by
  obtain ⟨k, hk⟩ := List.getElem?_of_mem hs
  exact (h k s hk).oks
theorem OkForm.nil : OkForm [] := fun k s h => by simp at h
theorem OkForm.snoc (h : OkForm ss) (hs : OkStep ss.length s) : OkForm (ss ++ [s]) := fun k x hk => by
  by_cases hi : k < ss.length
  · rw [List.getElem?_append_left hi] at hk
    exact h k x hk
  · rw [List.getElem?_append_right (by omega)] at hk
    have e : k - ss.length = 0 := by
      have := (List.getElem?_eq_some_iff.mp hk).1
      simp at this
      omega
    rw [e] at hk
    cases Option.some.inj hk
    exact hs.mono (by omega)
def shiftS (m : Nat) (s : FStep) : FStep := if s.1 = "number" then s else (s.1, s.2.map fun i => (m : Int) + i)
theorem OkStep.shift {k m : Nat} (h : OkStep k s) : OkStep (m + k) (shiftS m s) := by
  rcases h with ⟨p, q, rfl, hq⟩ | rfl | ⟨w, i, j, hw, rfl, h1, h2⟩ | ⟨w, i, hw, rfl, h1⟩
  · unfold shiftS
    rw [if_pos rfl]
    exact .inl ⟨p, q, rfl, hq⟩
  · unfold shiftS
    rw [if_neg pi_nn]
    exact .inr (.inl rfl)
  · unfold shiftS
    rw [if_neg (w2_nn w hw)]
    exact .inr (.inr (.inl ⟨w, (m : Int) + i, (m : Int) + j, hw, rfl, ⟨by omega, by omega⟩, ⟨by omega, by omega⟩⟩))
  · unfold shiftS
    rw [if_neg (w1_nn w hw)]
    exact .inr (.inr (.inr ⟨w, (m : Int) + i, hw, rfl, ⟨by omega, by omega⟩⟩))
def joinS (w : Str) (f g : List FStep) : List FStep := f ++ g.map (shiftS f.length) ++ [(w, [(f.length : Int) - 1, (f.length : Int) + (g.length : Int) - 1])]
theorem OkForm.app_shift {f gg : List FStep} (hf : OkForm f) (hg : OkForm gg) : OkForm (f ++ gg.map (shiftS f.length)) := fun k x hk => by
  by_cases hi : k < f.length
  · rw [List.getElem?_append_left hi] at hk
    exact hf k x hk
  · rw [List.getElem?_append_right (by omega), List.getElem?_map] at hk
    obtain ⟨s, h1, rfl⟩ := Option.map_eq_some_iff.mp hk
    have h2 := (hg _ s h1).shift (m := f.length)
    rw [show f.length + (k - f.length) = k by omega] at h2
    exact h2
theorem OkForm.join {f gg : List FStep} {w : Str} (hf : OkForm f) (hg : OkForm gg) (hw : w ∈ W2) (h1 : f ≠ []) (h2 : gg ≠ []) : OkForm (joinS w f gg) := by
  have l1 : 0 < f.length := List.length_pos_iff.mpr h1
  have l2 : 0 < gg.length := List.length_pos_iff.mpr h2
  refine OkForm.snoc (hf.app_shift hg) (.inr (.inr (.inl ⟨w, _, _, hw, rfl, ⟨by omega, ?_⟩, ⟨by omega, ?_⟩⟩)))
  · rw [List.length_append, List.length_map]
    omega
  · rw [List.length_append, List.length_map]
    omega
theorem OkForm.app1 {f : List FStep} {w : Str} (hf : OkForm f) (hw : w ∈ W1) (h1 : f ≠ []) : OkForm (f ++ [(w, [(f.length : Int) - 1])]) := by
  have l1 : 0 < f.length := List.length_pos_iff.mpr h1
  exact hf.snoc (.inr (.inr (.inr ⟨w, _, hw, rfl, by omega, by omega⟩)))
/-! ### what comes back -/
def RetF (ss : List FStep) (H : Hp) (Q : VK) : Prop := ∀ a H2 vs, H a = none → Ex H H2 → H2 a = some (.tup vs) → StepsAt H2 vs ss → Q (.ref a) H2
def RetS (s : FStep) (H : Hp) (Q : VK) : Prop := ∀ v H2, Ex H H2 → StepAt H2 v s → Q v H2
def EvF (te : TE) (σ : L2.St) (H : Hp) (ss : List FStep) : Prop := ∀ H1, Ex H H1 → ∀ Q : VK, RetF ss H1 Q → te σ H1 Q
def SpF (sp : Sp) (vs : List V) (H : Hp) (ss : List FStep) : Prop := ∀ H1, Ex H H1 → ∀ Q : VK, RetF ss H1 Q → ∀ E : XK, sp vs H1 Q E
theorem RetF.go {Q : VK} (k : RetF ss H Q) (e : Ex H H') {a : Addr} {H2 : Hp} (ha : H' a = none) (e2 : Ex H' H2) (h : H2 a = some (.tup vs)) (h2 : StepsAt H2 vs ss) : Q (.ref a) H2 := k a H2 vs (fresh_back e ha) (e.trans e2) h h2
theorem ef_call {sp : Sp} {dvs ws : List V} {E : XK} {ta : TA} (h : EvA ta σ H ws) (hs : SpF sp (ws ++ dvs) H ss) : EvF (tCall sp dvs E ta) σ H ss := fun H1 e Q q =>
  h H1 e _ fun H2 e2 => hs H2 (e.trans e2) Q (fun a H3 vs ha e3 h3 hs3 => q a H3 vs (fresh_back e2 ha) (e2.trans e3) h3 hs3) E
theorem q_asgF {i : Nat} (h : EvF te σ H ss) (k : ∀ a H1 vs, Ex H H1 → H1 a = some (.tup vs) → StepsAt H1 vs ss → tz D (σ.set i (some (.ref a))) H1) : tSeq (tAsg te (gName i)) tz D σ H :=
  h H (Ex.refl H) _ fun a H1 vs _ e h1 h2 => k a H1 vs e h1 h2
theorem q_asgP {i : Nat} (P : V → Hp → Prop) (h : ∀ Q : VK, (∀ v H1, Ex H H1 → P v H1 → Q v H1) → te σ H Q) (k : ∀ v H1, Ex H H1 → P v H1 → tz D (σ.set i (some v)) H1) : tSeq (tAsg te (gName i)) tz D σ H := h _ k
theorem s_retF (h : EvF te σ H ss) (k : RetF ss H D.rt) : tRet te D σ H := h H (Ex.refl H) _ k
theorem ev_neFF (ha : EvF ta σ H ss) (hb : EvF tb σ H ss) (hs : ∀ s ∈ ss, OkS s) : Ev (tOp (rNeD K) ta tb) σ H (.bl false) := fun H1 e Q q =>
  ha H1 e _ fun p H2 vs _ e2 hp hv => hb H2 (e.trans e2) _ fun p2 H3 ws _ e3 hp2 hw =>
    rv_neS (H := H3) (d := foD ss) (.tup (st_of (e3 _ _ hp)) (hv.mono e3).dp) (.tup (st_of hp2) hw.dp) (sh_form hs) H3 (Ex.refl _) Q fun H4 e4 => q H4 ((e2.trans e3).trans e4)
theorem ev_eqF {p : Addr} (h : H p = some (.tup vs)) (hv : StepsAt H vs ss) (ha : Ev ta σ H (.ref p)) (hb : EvF tb σ H ss) (hs : ∀ s ∈ ss, OkS s) : Ev (tOp (rEqD K) ta tb) σ H (.bl true) := fun H1 e Q q =>
  ha H1 e _ fun H2 e2 => hb H2 (e.trans e2) _ fun p2 H3 ws _ e3 hp2 hw =>
    rv_eqS (H := H3) (d := foD ss) (.tup (st_of (((e.trans e2).trans e3) _ _ h)) (hv.mono ((e.trans e2).trans e3)).dp) (.tup (st_of hp2) hw.dp) (sh_form hs) H3 (Ex.refl _) Q fun H4 e4 => q H4 ((e2.trans e3).trans e4)
/-- a call whose argument is a new formula -/
theorem ev_callF {sp : Sp} {dvs ws : List V} {E : XK} {tr : TA} (h1 : EvF te σ H ss) (h2 : EvA tr σ H ws) (hs : ∀ p H1 us, Ex H H1 → H1 p = some (.tup us) → StepsAt H1 us ss → SpV sp (.ref p :: ws ++ dvs) H1 z) : Ev (tCall sp dvs E (tCons te tr)) σ H z := fun H1 e Q q =>
  h1 H1 e _ fun p H2 us np e2 hp hu => h2 H2 (e.trans e2) _ fun H3 e3 => hs p H3 us ((e.trans e2).trans e3) (e3 _ _ hp) (hu.mono e3) H3 (Ex.refl H3) Q (fun H4 e4 => q H4 ((e2.trans e3).trans e4)) E
theorem rc_isiI {i : Int} : RC (rIsi K) [.int i, .ty "int"] H (.bl true) := fun H1 e _ q =>
  ⟨.int i, .ty "int", .type "int", .type "int", true, rfl, .ty _, .base (.int i), kit_ty (by decide +kernel), q H1 (Ex.refl H1)⟩
theorem rc_isiIB {i : Int} : RC (rIsi K) [.int i, .ty "bool"] H (.bl false) := fun H1 e _ q =>
  ⟨.int i, .ty "bool", .type "int", .type "bool", false, rfl, .ty _, .base (.int i), kit_ty (by decide +kernel), q H1 (Ex.refl H1)⟩
theorem rc_lenT {p : Addr} {xs : List V} (h : SqT K H p xs) : RC (fun xs H Q => ∃ x n, xs = [x] ∧ LenV K x H n ∧ Q (.int n) H) [.ref p] H (.int (xs.length : Int)) := fun H1 e _ q =>
  ⟨.ref p, (xs.length : Nat), rfl, .inr ⟨_, ex_t e h, rfl⟩, q H1 (Ex.refl H1)⟩
theorem cut1 (xs : List V) : cutV xs (some 1) none = xs.drop 1 := by
  unfold cutV
  rw [show HT.sIx xs.length 0 (some 1) = min 1 xs.length from HT.sIx_nat xs.length 0 1, HT.sIx_none]
  cases xs with
  | nil => rfl
  | cons x r =>
    rw [show min 1 (x :: r).length = 1 by
      rw [List.length_cons]
      omega]
    show (List.take ((x :: r).length - 1) r) = r
    rw [List.length_cons, Nat.add_sub_cancel]
    exact List.take_length
/-- t[1:] of a tuple that is not empty -/
theorem eu_tail {a : Addr} {xs : List V} (h : Ev te σ H (.ref a)) (hx : SqT K H a (y :: xs)) : EvU (tSl (rSlT K) te (tPart (tC (.int 1))) tNoPart) σ H xs := fun H1 e Q q =>
  h H1 e _ fun H2 e2 => ⟨1, rfl, a, y :: xs, rfl, ex_t (e.trans e2) hx, fun z => by
    have z1 : HT.sIx (y :: xs).length 0 (some 1) = min 1 (y :: xs).length := HT.sIx_nat (y :: xs).length 0 1
    have z2 := z.1
    rw [z1, List.length_cons] at z2
    omega, fun p hp => by
    have e3 : cutV (y :: xs) (some 1) none = xs := cut1 (y :: xs)
    rw [e3]
    exact q p _ (fresh_back e2 hp) (e2.trans (Ex.new hp)) upd_same⟩
/-- for over a new tuple -/
theorem s_forNT {xs : List V} (h : EvU tl σ H xs) (Pv : Addr → Nat → L2.St → Hp → Prop) (h0 : ∀ p H1, H p = none → Ex H H1 → H1 p = some (.tup xs) → Pv p 0 σ H1) (hl : ∀ p i σ' H', i ≤ xs.length → Pv p i σ' H' → SqT K H' p xs)
    (hs : ∀ p i x σ' H', xs[i]? = some x → Pv p i σ' H' → g x σ' H' fun σ2 H2 => tu { D with nx := Pv p (i + 1), ct := Pv p (i + 1), bk := D.nx } σ2 H2) (hd : ∀ p σ' H', Pv p xs.length σ' H' → D.nx σ' H') : tFor (iTup K tl) g tu D σ H :=
  h H (Ex.refl H) _ fun p H1 hp e h1 => ⟨p, rfl, ⟨xs, st_of h1⟩, for_tup (Pv p) (h0 p H1 hp e h1) (hl p) (hs p) (hd p)⟩
theorem q_forNT {xs : List V} (h : EvU tl σ H xs) (Pv : Addr → Nat → L2.St → Hp → Prop) (h0 : ∀ p H1, H p = none → Ex H H1 → H1 p = some (.tup xs) → Pv p 0 σ H1) (hl : ∀ p i σ' H', i ≤ xs.length → Pv p i σ' H' → SqT K H' p xs)
    (hs : ∀ p i x σ' H', xs[i]? = some x → Pv p i σ' H' → g x σ' H' fun σ2 H2 => tu { D with nx := Pv p (i + 1), ct := Pv p (i + 1), bk := tz D } σ2 H2) (hd : ∀ p σ' H', Pv p xs.length σ' H' → tz D σ' H') : tSeq (tFor (iTup K tl) g tu) tz D σ H :=
  s_forNT (D := { D with nx := tz D }) h Pv h0 hl hs hd
/-- for i, x in enumerate(t) -/
theorem q_forET {a : Addr} {xs : List V} {ta : TA} (h : EvA ta σ H [.ref a]) (hx : SqT K H a xs) (Pv : Nat → L2.St → Hp → Prop) (h0 : ∀ H1, Ex H H1 → Pv 0 σ H1) (hG : ∀ i σ' H', i ≤ xs.length → Pv i σ' H' → SqT K H' a xs)
    (hs : ∀ i x σ' H' T, xs[i]? = some x → Pv i σ' H' → H' T = none → g (.ref T) σ' (upd H' T (.tup [.int (i : Nat), x])) fun σ2 H2 => tu { D with nx := Pv (i + 1), ct := Pv (i + 1), bk := tz D } σ2 H2) (hd : ∀ σ' H', Pv xs.length σ' H' → tz D σ' H') :
    tSeq (tFor (iEnumT K ta) g tu) tz D σ H := h H (Ex.refl H) _ fun H1 e => by
  have wk : Walk (Iet K a) xs.length (fun H => SqT K H a xs) (YPair (fun i => some (.int (i : Nat))) (fun i => xs[i]?)) := by
    refine ⟨fun i _ hi q => ⟨xs, xs[i], q, by simp [hi]⟩, fun _ q => ⟨xs, q, Nat.le_refl _⟩, fun i H v H' _ q y => ?_⟩
    obtain ⟨T, x, h1, h2, h3, h4⟩ := y
    exact ⟨T, .int (i : Nat), x, h1, h2, h3, rfl, h4 xs q⟩
  refine ⟨a, xs, rfl, ex_t e hx, for_it (D := { D with nx := tz D }) wk Pv (h0 H1 e) hG (fun i x σ' H' H'' hi p y => ?_) hd⟩
  obtain ⟨T, x1, x2, rfl, hT, rfl, e1, e2⟩ := y
  cases Option.some.inj e1
  exact hs i x2 σ' H' T e2 p hT
/-- [e for x in a new tuple], e told -/
theorem el_mapNT {xs : List V} {j : Nat} {vs : List Nat} (fv : Nat → V) (h : EvU tl σ H xs) (hz : xs.length ≤ 40000) (hw : ∀ x, wipe ((wipe σ vs).set j (some x)) vs = wipe σ vs)
    (he : ∀ (i : Nat) (x : V) H1, Ex H H1 → xs[i]? = some x → Ev te ((wipe σ vs).set j (some x)) H1 (fv i)) :
    EvL (tLc (iTup K tl) (gName j) tYes te vs) σ H (given xs.length (fun _ => true) fv) := fun H0 e Q q => h H0 e _ fun a H1 ha e1 hx => ⟨a, rfl, ⟨xs, st_of hx⟩, fun Dl hD =>
  lc_tup (xs := xs) (Cw H1 (fun _ => true) fv Dl) ⟨hD, Ex.new hD, upd_same⟩ (fun i H' _ p => st_of (p.2.1 a _ hx)) (fun i x H' hi p => ⟨hw x, cw_turn p (by have := (List.getElem?_eq_some_iff.mp hi).1; omega) (fun H3 _ Q3 q3 => q3 H3 (Ex.refl H3)) (fun hf => he i x H1 (e.trans e1) hi)⟩)
    (fun H' p => q Dl H' (fresh_back e1 p.1) (e1.trans p.2.1) p.2.2)⟩
theorem given_all (n : Nat) (fv : Nat → V) : given n (fun _ => true) fv = (List.range n).map fv := by
  unfold given
  rw [List.filter_eq_self.mpr (fun _ _ => rfl)]
/-- a formula that grows in a list -/
structure FoAt (H H' : Hp) (l : Addr) (us : List V) (ss : List FStep) : Prop where
  ex : Ex H H'
  at_ : H' l = some (.lst us)
  st : StepsAt H' us ss
theorem FoAt.mono {H H1 H2 : Hp} {l : Addr} {us : List V} (F : FoAt H H1 l us ss) (e : Ex H1 H2) : FoAt H H2 l us ss := ⟨F.ex.trans e, e _ _ F.at_, F.st.mono e⟩
theorem steps_upd {l : Addr} {us zs : List V} {xs : List V} (hl : H l = some (.lst xs)) (h : StepsAt H us ss) : StepsAt (upd H l (.lst zs)) us ss := ⟨h.1, fun i v s a b => by
  obtain ⟨p, r1, r2⟩ := h.2 i v s a b
  refine ⟨p, r1, ?_⟩
  rw [upd_ne (fun z => by rw [z, hl] at r2; cases r2)]
  exact r2⟩
theorem step_upd {l : Addr} {zs : List V} {xs : List V} (hl : H l = some (.lst xs)) (h : StepAt H v s) : StepAt (upd H l (.lst zs)) v s := by
  obtain ⟨p, r1, r2⟩ := h
  refine ⟨p, r1, ?_⟩
  rw [upd_ne (fun z => by rw [z, hl] at r2; cases r2)]
  exact r2
theorem FoAt.push {H H1 H2 : Hp} {l : Addr} {us : List V} (hn : H l = none) (F : FoAt H H1 l us ss) (e : Ex H1 H2) (hs : StepAt H2 v s) : FoAt H (upd H2 l (.lst (us ++ [v]))) l (us ++ [v]) (ss ++ [s]) :=
  ⟨Ex.mut (F.ex.trans e) hn, upd_same, (steps_upd (e _ _ F.at_) (F.st.mono e)).snoc (step_upd (e _ _ F.at_) hs)⟩
/-- steps == [] -/
theorem ev_isEmpty {l : Addr} {us : List V} (hl : H l = some (.lst us)) (hs : StepsAt H us ss) (ho : ∀ s ∈ ss, OkS s) (ha : Ev ta σ H (.ref l)) : Ev (tOp (rEqD K) ta (tLst tNil)) σ H (.bl ss.isEmpty) :=
  ev_opL ha (el_lst ea_nil (show 0 ≤ 100000 by decide)) fun p H1 hp e H2 e2 Q q => ⟨.list (ss.map stD), .list [], .lst (sq_of ((e.trans e2) _ _ hl)) (hs.mono (e.trans e2)).dp, .lst (sq_of (e2 _ _ hp)) .nil, sh_list ho, rfl, by
    have e3 : PyData.eqv (.list (ss.map stD)) (.list []) = ss.isEmpty := by cases ss <;> rfl
    rw [e3]
    exact q H2 (Ex.refl _)⟩
theorem cut_take (xs : List V) (m : Nat) : cutV xs none (some (m : Int)) = xs.take m := by
  unfold cutV
  rw [HT.sIx_none, HT.sIx_nat, List.drop_zero, Nat.sub_zero]
  by_cases h : m ≤ xs.length
  · rw [Nat.min_eq_left h]
  · rw [Nat.min_eq_right (by omega), List.take_length, List.take_of_length_le (by omega)]
/-- f + (step,) -/
theorem ef_cat1 {a : Addr} {us : List V} {tt : TA} (ha : H a = some (.tup us)) (hs : StepsAt H us ss) (hne : ss ≠ []) (hl : ss.length ≤ 1000) (h : Ev ta σ H (.ref a)) (ht : EvA tt σ H (stV s)) (hz : s.2.length ≤ 100) : EvF (tOp (rCatT K) ta (tTup (tCons (tTup tt) tNil))) σ H (ss ++ [s]) := fun H1 e Q q =>
  h H1 e _ fun H2 e2 => ht H2 (e.trans e2) _ fun H3 e3 => ⟨by show (stV s).length ≤ sizeLine; exact sz_of (by simp [stV]; omega), fun p hp => ⟨by show 1 ≤ sizeLine; decide, fun r hr => by
    have e4 : Ex H3 (upd H3 p (.tup (stV s))) := Ex.new hp
    have e5 := e4.trans (Ex.new (o := .tup [V.ref p]) hr)
    have e6 := ((e.trans e2).trans e3).trans e5
    refine ⟨a, r, us, [.ref p], rfl, rfl, st_of (e6 _ _ ha), st_of upd_same, fun z => ?_, ?_, (fun z => nomatch z), fun _ c hc => ?_⟩
    · rw [z] at hs
      have := hs.1
      exact hne (List.eq_nil_of_length_eq_zero this.symm)
    · rw [hs.1]
      exact sz_of (by simp; omega)
    · refine q c _ _ (fresh_back ((e2.trans e3).trans e5) hc) (((e2.trans e3).trans e5).trans (Ex.new hc)) upd_same ?_
      exact ((hs.mono e6).snoc ⟨p, rfl, ex_app (Ex.new hr) upd_same⟩).mono (Ex.new hc)⟩⟩
/-- (step,) -/
theorem ef_one {tt : TA} (ht : EvA tt σ H (stV s)) (hz : s.2.length ≤ 100) : EvF (tTup (tCons (tTup tt) tNil)) σ H [s] := fun H1 e Q q =>
  ht H1 e _ fun H3 e3 => ⟨by show (stV s).length ≤ sizeLine; exact sz_of (by simp [stV]; omega), fun p hp => ⟨by show 1 ≤ sizeLine; decide, fun r hr => by
    have e4 : Ex H3 (upd H3 p (.tup (stV s))) := Ex.new hp
    exact q r _ _ (fresh_back (e3.trans e4) hr) ((e3.trans e4).trans (Ex.new hr)) upd_same (.one ⟨p, rfl, ex_app (Ex.new hr) upd_same⟩)⟩⟩
theorem ev_cbF {r : List V → Hp → VK → Prop} {tr : TA} {ws : List V} (h1 : EvF te σ H ss) (h2 : EvA tr σ H ws) (hr : ∀ p H1 us, H1 p = some (.tup us) → Ex H H1 → RC r (.ref p :: ws) H1 z) : Ev (tCB r (tCons te tr)) σ H z := fun H1 e Q q =>
  h1 H1 e _ fun p H2 us np e2 hp hu => h2 H2 (e.trans e2) _ fun H3 e3 => hr p H3 us (e3 _ _ hp) ((e.trans e2).trans e3) H3 (Ex.refl _) Q fun H4 e4 => q H4 ((e2.trans e3).trans e4)
theorem yes_go {A B : Hp → Prop} (h : A H) : tYes σ H fun b H3 => if b = true then A H3 else B H3 := by
  show (if true = true then A H else B H)
  rw [if_pos rfl]
  exact h
theorem at0 (st : FStep) : atI (stV st) 0 = some (.str st.1) := atI_nat (j := 0) rfl
end
end Fm

/-! Own data: formulas tidied. -/
namespace Td
open PySem Fm
/-- the indexes of a step, and a step with its indexes changed -/
def ix (s : FStep) : List Nat := if s.1 = "number" then [] else s.2.map Int.toNat
def ren (f : Nat → Nat) (s : FStep) : FStep := if s.1 = "number" then s else (s.1, s.2.map fun i => ((f i.toNat : Nat) : Int))
theorem ren_word (f : Nat → Nat) (s : FStep) : (ren f s).1 = s.1 := by
  unfold ren
  split <;> rfl
theorem ix_ren (f : Nat → Nat) (s : FStep) : ix (ren f s) = (ix s).map f := by
  unfold ix
  rw [ren_word]
  by_cases h : s.1 = "number"
  · rw [if_pos h, if_pos h]
    rfl
  · rw [if_neg h, if_neg h]
    unfold ren
    rw [if_neg h, List.map_map, List.map_map]
    rfl
theorem ren_congr {f g : Nat → Nat} {s : FStep} (h : ∀ i ∈ ix s, f i = g i) : ren f s = ren g s := by
  unfold ren
  by_cases hn : s.1 = "number"
  · rw [if_pos hn, if_pos hn]
  · rw [if_neg hn, if_neg hn]
    refine congrArg _ (List.map_congr_left fun i hi => ?_)
    have : i.toNat ∈ ix s := by
      unfold ix
      rw [if_neg hn]
      exact List.mem_map_of_mem hi
    rw [h _ this]
theorem ok_pos {k : Nat} {s : FStep} (h : OkStep k s) (hn : s.1 ≠ "number") : ∀ i ∈ s.2, 0 ≤ i ∧ i < (k : Int) := by
  rcases h with ⟨p, q, rfl, _⟩ | rfl | ⟨x, i, j, _, rfl, h1, h2⟩ | ⟨x, i, _, rfl, h1⟩
  · exact absurd rfl hn
  · intro i hi
    simp at hi
  · intro y hy
    simp only [List.mem_cons, List.not_mem_nil, or_false] at hy
    rcases hy with rfl | rfl
    · exact h1
    · exact h2
  · intro y hy
    simp only [List.mem_cons, List.not_mem_nil, or_false] at hy
    subst hy
    exact h1
theorem ok_ix {k : Nat} {s : FStep} (h : OkStep k s) : ∀ i ∈ ix s, i < k := by
  intro i hi
  unfold ix at hi
  by_cases hn : s.1 = "number"
  · rw [if_pos hn] at hi
    exact absurd hi (by simp)
  · rw [if_neg hn] at hi
    obtain ⟨j, hj, rfl⟩ := List.mem_map.mp hi
    have := ok_pos h hn j hj
    omega
theorem ren_id {k : Nat} {s : FStep} (h : OkStep k s) {f : Nat → Nat} (hf : ∀ i ∈ ix s, f i = i) : ren f s = s := by
  unfold ren
  by_cases hn : s.1 = "number"
  · rw [if_pos hn]
  · rw [if_neg hn]
    have : (s.2.map fun i => ((f i.toNat : Nat) : Int)) = s.2 := by
      conv => rhs; rw [← List.map_id s.2]
      refine List.map_congr_left fun i hi => ?_
      have h1 := ok_pos h hn i hi
      have h2 : i.toNat ∈ ix s := by
        unfold ix
        rw [if_neg hn]
        exact List.mem_map_of_mem hi
      rw [hf _ h2]
      show ((i.toNat : Nat) : Int) = i
      omega
    rw [this]
theorem ok_ren {k m : Nat} {s : FStep} (h : OkStep k s) {f : Nat → Nat} (hf : ∀ i ∈ ix s, f i < m) : OkStep m (ren f s) := by
  rcases h with ⟨p, q, rfl, hq⟩ | rfl | ⟨x, i, j, hx, rfl, h1, h2⟩ | ⟨x, i, hx, rfl, h1⟩
  · exact .inl ⟨p, q, rfl, hq⟩
  · exact .inr (.inl rfl)
  · have hn : x ≠ "number" := fun z => absurd hx (by rw [z]; decide +kernel)
    have e : ix (x, [i, j]) = [i.toNat, j.toNat] := by
      unfold ix
      rw [if_neg hn]
      rfl
    rw [e] at hf
    have a1 := hf i.toNat (by simp)
    have a2 := hf j.toNat (by simp)
    refine .inr (.inr (.inl ⟨x, (f i.toNat : Nat), (f j.toNat : Nat), hx, ?_, ⟨by omega, by omega⟩, ⟨by omega, by omega⟩⟩))
    unfold ren
    rw [if_neg hn]
    rfl
  · have hn : x ≠ "number" := fun z => absurd hx (by rw [z]; decide +kernel)
    have e : ix (x, [i]) = [i.toNat] := by
      unfold ix
      rw [if_neg hn]
      rfl
    rw [e] at hf
    have a1 := hf i.toNat (by simp)
    refine .inr (.inr (.inr ⟨x, (f i.toNat : Nat), hx, ?_, ⟨by omega, by omega⟩⟩))
    unfold ren
    rw [if_neg hn]
    rfl
theorem map_inj_on {f : Nat → Nat} : ∀ {l m : List Int}, (∀ i ∈ l, 0 ≤ i) → (∀ i ∈ m, 0 ≤ i) → (∀ i ∈ l, ∀ j ∈ m, f i.toNat = f j.toNat → i.toNat = j.toNat) → (l.map fun i => ((f i.toNat : Nat) : Int)) = (m.map fun i => ((f i.toNat : Nat) : Int)) → l = m
  | [], [], _, _, _, _ => rfl
  | [], _ :: _, _, _, _, h => by simp at h
  | _ :: _, [], _, _, _, h => by simp at h
  | a :: l, b :: m, h1, h2, hf, h => by
    rw [List.map_cons, List.map_cons] at h
    have e1 := (List.cons.inj h).1
    have e2 := (List.cons.inj h).2
    have e3 := hf a (List.mem_cons_self ..) b (List.mem_cons_self ..) (by omega)
    have p1 := h1 a (List.mem_cons_self ..)
    have p2 := h2 b (List.mem_cons_self ..)
    rw [map_inj_on (fun i hi => h1 i (List.mem_cons_of_mem _ hi)) (fun i hi => h2 i (List.mem_cons_of_mem _ hi)) (fun i hi j hj => hf i (List.mem_cons_of_mem _ hi) j (List.mem_cons_of_mem _ hj)) e2, show a = b by omega]
theorem ren_inj {k m : Nat} {s t : FStep} (hs : OkStep k s) (ht : OkStep m t) {f : Nat → Nat} (hf : ∀ i ∈ ix s, ∀ j ∈ ix t, f i = f j → i = j) (h : ren f s = ren f t) : s = t := by
  have hw : s.1 = t.1 := by rw [← ren_word f s, ← ren_word f t, h]
  by_cases hn : s.1 = "number"
  · have hn2 : t.1 = "number" := hw ▸ hn
    unfold ren at h
    rw [if_pos hn, if_pos hn2] at h
    exact h
  · have hn2 : t.1 ≠ "number" := hw ▸ hn
    unfold ren at h
    rw [if_neg hn, if_neg hn2] at h
    have h2 := (Prod.mk.inj h).2
    have hx : ∀ {u : FStep}, u.1 ≠ "number" → ∀ i ∈ u.2, i.toNat ∈ ix u := fun hu i hi => by
      unfold ix
      rw [if_neg hu]
      exact List.mem_map_of_mem hi
    have h3 := map_inj_on (fun i hi => (ok_pos hs hn i hi).1) (fun i hi => (ok_pos ht hn2 i hi).1) (fun i hi j hj => hf _ (hx hn i hi) _ (hx hn2 j hj)) h2
    exact Prod.ext hw h3
/-! ### going through the steps: each one once -/
def mstep (acc : List FStep × List Nat) (s : FStep) : List FStep × List Nat :=
  if ren (fun i => acc.2.getD i 0) s ∈ acc.1 then (acc.1, acc.2 ++ [acc.1.idxOf (ren (fun i => acc.2.getD i 0) s)]) else (acc.1 ++ [ren (fun i => acc.2.getD i 0) s], acc.2 ++ [acc.1.length])
def merge (F : List FStep) : List FStep × List Nat := F.foldl mstep ([], [])
structure Mg (n : Nat) (acc : List FStep × List Nat) : Prop where
  len : acc.2.length = n
  lt : ∀ p ∈ acc.2, p < acc.1.length
  ok : OkForm acc.1
  nd : acc.1.Nodup
  le : acc.1.length ≤ n
theorem getD_mem {l : List Nat} {i : Nat} (h : i < l.length) : l.getD i 0 ∈ l := by
  rw [List.getD_eq_getElem?_getD, List.getElem?_eq_getElem h]
  exact List.getElem_mem h
theorem Mg.step {n : Nat} {acc : List FStep × List Nat} (g : Mg n acc) {s : FStep} (hs : OkStep n s) : OkStep acc.1.length (ren (fun i => acc.2.getD i 0) s) :=
  ok_ren hs fun i hi => g.lt _ (getD_mem (by rw [g.len]; exact ok_ix hs i hi))
theorem OkForm.snoc {F : List FStep} {s : FStep} (h : OkForm F) (hs : OkStep F.length s) : OkForm (F ++ [s]) := by
  intro k t hk
  by_cases hlt : k < F.length
  · rw [List.getElem?_append_left hlt] at hk
    exact h k t hk
  · rw [List.getElem?_append_right (by omega)] at hk
    have h0 : k - F.length = 0 := by
      have := (List.getElem?_eq_some_iff.mp hk).1
      simp at this
      omega
    rw [h0] at hk
    cases Option.some.inj hk
    have : k = F.length := by omega
    rw [this]
    exact hs
theorem Mg.next {n : Nat} {acc : List FStep × List Nat} (g : Mg n acc) {s : FStep} (hs : OkStep n s) : Mg (n + 1) (mstep acc s) := by
  have h1 := g.step hs
  unfold mstep
  split
  · rename_i hm
    refine ⟨by rw [List.length_append, g.len]; rfl, fun p hp => ?_, g.ok, g.nd, Nat.le_succ_of_le g.le⟩
    rcases List.mem_append.mp hp with h | h
    · exact g.lt p h
    · rw [List.mem_singleton] at h
      rw [h]
      exact List.idxOf_lt_length_of_mem hm
  · rename_i hm
    refine ⟨by rw [List.length_append, g.len]; rfl, fun p hp => ?_, OkForm.snoc g.ok h1, List.nodup_append.mpr ⟨g.nd, by simp, fun a ha b hb => ?_⟩, by rw [List.length_append]; exact Nat.succ_le_succ g.le⟩
    · rw [List.length_append, List.length_singleton]
      rcases List.mem_append.mp hp with h | h
      · exact Nat.lt_succ_of_lt (g.lt p h)
      · rw [List.mem_singleton] at h
        omega
    · rw [List.mem_singleton] at hb
      subst hb
      exact fun z => hm (z ▸ ha)
theorem Mg.nil : Mg 0 ([], []) := ⟨rfl, fun p hp => absurd hp (by simp), fun k s h => by simp at h, List.nodup_nil, Nat.le_refl _⟩
theorem mg_take {F : List FStep} (h : OkForm F) : ∀ i, i ≤ F.length → Mg i ((F.take i).foldl mstep ([], []))
  | 0, _ => Mg.nil
  | i + 1, hi => by
    have hlt : i < F.length := hi
    rw [List.take_add_one, List.getElem?_eq_getElem hlt]
    show Mg (i + 1) ((F.take i ++ [F[i]]).foldl mstep ([], []))
    rw [List.foldl_append]
    exact (mg_take h i (Nat.le_of_lt hlt)).next (h i _ (List.getElem?_eq_getElem hlt))
theorem mg_merge {F : List FStep} (h : OkForm F) : Mg F.length (merge F) := by
  have := mg_take h F.length (Nat.le_refl _)
  rw [List.take_length] at this
  exact this
/-! ### the steps that are used -/
def upass (T : List FStep) : Nat → List Nat → List Nat
  | 0, L => L
  | n + 1, L => upass T n (if n ∈ L then L ++ ix (T.getD n ("pi", [])) else L)
theorem up_sub (T : List FStep) : ∀ n L, ∀ x ∈ L, x ∈ upass T n L
  | 0, _, x, h => h
  | n + 1, L, x, h => by
    unfold upass
    refine up_sub T n _ x ?_
    split
    · exact List.mem_append_left _ h
    · exact h
theorem ok_getD {T : List FStep} (h : OkForm T) (n : Nat) : ∀ i ∈ ix (T.getD n ("pi", [])), i < n := by
  intro i hi
  rw [List.getD_eq_getElem?_getD] at hi
  cases e : T[n]? with
  | none =>
    rw [e] at hi
    have e1 : ix (("pi" : Str), ([] : List Int)) = [] := by decide +kernel
    rw [Option.getD_none, e1] at hi
    exact absurd hi (List.not_mem_nil)
  | some s =>
    rw [e] at hi
    exact ok_ix (h n s e) i hi
/-- what is in the end at a place or above stood there before -/
theorem up_high {T : List FStep} (h : OkForm T) : ∀ n L, ∀ x ∈ upass T n L, n ≤ x + 1 → x ∈ L ∨ x + 1 ≤ n
  | 0, L, x, hx, _ => .inl hx
  | n + 1, L, x, hx, hn => by
    by_cases e : x + 1 ≤ n + 1
    · exact .inr e
    · unfold upass at hx
      rcases up_high h n _ x hx (by omega) with h1 | h1
      · split at h1
        · rcases List.mem_append.mp h1 with h2 | h2
          · exact .inl h2
          · have := ok_getD h n x h2
            omega
        · exact .inl h1
      · omega
theorem up_back {T : List FStep} (h : OkForm T) : ∀ n L, ∀ x, n ≤ x → x ∈ upass T n L → x ∈ L
  | 0, L, x, _, hx => hx
  | n + 1, L, x, hn, hx => by
    unfold upass at hx
    have h1 := up_back h n _ x (by omega) hx
    split at h1
    · rcases List.mem_append.mp h1 with h2 | h2
      · exact h2
      · have := ok_getD h n x h2
        omega
    · exact h1
/-- used steps' indexes are used -/
theorem up_closed {T : List FStep} (h : OkForm T) : ∀ n L, ∀ x, x < n → x ∈ upass T n L → ∀ i ∈ ix (T.getD x ("pi", [])), i ∈ upass T n L
  | 0, L, x, hn, _, _, _ => absurd hn (Nat.not_lt_zero _)
  | n + 1, L, x, hn, hx, i, hi => by
    unfold upass at hx ⊢
    by_cases e : x = n
    · subst e
      have h1 := up_back h x _ x (Nat.le_refl _) hx
      by_cases hm : x ∈ L
      · rw [if_pos hm]
        exact up_sub T x _ i (List.mem_append_right _ hi)
      · rw [if_neg hm] at h1
        exact absurd h1 hm
    · exact up_closed h n _ x (by omega) hx i hi
/-- each used step but the first ones has a used step above it -/
theorem up_parent {T : List FStep} (h : OkForm T) : ∀ n L, ∀ x ∈ upass T n L, x ∈ L ∨ ∃ y ∈ upass T n L, x ∈ ix (T.getD y ("pi", []))
  | 0, L, x, hx => .inl hx
  | n + 1, L, x, hx => by
    unfold upass at hx ⊢
    rcases up_parent h n _ x hx with h1 | h1
    · by_cases hm : n ∈ L
      · rw [if_pos hm] at h1 ⊢
        rcases List.mem_append.mp h1 with h2 | h2
        · exact .inl h2
        · exact .inr ⟨n, up_sub T n _ n (List.mem_append_left _ hm), h2⟩
      · rw [if_neg hm] at h1
        exact .inl h1
    · exact .inr h1
theorem up_le {T : List FStep} (h : OkForm T) {m : Nat} : ∀ n L, (∀ x ∈ L, x ≤ m) → ∀ x ∈ upass T n L, x ≤ m
  | 0, L, hL, x, hx => hL x hx
  | n + 1, L, hL, x, hx => by
    unfold upass at hx
    refine up_le h n _ (fun y hy => ?_) x hx
    split at hy
    · rename_i hm
      rcases List.mem_append.mp hy with h2 | h2
      · exact hL y h2
      · have h3 := ok_getD h n y h2
        have h4 := hL n hm
        omega
    · exact hL y hy
/-- places above all that is used change nothing -/
theorem up_skip {T : List FStep} {m : Nat} : ∀ n L, (∀ x ∈ L, x ≤ m) → m + 1 ≤ n → upass T n L = upass T (m + 1) L
  | 0, L, _, hn => absurd hn (by omega)
  | n + 1, L, hL, hn => by
    by_cases e : n = m
    · rw [e]
    · have hm : n ∉ L := fun z => by
        have := hL n z
        omega
      show upass T n (if n ∈ L then _ else L) = _
      rw [if_neg hm]
      exact up_skip n L hL (by omega)
/-! ### the whole -/
def used (T : List FStep) (last : Nat) : List Nat := upass T (last + 1) [last]
def order (T : List FStep) (last : Nat) : List Nat := (List.range (last + 1)).filter fun x => decide (x ∈ used T last)
def rank (T : List FStep) (last : Nat) (x : Nat) : Nat := ((List.range x).filter fun y => decide (y ∈ used T last)).length
def picked (T : List FStep) (last : Nat) : List FStep := (order T last).map fun x => ren (rank T last) (T.getD x ("pi", []))
def tidy (F : List FStep) : List FStep := picked (merge F).1 ((merge F).2.getLastD 0)
theorem used_last (T : List FStep) (last : Nat) : last ∈ used T last := up_sub T _ _ _ (by simp)
theorem mem_order {T : List FStep} {last x : Nat} (h : OkForm T) : x ∈ order T last ↔ x ∈ used T last := by
  unfold order
  rw [List.mem_filter, List.mem_range]
  refine ⟨fun z => of_decide_eq_true z.2, fun z => ⟨?_, decide_eq_true z⟩⟩
  have := up_le h (m := last) (last + 1) [last] (fun y hy => by simp at hy; omega) x z
  omega
theorem rank_succ (T : List FStep) (last x : Nat) : rank T last (x + 1) = rank T last x + (if x ∈ used T last then 1 else 0) := by
  unfold rank
  rw [List.range_succ, List.filter_append, List.length_append, List.filter_cons]
  by_cases h : x ∈ used T last
  · rw [if_pos h, if_pos (decide_eq_true h)]
    rfl
  · rw [if_neg h, if_neg (by simpa using h)]
    rfl
theorem rank_mono (T : List FStep) (last : Nat) : ∀ {x y : Nat}, x ≤ y → rank T last x ≤ rank T last y := by
  intro x y h
  induction h with
  | refl => exact Nat.le_refl _
  | step _ ih =>
    rw [rank_succ]
    omega
theorem rank_lt {T : List FStep} {last x y : Nat} (h : x < y) (hx : x ∈ used T last) : rank T last x < rank T last y := by
  have h1 := rank_mono T last (show x + 1 ≤ y from h)
  rw [rank_succ, if_pos hx] at h1
  omega
theorem rank_inj {T : List FStep} {last x y : Nat} (hx : x ∈ used T last) (hy : y ∈ used T last) (h : rank T last x = rank T last y) : x = y := by
  rcases Nat.lt_trichotomy x y with z | z | z
  · have := rank_lt z hx
    omega
  · exact z
  · have := rank_lt z hy
    omega
theorem order_len (T : List FStep) (last : Nat) : (order T last).length = rank T last (last + 1) := rfl
/-! ### places in a filtered range -/
theorem filt_at (p : Nat → Bool) : ∀ n y, y < n → p y = true → ((List.range n).filter p)[((List.range y).filter p).length]? = some y
  | 0, y, h, _ => absurd h (Nat.not_lt_zero _)
  | n + 1, y, h, hp => by
    rw [List.range_succ, List.filter_append]
    by_cases e : y < n
    · have h1 := filt_at p n y e hp
      rw [List.getElem?_append_left (List.getElem?_eq_some_iff.mp h1).1]
      exact h1
    · have e2 : y = n := by omega
      subst e2
      rw [List.getElem?_append_right (Nat.le_refl _), Nat.sub_self, List.filter_cons, if_pos hp]
      rfl
theorem filt_of (p : Nat → Bool) : ∀ n x, x < ((List.range n).filter p).length → ∃ y, y < n ∧ p y = true ∧ ((List.range y).filter p).length = x
  | 0, x, h => absurd h (by simp)
  | n + 1, x, h => by
    rw [List.range_succ, List.filter_append, List.length_append] at h
    by_cases e : x < ((List.range n).filter p).length
    · obtain ⟨y, h1, h2, h3⟩ := filt_of p n x e
      exact ⟨y, by omega, h2, h3⟩
    · by_cases hp : p n = true
      · rw [List.filter_cons, if_pos hp] at h
        exact ⟨n, by omega, hp, by simp at h; omega⟩
      · rw [List.filter_cons, if_neg hp] at h
        simp at h
        omega
theorem order_at {T : List FStep} {last y : Nat} (h : OkForm T) (hy : y ∈ used T last) : (order T last)[rank T last y]? = some y := by
  have h1 : y < last + 1 := by
    have := (mem_order h).mpr hy
    unfold order at this
    rw [List.mem_filter, List.mem_range] at this
    exact this.1
  exact filt_at _ (last + 1) y h1 (decide_eq_true hy)
theorem order_of {T : List FStep} {last x : Nat} (hx : x < (order T last).length) : ∃ y, y < last + 1 ∧ y ∈ used T last ∧ rank T last y = x := by
  obtain ⟨y, h1, h2, h3⟩ := filt_of _ (last + 1) x hx
  exact ⟨y, h1, of_decide_eq_true h2, h3⟩
theorem picked_len (T : List FStep) (last : Nat) : (picked T last).length = (order T last).length := List.length_map ..
theorem picked_at {T : List FStep} {last y : Nat} (h : OkForm T) (hy : y ∈ used T last) : (picked T last)[rank T last y]? = some (ren (rank T last) (T.getD y ("pi", []))) := by
  unfold picked
  rw [List.getElem?_map, order_at h hy]
  rfl
theorem used_ix {T : List FStep} {last y i : Nat} (h : OkForm T) (hy : y ∈ used T last) (hi : i ∈ ix (T.getD y ("pi", []))) : i ∈ used T last := by
  have h1 : y < last + 1 := by
    have := (mem_order h).mpr hy
    unfold order at this
    rw [List.mem_filter, List.mem_range] at this
    exact this.1
  exact up_closed h (last + 1) [last] y h1 hy i hi
theorem getD_ok {T : List FStep} (h : OkForm T) {y : Nat} (hy : y < T.length) : OkStep y (T.getD y ("pi", [])) := by
  rw [List.getD_eq_getElem?_getD, List.getElem?_eq_getElem hy]
  exact h y _ (List.getElem?_eq_getElem hy)
theorem picked_ok {T : List FStep} {last : Nat} (h : OkForm T) (hl : last < T.length) : OkForm (picked T last) := by
  intro k s hk
  have hlt := (List.getElem?_eq_some_iff.mp hk).1
  rw [picked_len] at hlt
  obtain ⟨y, h1, h2, h3⟩ := order_of hlt
  rw [← h3, picked_at h h2] at hk
  cases Option.some.inj hk
  refine ok_ren (getD_ok h (by omega)) fun i hi => ?_
  rw [← h3]
  exact rank_lt (ok_getD h y i hi) (used_ix h h2 hi)
theorem picked_ne (T : List FStep) (last : Nat) : 0 < (picked T last).length := by
  rw [picked_len, order_len, rank_succ, if_pos (used_last T last)]
  omega
theorem picked_le (T : List FStep) (last : Nat) : (picked T last).length ≤ last + 1 := by
  rw [picked_len]
  unfold order
  have := List.length_filter_le (fun x => decide (x ∈ used T last)) (List.range (last + 1))
  rw [List.length_range] at this
  exact this
theorem picked_nd {T : List FStep} {last : Nat} (h : OkForm T) (hn : T.Nodup) (hl : last < T.length) : (picked T last).Nodup := by
  unfold picked
  refine List.pairwise_map.mpr ?_
  have hp : (order T last).Pairwise (fun a b => a < b) := by
    unfold order
    exact List.Pairwise.filter _ List.pairwise_lt_range
  refine List.Pairwise.imp_of_mem ?_ hp
  intro a b ha hb hab he
  have hb1 : b < T.length := by
    unfold order at hb
    rw [List.mem_filter, List.mem_range] at hb
    omega
  have ua := (mem_order h).mp ha
  have ub := (mem_order h).mp hb
  have e := ren_inj (getD_ok h (by omega)) (getD_ok h hb1) (fun i hi j hj z => rank_inj (used_ix h ua hi) (used_ix h ub hj) z) he
  rw [List.getD_eq_getElem?_getD, List.getD_eq_getElem?_getD, List.getElem?_eq_getElem (show a < T.length by omega), List.getElem?_eq_getElem hb1] at e
  have := (List.getElem_inj hn).mp (show T[a] = T[b] from e)
  omega
/-! ### a formula without equal steps, all used -/
theorem merge_nd {F : List FStep} (h : OkForm F) (hn : F.Nodup) : merge F = (F, List.range F.length) := by
  have key : ∀ i, i ≤ F.length → (F.take i).foldl mstep ([], []) = (F.take i, List.range i) := by
    intro i
    induction i with
    | zero => exact fun _ => rfl
    | succ i ih =>
      intro hi
      have hlt : i < F.length := hi
      rw [List.take_add_one, List.getElem?_eq_getElem hlt]
      show (F.take i ++ [F[i]]).foldl mstep ([], []) = (F.take i ++ [F[i]], _)
      rw [List.foldl_append, ih (Nat.le_of_lt hlt)]
      have hs := h i _ (List.getElem?_eq_getElem hlt)
      have e : ren (fun j => (List.range i).getD j 0) F[i] = F[i] := ren_id hs fun j hj => by
        have := ok_ix hs j hj
        rw [List.getD_eq_getElem?_getD, List.getElem?_range this]
        rfl
      have hm : F[i] ∉ F.take i := by
        intro z
        obtain ⟨j, hj, hz⟩ := List.getElem_of_mem z
        rw [List.getElem_take] at hz
        have := (List.getElem_inj hn).mp hz
        rw [List.length_take] at hj
        omega
      show mstep (F.take i, List.range i) F[i] = _
      unfold mstep
      rw [e, if_neg hm, List.range_succ, List.length_take, Nat.min_eq_left (Nat.le_of_lt hlt)]
  have := key F.length (Nat.le_refl _)
  rw [List.take_length] at this
  exact this
theorem picked_all {G : List FStep} {m : Nat} (h : OkForm G) (hm : G.length = m + 1) (ha : ∀ x, x < G.length → x ∈ used G m) : picked G m = G := by
  have hr : ∀ x, x ≤ m + 1 → rank G m x = x := by
    intro x hx
    unfold rank
    rw [List.filter_eq_self.mpr (fun y hy => decide_eq_true (ha y (by rw [List.mem_range] at hy; omega))), List.length_range]
  have ho : order G m = List.range (m + 1) := List.filter_eq_self.mpr fun y hy => decide_eq_true (ha y (by rw [List.mem_range] at hy; omega))
  unfold picked
  rw [ho]
  refine List.ext_getElem (by rw [List.length_map, List.length_range, hm]) fun k h1 h2 => ?_
  rw [List.getElem_map, List.getElem_range, List.getD_eq_getElem?_getD, List.getElem?_eq_getElem h2]
  have hs := h k _ (List.getElem?_eq_getElem h2)
  exact ren_id hs fun i hi => hr i (by have := ok_ix hs i hi; omega)
theorem picked_used {T : List FStep} {last : Nat} (h : OkForm T) (hl : last < T.length) : ∀ x, x < (picked T last).length → x ∈ used (picked T last) ((picked T last).length - 1) := by
  have hG := picked_ok h hl
  have hlen : (picked T last).length - 1 = rank T last last := by
    rw [picked_len, order_len, rank_succ, if_pos (used_last T last)]
    rfl
  have hp := picked_ne T last
  have key : ∀ d y, d + y = last → y ∈ used T last → rank T last y ∈ used (picked T last) ((picked T last).length - 1) := by
    intro d
    induction d using Nat.strongRecOn with
    | _ d ih =>
      intro y hd hy
      rcases up_parent h (last + 1) [last] y hy with h1 | ⟨z, hz, h1⟩
      · rw [List.mem_singleton] at h1
        rw [h1, ← hlen]
        exact used_last _ _
      · have hz1 : z < last + 1 := by
          have := (mem_order h).mpr (show z ∈ used T last from hz)
          unfold order at this
          rw [List.mem_filter, List.mem_range] at this
          exact this.1
        have hlt := ok_getD h z y h1
        have h2 := ih (last - z) (by omega) z (by omega) hz
        refine used_ix hG h2 ?_
        rw [List.getD_eq_getElem?_getD, picked_at h hz]
        show _ ∈ ix (ren _ _)
        rw [ix_ren]
        exact List.mem_map_of_mem h1
  intro x hx
  rw [picked_len] at hx
  obtain ⟨y, h1, h2, h3⟩ := order_of hx
  rw [← h3]
  exact key (last - y) y (by omega) h2
theorem range_last (n : Nat) : (List.range (n + 1)).getLastD 0 = n := by
  rw [List.range_succ, List.getLastD_concat]
theorem last_lt {F : List FStep} (h : OkForm F) (hne : F ≠ []) : (merge F).2.getLastD 0 < (merge F).1.length := by
  have g := mg_merge h
  have h1 : (merge F).2 ≠ [] := fun z => hne (List.length_eq_zero_iff.mp (by rw [← g.len, z]; rfl))
  rw [List.getLastD_eq_getLast?, List.getLast?_eq_some_getLast h1]
  exact g.lt _ (List.getLast_mem h1)
theorem tidy_ok {F : List FStep} (h : OkForm F) (hne : F ≠ []) : OkForm (tidy F) := picked_ok (mg_merge h).ok (last_lt h hne)
theorem tidy_ne (F : List FStep) : 0 < (tidy F).length := picked_ne _ _
theorem tidy_le {F : List FStep} (h : OkForm F) (hne : F ≠ []) : (tidy F).length ≤ F.length := by
  have h1 := picked_le (merge F).1 ((merge F).2.getLastD 0)
  have h2 := last_lt h hne
  have h3 := (mg_merge h).le
  unfold tidy
  omega
theorem tidy_tidy {F : List FStep} (h : OkForm F) (hne : F ≠ []) : tidy (tidy F) = tidy F := by
  have hG := tidy_ok h hne
  have g := mg_merge h
  have hl := last_lt h hne
  have hnd : (tidy F).Nodup := picked_nd g.ok g.nd hl
  have hp := tidy_ne F
  obtain ⟨m, hm⟩ : ∃ m, (tidy F).length = m + 1 := ⟨(tidy F).length - 1, by omega⟩
  show picked (merge (tidy F)).1 ((merge (tidy F)).2.getLastD 0) = _
  rw [merge_nd hG hnd]
  show picked (tidy F) ((List.range (tidy F).length).getLastD 0) = _
  rw [hm, range_last]
  refine picked_all hG hm fun x hx => ?_
  have := picked_used g.ok hl x hx
  show x ∈ used (tidy F) m
  have e : (picked (merge F).1 ((merge F).2.getLastD 0)).length - 1 = m := by
    show (tidy F).length - 1 = m
    omega
  rw [e] at this
  exact this
end Td

/-! Own rules: an index into a list or a dict by one rule; set(a list of ints). -/
namespace Ld
open PySem PySem.Spec PyProof.Rows L2
theorem hu65 {A : Around} {k : Nat} (hr : Room k A) : A.units + 65 < cLine := by
  have := hr.un
  omega
def rDG : R2 := fun x y H Q => ∃ a v, x = .ref a ∧ DGet H a y (some v) ∧ Q v H
def rLD (K : PySem.W.Frag) : R2 := fun x y H Q => rIxL K x y H Q ∨ rDG x y H Q
section
variable {X : Cx}
theorem ix_dg (hu : X.A.units + 1 < cLine) : IxR X rDG := fun value slice pins s σ H x y v u Q I rx ry h hs => by
  obtain ⟨a, z, rfl, g, q⟩ := h
  cases (show v = Value.ref a from rx)
  exact tail_any (dict_typeIs I g) PySem.F.slot_dict_getitem.lookup (d_getItem hu I g ry fun r s1 I1 rr => ⟨z, H, I1, rr, q⟩) hs
theorem ix_ld (hu : X.A.units + 1 < cLine) : IxR X (rLD X.K) := IxR.or ix_list (ix_dg hu)
end
section
variable {P : Program} {w : World} {A : Around} {E : Value → Shared → Prop} {s : Shared}
abbrev bare (w : World) : Obj := { cls := .type "set", dict := none, data := .set #[] 0 (.fresh 0 0 (!w.params.followText "set-order")) }
abbrev withBare (w : World) (s : Shared) : Shared := { s with heap := s.heap.push (bare w) }
theorem bare_at (w : World) (h : Heap) : (h.push (bare w)).get? h.objs.size = some (bare w) := Heap.get?_push_size _ rfl
/-- what stands when the set is filled -/
def Filled (w : World) (s : Shared) (ns : List Int) (s2 : Shared) : Prop := ∃ h2 t2 c, s2 = { s with heap := h2, toks := t2 } ∧ SetR w h2 s.heap.objs.size (fun j => decide (j ∈ ns)) c ∧ c ≤ ns.length ∧ ∀ b o, s.heap.get? b = some o → h2.get? b = some o
theorem fill {l : Addr} {its : Array Value} (ns : List Int) (hh : A.handled = none) (hl : s.heap.IsList l its) (hi : IntsAre its.toList ns) (hb : ns.length + 1 < scanBound) :
    codeAny (model P w) A (.builtin "set.__init__" ⟨[.ref s.heap.objs.size, .ref l], []⟩) (wants (fun r s2 => r = .none ∧ Filled w s ns s2) E) (withBare w s) := by
  have sz : its.size = ns.length := by
    rw [← Array.length_toList]
    exact IntsAre.length hi
  have here := bare_at w s.heap
  have ty : Shared.TypeIs (withBare w s) (.ref s.heap.objs.size) "set" := ⟨_, here, rfl⟩
  obtain ⟨⟨cl, di, da, sl⟩, ho, hc, nl, hd⟩ := hl
  cases hc
  cases hd
  have lt : l < s.heap.objs.size := Heap.lt_size ho
  have ho2 := Heap.get?_push_of_some (bare w) ho
  have il : (s.heap.push (bare w)).IsList l its := ⟨_, ho2, rfl, nl, rfl⟩
  have n1 := F.sub_list_set
  have n2 := F.sub_list_frozenset
  have n3 : (Value.type "list" == Value.type "dict") = false := by decide
  refine codeAny_builtin F.entry_set_init ?_
  rw [Around.under_plainId (by first | exact F.plain_set_init | exact F.called_set.init.plain) _]
  unfold Builtin.«set.__init__» noKeywords
  unfold Builtin.Frozenset.updateFrom
  generalize gi : pyIter = PI
  wp_walk
  subst gi
  refine wpAny_pyIter_list il (wpAny_bind (wpAny_runValue ?_))
  have size2 : (s.heap.push (bare w)).objs.size = s.heap.objs.size + 1 := Heap.size_push ..
  have ne1 : l ≠ (s.heap.push (bare w)).objs.size := size2 ▸ Nat.ne_of_lt (Nat.lt_succ_of_lt lt)
  have out : s.heap.objs.size ∉ [(s.heap.push (bare w)).objs.size, l] := by
    intro z
    rcases List.mem_cons.mp z with z1 | z1
    · exact Nat.ne_of_lt (Nat.lt_succ_self _) (z1.trans size2)
    · exact Nat.ne_of_gt lt (List.mem_singleton.mp z1)
  have vals : ∀ (i : Nat) (v : Value), its[i]? = some v → ∃ k t, ns[i]? = some k ∧ v = .int k t := fun i v hv => by
    have lt2 : i < ns.length := by
      rw [← sz]
      exact (Array.getElem?_eq_some_iff.mp hv).1
    obtain ⟨t, e⟩ := IntsAre.int_at hi i v (by rw [Array.getElem?_toList]; exact hv)
    rw [List.getD_eq_getElem?_getD, List.getElem?_eq_getElem lt2, Option.getD_some] at e
    exact ⟨_, t, List.getElem?_eq_getElem lt2, e⟩
  have hn3 : A.in1.in1.handled = none := by simp [hh]
  refine set_update_ints ((Walks.list hn3 _ l ne1 its).toS) s.heap.objs.size out ns sz hb vals (its.size - 0) 0 _ (Nat.sub_zero _ ▸ rfl) (Nat.zero_le _) ⟨⟨_, Heap.get?_push_size _ rfl, rfl, rfl⟩, il.push _⟩ ?z1 ?z2
  case z1 => exact ⟨0, Nat.le_refl 0, setR_new_at (Heap.get?_push_of_some _ here)⟩
  intro s3 c3 mv R3a R3
  obtain ⟨h3, gs, dr, tk, os⟩ := s3
  cases (show gs = s.gens from mv.gens)
  cases (show dr = s.drawn from mv.drawn)
  cases (show os = s.os from mv.os)
  refine wpAny_pure (wpAny_pure ⟨rfl, h3, tk, c3, rfl, R3, sz ▸ R3a, fun b o e => mv.heap b o (fun z => ?_) (Heap.get?_push_of_some _ (Heap.get?_push_of_some _ e))⟩)
  have ltb : b < s.heap.objs.size := Heap.lt_size e
  rcases List.mem_cons.mp z with z1 | z1
  · exact Nat.ne_of_lt ltb z1
  · exact Nat.ne_of_lt (Nat.lt_succ_of_lt ltb) ((List.mem_singleton.mp z1).trans size2)
theorem set_of {l : Addr} {its : Array Value} (ns : List Int) {Q : Value → Shared → Prop} (hh : A.handled = none) (hl : s.heap.IsList l its) (hi : IntsAre its.toList ns) (hb : ns.length + 1 < scanBound)
    (k : ∀ s2, Filled w s ns s2 → Q (.ref s.heap.objs.size) s2) : wpAny (model P w) A (call (.type "set") [.ref l]) Q E s := by
  have ⟨cc, tt, mro⟩ := F.called_set.mro
  have made := F.called_set.made
  have sub := F.called_set.sub
  have ncls := F.called_set.notType
  have canC := F.called_set.canCreate
  have tc := F.typeCall_set_1 (.ref l)
  refine wpAny_call (codeAny_of_tree (show wpAny _ _ (callAny (.type "set") _) _ _ _ from wpAny_pure ⟨Code.quiet_builtin _ (by decide +kernel), codeAny_builtin F.entry_type_call ?_⟩))
  rw [Around.under_plain (weight_type_call_type "set" [.ref l] []) rfl]
  repeat (any_goals (first | assumption | wp_step))
  refine codeAny_mono (code_set_led1 (.ref l) (E := E) (Q₁ := fun x s1 => x = .ref s.heap.objs.size ∧ s1 = withBare w s) ⟨rfl, rfl⟩) fun r1 s1 g1 => ?_
  have lk := F.called_set.init.lookup
  have bd := F.called_set.init.bind (.ref s.heap.objs.size)
  cases r1 with
  | error e => exact g1
  | ok fl =>
    cases fl with
    | ret ob =>
      obtain ⟨rfl, rfl⟩ := g1
      have ty : Shared.TypeIs (withBare w s) (.ref s.heap.objs.size) "set" := ⟨_, bare_at w s.heap, rfl⟩
      repeat (any_goals (first | assumption | wp_step))
      refine codeAny_mono (codeAny_call_builtin_code (R := wants (fun r s2 => r = .none ∧ Filled w s ns s2) E) (plainId_quiet F.called_set.init.plain _) (check_set_init_1 ty (fill ns hh hl hi hb))) fun r2 s2 g2 => ?_
      cases r2 with
      | error e => exact g2
      | ok f2 =>
        cases f2 with
        | ret v =>
          obtain ⟨rfl, g3⟩ := g2
          repeat (any_goals (first | assumption | wp_step))
          exact k _ g3
        | _ => exact g2.elim
    | _ => exact g1.elim
end
def rSetI (K : PySem.W.Frag) (w : World) : List V → Hp → VK → Prop := fun xs H Q => ∃ (l : Addr) (ns : List Int), xs = [V.ref l] ∧ SqL K H l (ns.map V.int) ∧ ns.length ≤ 60 ∧ ∀ p n, H p = none → n ≤ ns.length → Q (.ref p) (upd H p (SetO w p (fun j => decide (j ∈ ns)) n))
theorem cr_setI {X : Cx} (hc : X.calm = true) : CallR X (.type "set") (rSetI X.K X.w) := fun pins s σ H xs us Q I r h => by
  obtain ⟨l, ns, rfl, hl, hz, q⟩ := h
  rw [Vals.ref1 r]
  obtain ⟨its, rv, pl, _⟩ := I.list hl
  refine set_of ns (I.ok.hd hc) pl.isList (by simpa using ints_of_vals rv) (by unfold scanBound; omega) fun s2 g => ?_
  obtain ⟨h2, t2, c, rfl, R, le, kp⟩ := g
  exact ⟨.ref s.heap.objs.size, upd H s.heap.objs.size (SetO X.w s.heap.objs.size (fun j => decide (j ∈ ns)) c), I.laid (t' := t2) kp (Nat.le_refl _) (setO_new R), rfl, q _ c (I.hok.fresh (Nat.le_refl _)) le⟩
end Ld


namespace K08
open PySem PySem.Spec PyProof.Rows L2 Evl Cm Et Fm Td Ld
def topS (i : Nat) : Stmt := PySem.Challenge.pw_portolan_k08_formulas_tidied.main.body.getD i (.Pass ⟨0, 0, 0, 0⟩)
abbrev s_is_integer : Stmt := topS 1
theorem sc_is_integer : FnScope ["value"] ["value"] (defScope s_is_integer) := ⟨rfl, rfl, rfl, by decide +kernel, rfl, by decide +kernel, by decide +kernel⟩
abbrev s_are_integers : Stmt := topS 2
theorem sc_are_integers : FnScope ["values", "value"] ["values"] (defScope s_are_integers) := ⟨rfl, rfl, rfl, by decide +kernel, rfl, by decide +kernel, by decide +kernel⟩
abbrev s_is_formula : Stmt := topS 5
theorem sc_is_formula : FnScope ["value", "place", "step"] ["value"] (defScope s_is_formula) := ⟨rfl, rfl, rfl, by decide +kernel, rfl, by decide +kernel, by decide +kernel⟩
abbrev s_tidied : Stmt := topS 6
theorem sc_tidied : FnScope ["formula", "steps", "places"] ["formula"] (defScope s_tidied) := ⟨rfl, rfl, rfl, by decide +kernel, rfl, by decide +kernel, by decide +kernel⟩
abbrev s_steps_of : Stmt := topS 7
theorem sc_steps_of : FnScope ["formula", "word", "step"] ["formula", "word"] (defScope s_steps_of) := ⟨rfl, rfl, rfl, by decide +kernel, rfl, by decide +kernel, by decide +kernel⟩
abbrev s_is_step : Stmt := topS 8
theorem sc_is_step : FnScope ["step", "place", "word", "index"] ["step", "place"] (defScope s_is_step) := ⟨rfl, rfl, rfl, by decide +kernel, rfl, by decide +kernel, by decide +kernel⟩
abbrev s_indexes_of : Stmt := topS 9
theorem sc_indexes_of : FnScope ["step"] ["step"] (defScope s_indexes_of) := ⟨rfl, rfl, rfl, by decide +kernel, rfl, by decide +kernel, by decide +kernel⟩
abbrev s_moved : Stmt := topS 10
theorem sc_moved : FnScope ["step", "places"] ["step", "places"] (defScope s_moved) := ⟨rfl, rfl, rfl, by decide +kernel, rfl, by decide +kernel, by decide +kernel⟩
abbrev s_merged : Stmt := topS 11
theorem sc_merged : FnScope ["formula", "kept", "places"] ["formula"] (defScope s_merged) := ⟨rfl, rfl, rfl, by decide +kernel, rfl, by decide +kernel, by decide +kernel⟩
abbrev s_merged_into : Stmt := topS 12
theorem sc_merged_into : FnScope ["kept", "place_of", "formula", "places", "step", "fitted"] ["kept", "place_of", "formula"] (defScope s_merged_into) := ⟨rfl, rfl, rfl, by decide +kernel, rfl, by decide +kernel, by decide +kernel⟩
abbrev s_used_steps : Stmt := topS 13
theorem sc_used_steps : FnScope ["steps", "last", "used", "place", "index", "kept", "places", "is_used"] ["steps", "last"] (defScope s_used_steps) := ⟨rfl, rfl, rfl, by decide +kernel, rfl, by decide +kernel, by decide +kernel⟩
abbrev s_law_cell : Stmt := topS 15
theorem sc_law_cell : FnScope ["script", "k"] ["script", "k"] (defScope s_law_cell) := ⟨rfl, rfl, rfl, by decide +kernel, rfl, by decide +kernel, by decide +kernel⟩
abbrev s_law_numbers : Stmt := topS 16
theorem sc_law_numbers : FnScope ["script", "first", "most", "found", "at", "cell", "k", "mixed"] ["script", "first", "most"] (defScope s_law_numbers) := ⟨rfl, rfl, rfl, by decide +kernel, rfl, by decide +kernel, by decide +kernel⟩
abbrev s_law_is_integer : Stmt := topS 17
theorem sc_law_is_integer : FnScope ["actual"] ["actual"] (defScope s_law_is_integer) := ⟨rfl, rfl, rfl, by decide +kernel, rfl, by decide +kernel, by decide +kernel⟩
abbrev s_law_formula : Stmt := topS 18
theorem sc_law_formula : FnScope ["numbers", "most", "steps", "figure", "kind", "a", "i", "j"] ["numbers", "most"] (defScope s_law_formula) := ⟨rfl, rfl, rfl, by decide +kernel, rfl, by decide +kernel, by decide +kernel⟩
abbrev s_law_moved : Stmt := topS 19
theorem sc_law_moved : FnScope ["step", "places"] ["step", "places"] (defScope s_law_moved) := ⟨rfl, rfl, rfl, by decide +kernel, rfl, by decide +kernel, by decide +kernel⟩
abbrev s_law : Stmt := topS 20
theorem sc_law : FnScope ["script", "digit", "numbers", "number", "formula", "kept", "places", "step", "moved_v", "used", "k", "at", "order", "moves", "due", "actual", "word", "count"] ["script"] (defScope s_law) := ⟨rfl, rfl, rfl, by decide +kernel, rfl, by decide +kernel, by decide +kernel⟩
section
variable {P : Program} {w : World} {K : PySem.W.Frag} {mg : Str → Option Value} {base : Heap}
/-! ### the program: is_formula of formulas -/
def spInteger : Sp := fun vs H Q _ => ∃ i : Int, vs = [.int i] ∧ RetV (.bl true) H Q
theorem ok_integer {f : Addr} {fd : FuncData} (F : Fun K "is_integer" "is_integer" s_is_integer f fd) (m_isinstance : mg "isinstance" = none) (m_int : mg "int" = none) (m_bool : mg "bool" = none) : FnOk P w K mg base CX0 1 f fd ["value"] spInteger := by
  refine F.ok sc_is_integer (fun vs H Q E h => ?_) (fun cdv A outer s H vs Q E hr h => ?_)
  · obtain ⟨i, rfl, _⟩ := h
    rfl
  · obtain ⟨i, rfl, q⟩ := h
    refine ⟨_, (pss_one (ps_ret (pe_and (pe_callB call_isi (by rfl) m_isinstance (by decide +kernel) (pa_cons (pv 0) (pa_cons (pe_bltn (by rfl) m_int (by decide +kernel) (show RelV (.ty "int") _ from rfl)) pa_nil))) (pe_one (pe_not (pe_callB call_isi (by rfl) m_isinstance (by decide +kernel) (pa_cons (pv 0) (pa_cons (pe_bltn (by rfl) m_bool (by decide +kernel) (show RelV (.ty "bool") _ from rfl)) pa_nil)))))))), ?_⟩
    exact s_ret (ev_is (ev_andV (ev_cb (ea_cons (ev_var rfl) (ea_cons ev_c ea_nil)) (rc_isiI (K := K))) fun _ => ev_notV (ev_cb (ea_cons (ev_var rfl) (ea_cons ev_c ea_nil)) (rc_isiIB (K := K)))) rfl) q
def spInts (K : PySem.W.Frag) : Sp := fun vs H Q _ => ∃ (a : Addr) (is : List Int), vs = [.ref a] ∧ SqT K H a (is.map V.int) ∧ RetV (.bl true) H Q
theorem ok_ints {f f0 : Addr} {fd fd0 : FuncData} (F : Fun K "are_integers" "are_integers" s_are_integers f fd) (F_is_integer : Fun K "is_integer" "is_integer" s_is_integer f0 fd0) (b_is_integer : Binds K fd0 ["value"] []) (g_is_integer : mg "is_integer" = some (.ref f0))
    (m_isinstance : mg "isinstance" = none) (m_int : mg "int" = none) (m_bool : mg "bool" = none) : FnOk P w K mg base CX0 2 f fd ["values"] (spInts K) := by
  have G_is_integer : FnOk P w K mg base CX0 1 f0 fd0 _ spInteger := ok_integer F_is_integer m_isinstance m_int m_bool
  refine F.ok sc_are_integers (fun vs H Q E h => ?_) (fun cdv A outer s H vs Q E hr h => ?_)
  · obtain ⟨a, is, rfl, _⟩ := h
    rfl
  · obtain ⟨a, is, rfl, ht, q⟩ := h
    refine ⟨_, (pss_cons (ps_for PassesOwn.never rfl (pi_tup (pv 0)) (pg_name (i := 1) sc_are_integers.nd rfl (.inl rfl)) (pss_one (ps_if (pt_not (pt_val (pe_call G_is_integer (hr.mono (by decide)) (by rfl) g_is_integer F_is_integer.kp b_is_integer .nil pass0 (pa_cons (pv 1) pa_nil)))) (pss_one (ps_ret pe_bl)) pss_nil)))
        (pss_one (ps_ret pe_bl))), ?_⟩
    refine q_forT (ev_var rfl) ht (fun i σ' H' => ∃ x, σ' = [some (.ref a), x] ∧ Ex H H') (fun H1 e1 => ⟨_, rfl, e1⟩) (fun i σ' H' _ p => ?_) (fun i x σ' H' hx p => ?_) (fun σ' H' p => ?_)
    · obtain ⟨x, rfl, e⟩ := p
      exact ex_t e ht
    · obtain ⟨x1, rfl, e⟩ := p
      obtain ⟨n, hn, rfl⟩ : ∃ n, is[i]? = some n ∧ x = V.int n := by
        rw [List.getElem?_map] at hx
        obtain ⟨n, h1, h2⟩ := Option.map_eq_some_iff.mp hx
        exact ⟨n, h1, h2.symm⟩
      show tIfS _ _ tNext _ [some (.ref a), some (.int n)] H'
      exact s_when (b := false) (et_is (et_not (et_B (ev_call (z := .bl true) (ea_cons (ev_var rfl) ea_nil) (fun H1 e1 Q1 q1 E1 => ⟨n, rfl, q1⟩)))) rfl) (fun hb => nomatch hb) fun _ H1 e1 => ⟨_, rfl, e.trans e1⟩
    · obtain ⟨x, rfl, e⟩ := p
      exact s_ret ev_c fun H1 e1 => q H1 (e.trans e1)
/-- the counts behind the words, as the top has written them -/
structure Counts (K : PySem.W.Frag) (w : World) (d : Addr) : Prop where
  dict : ∃ es n, KDict K w d es n
  cnum : ∃ t, PySem.W.nsIn K d "number" = some (some (.int 2 t))
  cpi : ∃ t, PySem.W.nsIn K d "pi" = some (some (.int 0 t))
  c2 : ∀ x ∈ W2, ∃ t, PySem.W.nsIn K d x = some (some (.int 2 t))
  c1 : ∀ x ∈ W1, ∃ t, PySem.W.nsIn K d x = some (some (.int 1 t))
theorem Counts.of {d : Addr} (C : Counts K w d) {k : Nat} {st : FStep} (h : OkStep k st) : ∃ t, PySem.W.nsIn K d st.1 = some (some (.int (st.2.length : Nat) t)) := by
  rcases h with ⟨p, q, rfl, _⟩ | rfl | ⟨x, i, j, hx, rfl, _⟩ | ⟨x, i, hx, rfl, _⟩
  · exact C.cnum
  · exact C.cpi
  · exact C.c2 x hx
  · exact C.c1 x hx
def spIsStep : Sp := fun vs H Q _ => ∃ (v : V) (st : FStep) (k : Nat), vs = [v, .int (k : Int)] ∧ StepAt H v st ∧ OkStep k st ∧ RetV (.bl true) H Q
theorem ok_isstep {f f0 f1 d : Addr} {fd fd0 fd1 : FuncData} (F : Fun K "is_step" "is_step" s_is_step f fd) (F_is_integer : Fun K "is_integer" "is_integer" s_is_integer f0 fd0) (b_is_integer : Binds K fd0 ["value"] []) (g_is_integer : mg "is_integer" = some (.ref f0))
    (F_are_integers : Fun K "are_integers" "are_integers" s_are_integers f1 fd1) (b_are_integers : Binds K fd1 ["values"] []) (g_are_integers : mg "are_integers" = some (.ref f1)) (g_COUNTS : mg "COUNTS" = some (.ref d)) (C : Counts K w d)
    (m_isinstance : mg "isinstance" = none) (m_int : mg "int" = none) (m_bool : mg "bool" = none) (m_len : mg "len" = none) (m_tuple : mg "tuple" = none) (m_str : mg "str" = none) : FnOk P w K mg base CX0 3 f fd ["step", "place"] spIsStep := by
  have G_are_integers : FnOk P w K mg base CX0 2 f1 fd1 _ (spInts K) := ok_ints F_are_integers F_is_integer b_is_integer g_is_integer m_isinstance m_int m_bool
  obtain ⟨es, nn, D_COUNTS⟩ := C.dict
  refine F.ok sc_is_step (fun vs H Q E h => ?_) (fun cdv A outer s H vs Q E hr h => ?_)
  · obtain ⟨v, st, k, rfl, _⟩ := h
    rfl
  · obtain ⟨v, st, k, rfl, hst, hok, q⟩ := h
    obtain ⟨p, rfl, hp⟩ := hst
    obtain ⟨t, hc⟩ := C.of hok
    refine ⟨_, (pss_cons (ps_if (PW.pt (pw_or (pt_not (pt_val (pe_callB call_isi (by rfl) m_isinstance (by decide +kernel) (pa_cons (pv 0) (pa_cons (pe_bltn (by rfl) m_tuple (by decide +kernel) (show RelV (.ty "tuple") _ from rfl)) pa_nil))))) (pw_or (pt_cmpR op_eq (pe_callB call_len (by rfl) m_len (by decide +kernel) (pa_cons (pv 0) pa_nil)) pe_int (nomark _)) (pw_or1 (pt_not (pt_val (pe_callB call_isi (by rfl) m_isinstance (by decide +kernel) (pa_cons (pe_ix ix_tup (pv 0) pe_int (fun _ _ => rfl)) (pa_cons (pe_bltn (by rfl) m_str (by decide +kernel) (show RelV (.ty "str") _ from rfl)) pa_nil))))))))) (pss_one (ps_ret pe_bl)) pss_nil)
        (pss_cons (ps_set (i := 2) sc_is_step.nd rfl (.inl rfl) (pe_ix ix_tup (pv 0) pe_int (fun _ _ => rfl)))
        (pss_cons (ps_if (PW.pt (pw_or (pt_cmpR (op_notIn_kd D_COUNTS) (pv 2) (pe_glob (by rfl) g_COUNTS (show RelV (.ref _) _ from rfl)) (by rfl)) (pw_or (pt_cmpR op_ne (pe_callB call_len (by rfl) m_len (by decide +kernel) (pa_cons (pv 0) pa_nil)) (pe_op op_add (pe_ix ix_kdict (pe_glob (by rfl) g_COUNTS (show RelV (.ref _) _ from rfl)) (pv 2) (fun _ _ => rfl)) pe_int) (nomark _)) (pw_or1 (pt_not (pt_val (pe_call G_are_integers (hr.mono (by decide)) (by rfl) g_are_integers F_are_integers.kp b_are_integers .nil pass0 (pa_cons (pe_slice sl_tup (pv 0) (po_some pe_int) po_none) pa_nil)))))))) (pss_one (ps_ret pe_bl)) pss_nil)
        (pss_cons (ps_if (pt_cmpR op_eq (pv 2) pe_str (nomark _)) (pss_one (ps_ret (pe_cmpR op_ge (pe_ix ix_tup (pv 0) pe_int (fun _ _ => rfl)) pe_int (nomark _)))) pss_nil)
        (pss_cons (ps_for PassesOwn.never rfl (pi_tup (pe_slice sl_tup (pv 0) (po_some pe_int) po_none)) (pg_name (i := 3) sc_is_step.nd rfl (.inl rfl)) (pss_one (ps_if (PW.pt (pw_or (pt_cmpR op_lt (pv 3) pe_int (nomark _)) (pw_or1 (pt_cmpR op_ge (pv 3) (pv 1) (nomark _))))) (pss_one (ps_ret pe_bl)) pss_nil)))
        (pss_one (ps_ret pe_bl))))))), ?_⟩
    have t_step : SqT K H p (stV st) := st_of hp
    -- the kinds
    refine q_when (b := false) (et_is (et_or (a := false) (et_is (et_not (et_B (ev_cb (ea_cons (ev_var rfl) (ea_cons ev_c ea_nil)) (rc_isiT (K := K) hp)))) rfl)
      fun _ => (et_or (a := false) (et_is (et_test (ev_op (ev_cb (ea_cons (ev_var rfl) ea_nil) (rc_lenT (K := K) t_step)) ev_c (rv_eq rfl))) (decide_eq_false fun z => by
          have := V.int.inj z
          rw [show (stV st).length = st.2.length + 1 by simp [stV]] at this
          omega))
      fun _ => (et_is (et_not (et_B (ev_cb (ea_cons (ev_op (ev_var rfl) ev_c (rv_ixT t_step (at0 st))) (ea_cons ev_c ea_nil)) (rc_isiS (K := K))))) (b := false) rfl))) rfl) (fun hb => nomatch hb) fun _ H1 e1 => ?_
    replace hp := ex_app e1 hp
    replace t_step : SqT K H1 p (stV st) := st_of hp
    -- word
    refine q_asg (ev_op (ev_var rfl) ev_c (rv_ixT t_step (at0 st))) fun H2 e2 => ?_
    refine st_is (σ' := [_, _, _, _]) rfl ?_
    replace hp := ex_app e2 hp
    replace t_step : SqT K H2 p (stV st) := st_of hp
    have kd : KDct K w d st.1 (.int (st.2.length : Nat)) := ⟨es, nn, _, D_COUNTS.at_, D_COUNTS.lit, hc, ⟨_, rfl⟩⟩
    refine q_when (b := false) (et_is (et_or (a := false) (et_is (et_test (ev_op (ev_var rfl) ev_c (show RV _ _ _ _ (.bl false) from fun H3 _ Q3 q3 => ⟨st.1, _, rfl, rfl, hc, q3 H3 (Ex.refl H3)⟩))) rfl)
      fun _ => (et_or (a := false) (et_is (et_test (ev_op (ev_cb (ea_cons (ev_var rfl) ea_nil) (rc_lenT (K := K) t_step)) (ev_op (ev_op ev_c (ev_var rfl) (show RV (rIxD K w) _ _ _ (.int (st.2.length : Nat)) from fun H3 _ Q3 q3 => ⟨d, st.1, _, rfl, rfl, kd, q3 H3 (Ex.refl H3)⟩)) ev_c rv_I0) (rv_ne rfl))) (by
          rw [show (stV st).length = st.2.length + 1 by simp [stV]]
          exact congrArg (fun b => !b) (decide_eq_true (congrArg V.int (by omega)))))
      fun _ => (et_is (et_not (et_B (ev_callU (z := .bl true) (eu_tail (ev_var rfl) t_step) ea_nil (fun p1 H3 e3 h3 H4 e4 Q4 q4 E4 => ⟨p1, st.2, rfl, st_of (ex_app e4 h3), q4⟩)))) (b := false) rfl))) rfl) (fun hb => nomatch hb) fun _ H3 e3 => ?_
    replace hp := ex_app e3 hp
    replace t_step : SqT K H3 p (stV st) := st_of hp
    have eall := (e1.trans e2).trans e3
    have qq : ∀ H', Ex H3 H' → Q (.bl true) H' := fun H' e' => q H' (eall.trans e')
    -- number, or the indexes
    by_cases hnum : st.1 = "number"
    · refine q_when (b := true) (et_is (et_test (ev_op (ev_var rfl) ev_c (rv_eq rfl))) (decide_eq_true (congrArg V.str hnum))) (fun _ H4 e4 => ?_) (fun hb => nomatch hb)
      have h2 : ∃ p0 q0, st.2 = [p0, q0] ∧ 1 ≤ q0 := by
        rcases hok with ⟨p0, q0, rfl, h⟩ | rfl | ⟨x, i, j, hx, rfl, _⟩ | ⟨x, i, hx, rfl, _⟩
        · exact ⟨p0, q0, rfl, h⟩
        · exact absurd hnum pi_nn
        · exact absurd hnum (w2_nn x hx)
        · exact absurd hnum (w1_nn x hx)
      obtain ⟨p0, q0, h2, h3⟩ := h2
      have t4 : SqT K H4 p [.str st.1, .int p0, .int q0] := by
        have := ex_t e4 t_step
        unfold stV at this
        rw [h2] at this
        exact this
      exact s_ret (ev_is (ev_op (ev_op (ev_var rfl) ev_c (rv_ixT t4 rfl)) ev_c rv_I0) (w := .bl true) (congrArg V.bl (decide_eq_true h3))) fun H5 e5 => qq H5 (e4.trans e5)
    · refine q_when (b := false) (et_is (et_test (ev_op (ev_var rfl) ev_c (rv_eq rfl))) (decide_eq_false fun z => hnum (V.str.inj z))) (fun hb => nomatch hb) (fun _ H4 e4 => ?_)
      have hin : ∀ i ∈ st.2, 0 ≤ i ∧ i < (k : Int) := by
        rcases hok with ⟨p0, q0, rfl, h⟩ | rfl | ⟨x, i, j, hx, rfl, h1, h2⟩ | ⟨x, i, hx, rfl, h1⟩
        · exact absurd rfl hnum
        · intro i hi
          simp at hi
        · intro y hy
          simp only [List.mem_cons, List.not_mem_nil, or_false] at hy
          rcases hy with rfl | rfl
          · exact h1
          · exact h2
        · intro y hy
          simp only [List.mem_cons, List.not_mem_nil, or_false] at hy
          subst hy
          exact h1
      refine q_forNT (eu_tail (ev_var rfl) (ex_t e4 t_step)) (fun p1 i σ' H' => ∃ x, σ' = [some (.ref p), some (.int (k : Int)), some (.str st.1), x] ∧ Ex H4 H' ∧ H' p1 = some (.tup (st.2.map V.int))) (fun p1 H5 _ e5 h5 => ⟨_, rfl, e5, h5⟩) (fun p1 i σ' H' _ pp => ?_) (fun p1 i x σ' H' hx pp => ?_) (fun p1 σ' H' pp => ?_)
      · obtain ⟨x, _, _, h5⟩ := pp
        exact st_of h5
      · obtain ⟨x1, rfl, e5, h5⟩ := pp
        obtain ⟨n, hn, rfl⟩ : ∃ n, st.2[i]? = some n ∧ x = V.int n := by
          rw [List.getElem?_map] at hx
          obtain ⟨n, h1, h2⟩ := Option.map_eq_some_iff.mp hx
          exact ⟨n, h1, h2.symm⟩
        obtain ⟨g1, g2⟩ := hin n (List.mem_of_getElem? hn)
        show tIfS _ _ tNext _ [some (.ref p), some (.int (k : Int)), some (.str st.1), some (.int n)] H'
        exact s_when (b := false) (et_is (et_or (a := false) (et_is (et_test (ev_op (ev_var rfl) ev_c rv_I0)) (decide_eq_false (by omega))) fun _ => (et_is (et_test (ev_op (ev_var rfl) (ev_var rfl) rv_I0)) (b := false) (decide_eq_false (by omega)))) rfl) (fun hb => nomatch hb) fun _ H6 e6 => ⟨_, rfl, e5.trans e6, ex_app e6 h5⟩
      · obtain ⟨x1, rfl, e5, h5⟩ := pp
        exact s_ret ev_c fun H6 e6 => qq H6 ((e4.trans e5).trans e6)
def spIsForm : Sp := fun vs H Q _ => ∃ (a : Addr) (us : List V) (ss : List FStep), vs = [.ref a] ∧ H a = some (.tup us) ∧ StepsAt H us ss ∧ OkForm ss ∧ ss ≠ [] ∧ RetV (.bl true) H Q
theorem ok_isform {f f2 : Addr} {fd fd2 : FuncData} (F : Fun K "is_formula" "is_formula" s_is_formula f fd) (F_is_step : Fun K "is_step" "is_step" s_is_step f2 fd2) (G_is_step : FnOk P w K mg base CX0 3 f2 fd2 ["step", "place"] spIsStep) (b_is_step : Binds K fd2 ["step", "place"] []) (g_is_step : mg "is_step" = some (.ref f2))
    (m_isinstance : mg "isinstance" = none) (m_len : mg "len" = none) (m_tuple : mg "tuple" = none) (m_enumerate : mg "enumerate" = none) : FnOk P w K mg base CX0 4 f fd ["value"] spIsForm := by
  refine F.ok sc_is_formula (fun vs H Q E h => ?_) (fun cdv A outer s H vs Q E hr h => ?_)
  · obtain ⟨a, us, ss, rfl, _⟩ := h
    rfl
  · obtain ⟨a, us, ss, rfl, ha, hs, hok, hne, q⟩ := h
    refine ⟨_, (pss_cons (ps_if (PW.pt (pw_or (pt_not (pt_val (pe_callB call_isi (by rfl) m_isinstance (by decide +kernel) (pa_cons (pv 0) (pa_cons (pe_bltn (by rfl) m_tuple (by decide +kernel) (show RelV (.ty "tuple") _ from rfl)) pa_nil))))) (pw_or1 (pt_cmpR op_eq (pe_callB call_len (by rfl) m_len (by decide +kernel) (pa_cons (pv 0) pa_nil)) pe_int (nomark _))))) (pss_one (ps_ret pe_bl)) pss_nil)
        (pss_cons (ps_for PassesOwn.never rfl (pi_enumT (by rfl) m_enumerate (pa_cons (pv 0) pa_nil)) (pg_tup rfl (pgs_cons (pg_name (i := 1) sc_is_formula.nd rfl (.inl rfl)) (pgs_cons (pg_name (i := 2) sc_is_formula.nd rfl (.inl rfl)) pgs_nil))) (pss_one (ps_if (pt_not (pt_val (pe_call G_is_step (hr.mono (by decide)) (by rfl) g_is_step F_is_step.kp b_is_step .nil pass0 (pa_cons (pv 2) (pa_cons (pv 1) pa_nil))))) (pss_one (ps_ret pe_bl)) pss_nil)))
        (pss_one (ps_ret pe_bl)))), ?_⟩
    have hl : 0 < us.length := by
      rw [hs.1]
      exact List.length_pos_iff.mpr hne
    refine q_when (b := false) (et_is (et_or (a := false) (et_is (et_not (et_B (ev_cb (ea_cons (ev_var rfl) (ea_cons ev_c ea_nil)) (rc_isiT (K := K) ha)))) rfl)
      fun _ => (et_is (et_test (ev_op (ev_cb (ea_cons (ev_var rfl) ea_nil) (rc_lenT (K := K) (st_of ha))) ev_c (rv_eq rfl))) (b := false) (decide_eq_false fun z => by
          have := V.int.inj z
          omega))) rfl) (fun hb => nomatch hb) fun _ H1 e1 => ?_
    replace ha := ex_app e1 ha
    replace hs := hs.mono e1
    refine q_forET (ea_cons (ev_var rfl) ea_nil) (st_of ha) (fun i σ' H' => ∃ x y, σ' = [some (.ref a), x, y] ∧ Ex H1 H') (fun H2 e2 => ⟨_, _, rfl, e2⟩) (fun i σ' H' _ pp => ?_) (fun i x σ' H' T hx pp hT => ?_) (fun σ' H' pp => ?_)
    · obtain ⟨x, y, _, e2⟩ := pp
      exact st_of (ex_app e2 ha)
    · obtain ⟨x1, y1, rfl, e2⟩ := pp
      obtain ⟨st, hst, sat⟩ := hs.get hx
      have e3 : Ex H1 (upd H' T (.tup [.int (i : Nat), x])) := e2.trans (Ex.new hT)
      refine ⟨T, [.int (i : Nat), x], rfl, .inl (.inl upd_same), rfl, _, _, rfl, _, _, rfl, rfl, ?_⟩
      show tIfS _ _ tNext _ [some (.ref a), some (.int (i : Nat)), some x] _
      exact s_when (b := false) (et_is (et_not (et_B (ev_call (z := .bl true) (ea_cons (ev_var rfl) (ea_cons (ev_var rfl) ea_nil)) (fun H5 e5 Q5 q5 E5 => ⟨x, st, i, rfl, sat.mono (e3.trans e5), hok i st hst, q5⟩)))) rfl) (fun hb => nomatch hb) fun _ H6 e6 => ⟨_, _, rfl, e3.trans e6⟩
    · obtain ⟨x1, y1, rfl, e2⟩ := pp
      exact s_ret ev_c fun H6 e6 => q H6 ((e1.trans e2).trans e6)
/-! ### the program: steps moved -/
theorem steps_updN {H : Hp} {l : Addr} {o : HO} {us : List V} {ss : List FStep} (hl : ∀ xs, H l ≠ some (.tup xs)) (h : StepsAt H us ss) : StepsAt (upd H l o) us ss := ⟨h.1, fun i v s a b => by
  obtain ⟨p, r1, r2⟩ := h.2 i v s a b
  exact ⟨p, r1, by rw [upd_ne (fun z => hl _ (z ▸ r2))]; exact r2⟩⟩
theorem step_updN {H : Hp} {l : Addr} {o : HO} {v : V} {s : FStep} (hl : ∀ xs, H l ≠ some (.tup xs)) (h : StepAt H v s) : StepAt (upd H l o) v s := by
  obtain ⟨p, r1, r2⟩ := h
  exact ⟨p, r1, by rw [upd_ne (fun z => hl _ (z ▸ r2))]; exact r2⟩
def nats (ps : List Nat) : List V := ps.map fun p : Nat => V.int ((p : Nat) : Int)
theorem nats_at {ps : List Nat} {i : Int} (h0 : 0 ≤ i) (h1 : i < (ps.length : Int)) : atI (nats ps) i = some (.int (ps.getD i.toNat 0 : Nat)) := by
  obtain ⟨j, rfl⟩ := Int.eq_ofNat_of_zero_le h0
  refine atI_nat ?_
  have hj : j < ps.length := by omega
  unfold nats
  rw [List.getElem?_map, List.getElem?_eq_getElem hj, Int.toNat_natCast, List.getD_eq_getElem?_getD, List.getElem?_eq_getElem hj]
  rfl
def spMv (K : PySem.W.Frag) : Sp := fun vs H Q _ => ∃ (v : V) (st : FStep) (pl : Addr) (ps : List Nat) (n : Nat), vs = [v, .ref pl] ∧ StepAt H v st ∧ OkStep n st ∧ SqL K H pl (nats ps) ∧ n ≤ ps.length ∧ RetS (ren (fun i => ps.getD i 0) st) H Q
theorem ok_moved {f : Addr} {fd : FuncData} (F : Fun K "moved" "moved" s_moved f fd) (m_len : mg "len" = none) : FnOk P w K mg base CX0 1 f fd ["step", "places"] (spMv K) := by
  refine F.ok sc_moved (fun vs H Q E h => ?_) (fun cdv A outer s H vs Q E hr h => ?_)
  · obtain ⟨v, st, pl, m, n, rfl, _⟩ := h
    rfl
  · obtain ⟨v, st, pl, ps, n, rfl, hst, hok, hpl, hn, q⟩ := h
    obtain ⟨p, rfl, hp⟩ := hst
    refine ⟨_, (pss_cons (ps_if (PW.pt (pw_or (pt_cmpR op_eq (pe_ix ix_tup (pv 0) pe_int (fun _ _ => rfl)) pe_str (nomark _)) (pw_or1 (pt_cmpR op_eq (pe_callB call_len (by rfl) m_len (by decide +kernel) (pa_cons (pv 0) pa_nil)) pe_int (nomark _))))) (pss_one (ps_ret (pv 0))) pss_nil)
        (pss_cons (ps_if (pt_cmpR op_eq (pe_callB call_len (by rfl) m_len (by decide +kernel) (pa_cons (pv 0) pa_nil)) pe_int (nomark _)) (pss_one (ps_ret (pe_tup (pa_cons (pe_ix ix_tup (pv 0) pe_int (fun _ _ => rfl)) (pa_cons (pe_ix ix_list (pv 1) (pe_ix ix_tup (pv 0) pe_int (fun _ _ => rfl)) (fun _ _ => rfl)) pa_nil))))) pss_nil)
        (pss_one (ps_ret (pe_tup (pa_cons (pe_ix ix_tup (pv 0) pe_int (fun _ _ => rfl)) (pa_cons (pe_ix ix_list (pv 1) (pe_ix ix_tup (pv 0) pe_int (fun _ _ => rfl)) (fun _ _ => rfl)) (pa_cons (pe_ix ix_list (pv 1) (pe_ix ix_tup (pv 0) pe_int (fun _ _ => rfl)) (fun _ _ => rfl)) pa_nil)))))))), ?_⟩
    have t_step : SqT K H p (stV st) := st_of hp
    have lenT : ∀ {Hh : Hp} {xs : List V}, SqT K Hh p xs → RC (fun xs H Q => ∃ x n, xs = [x] ∧ LenV K x H n ∧ Q (.int n) H) [.ref p] Hh (.int (xs.length : Int)) := fun h H1 e _ q => ⟨.ref p, (_ : Nat), rfl, .inr ⟨_, ex_t e h, rfl⟩, q H1 (Ex.refl H1)⟩
    rcases hok with ⟨p0, q0, rfl, h⟩ | rfl | ⟨x, i, j, hx, rfl, h1, h2⟩ | ⟨x, i, hx, rfl, h1⟩
    · refine q_when (b := true) (et_is (et_or (a := true) (b := true) (et_is (et_test (ev_op (ev_op (ev_var rfl) ev_c (rv_ixT t_step rfl)) ev_c (rv_eq rfl))) (decide_eq_true rfl)) (fun z => nomatch z)) rfl) (fun _ H4 e4 => ?_) (fun hb => nomatch hb)
      exact s_ret (ev_var rfl) fun H5 e5 => q _ _ (e4.trans e5) ⟨p, rfl, (e4.trans e5) _ _ hp⟩
    · refine q_when (b := true) (et_is (et_or (a := false) (b := true) (et_is (et_test (ev_op (ev_op (ev_var rfl) ev_c (rv_ixT t_step rfl)) ev_c (rv_eq rfl))) (by decide +kernel)) (fun _ => (et_is (et_test (ev_op (ev_cb (ea_cons (ev_var rfl) ea_nil) (lenT t_step)) ev_c (rv_eq rfl))) rfl))) rfl) (fun _ H4 e4 => ?_) (fun hb => nomatch hb)
      exact s_ret (ev_var rfl) fun H5 e5 => q _ _ (e4.trans e5) ⟨p, rfl, (e4.trans e5) _ _ hp⟩
    · have hnum : x ≠ "number" := fun z => absurd hx (by rw [z]; decide +kernel)
      refine q_when (b := false) (et_is (et_or (a := false) (b := false) (et_is (et_test (ev_op (ev_op (ev_var rfl) ev_c (rv_ixT t_step rfl)) ev_c (rv_eq rfl))) (decide_eq_false fun z => hnum (V.str.inj z))) (fun _ => (et_is (et_test (ev_op (ev_cb (ea_cons (ev_var rfl) ea_nil) (lenT t_step)) ev_c (rv_eq rfl))) rfl))) rfl) (fun hb => nomatch hb) (fun _ H4 e4 => ?_)
      replace t_step := ex_t e4 t_step
      refine q_when (b := false) (et_is (et_test (ev_op (ev_cb (ea_cons (ev_var rfl) ea_nil) (lenT t_step)) ev_c (rv_eq rfl))) rfl) (fun hb => nomatch hb) (fun _ H5 e5 => ?_)
      replace t_step := ex_t e5 t_step
      replace hpl := ex_l (e4.trans e5) hpl
      refine s_retU (eu_tup (ea_cons (ev_op (ev_var rfl) ev_c (rv_ixT t_step rfl)) (ea_cons (ev_op (ev_var rfl) (ev_op (ev_var rfl) ev_c (rv_ixT t_step rfl)) (rv_ixL hpl (nats_at h1.1 (by omega)))) (ea_cons (ev_op (ev_var rfl) (ev_op (ev_var rfl) ev_c (rv_ixT t_step rfl)) (rv_ixL hpl (nats_at h2.1 (by omega)))) ea_nil))) (show 3 ≤ 100000 by decide)) fun a H6 na e6 ha => q _ _ ((e4.trans e5).trans e6) ⟨a, rfl, ?_⟩
      rw [ha]
      unfold ren stV
      rw [if_neg hnum]
      rfl
    · have hnum : x ≠ "number" := fun z => absurd hx (by rw [z]; decide +kernel)
      refine q_when (b := false) (et_is (et_or (a := false) (b := false) (et_is (et_test (ev_op (ev_op (ev_var rfl) ev_c (rv_ixT t_step rfl)) ev_c (rv_eq rfl))) (decide_eq_false fun z => hnum (V.str.inj z))) (fun _ => (et_is (et_test (ev_op (ev_cb (ea_cons (ev_var rfl) ea_nil) (lenT t_step)) ev_c (rv_eq rfl))) rfl))) rfl) (fun hb => nomatch hb) (fun _ H4 e4 => ?_)
      replace t_step := ex_t e4 t_step
      refine q_when (b := true) (et_is (et_test (ev_op (ev_cb (ea_cons (ev_var rfl) ea_nil) (lenT t_step)) ev_c (rv_eq rfl))) rfl) (fun _ H5 e5 => ?_) (fun hb => nomatch hb)
      replace t_step := ex_t e5 t_step
      replace hpl := ex_l (e4.trans e5) hpl
      refine s_retU (eu_tup (ea_cons (ev_op (ev_var rfl) ev_c (rv_ixT t_step rfl)) (ea_cons (ev_op (ev_var rfl) (ev_op (ev_var rfl) ev_c (rv_ixT t_step rfl)) (rv_ixL hpl (nats_at h1.1 (by omega)))) ea_nil)) (show 2 ≤ 100000 by decide)) fun a H6 na e6 ha => q _ _ ((e4.trans e5).trans e6) ⟨a, rfl, ?_⟩
      rw [ha]
      unfold ren stV
      rw [if_neg hnum]
      rfl
theorem ix_ints {n : Nat} {st : FStep} (h : OkStep n st) (hn : st.1 ≠ "number") : st.2.map V.int = nats (ix st) := by
  unfold nats ix
  rw [if_neg hn, List.map_map]
  refine List.map_congr_left fun i hi => ?_
  have := ok_pos h hn i hi
  exact congrArg V.int (show i = ((i.toNat : Nat) : Int) by omega)
def spIdx : Sp := fun vs H Q _ => ∃ (v : V) (st : FStep) (n : Nat), vs = [v] ∧ StepAt H v st ∧ OkStep n st ∧ RetU (nats (ix st)) H Q
theorem ok_idx {f : Addr} {fd : FuncData} (F : Fun K "indexes_of" "indexes_of" s_indexes_of f fd) : FnOk P w K mg base CX0 1 f fd ["step"] spIdx := by
  refine F.ok sc_indexes_of (fun vs H Q E h => ?_) (fun cdv A outer s H vs Q E hr h => ?_)
  · obtain ⟨v, st, n, rfl, _⟩ := h
    rfl
  · obtain ⟨v, st, n, rfl, hst, hok, q⟩ := h
    obtain ⟨p, rfl, hp⟩ := hst
    refine ⟨_, (pss_cons (ps_if (pt_cmpR op_eq (pe_ix ix_tup (pv 0) pe_int (fun _ _ => rfl)) pe_str (nomark _)) (pss_one (ps_ret (pe_tup pa_nil))) pss_nil)
        (pss_one (ps_ret (pe_slice sl_tup (pv 0) (po_some pe_int) po_none)))), ?_⟩
    have t_step : SqT K H p (stV st) := st_of hp
    refine q_when (b := decide (st.1 = "number")) (et_is (et_test (ev_op (ev_op (ev_var rfl) ev_c (rv_ixT t_step (at0 st))) ev_c (rv_eq rfl))) (by
      by_cases e : st.1 = "number"
      · rw [decide_eq_true e, decide_eq_true (congrArg V.str e)]
      · rw [decide_eq_false e, decide_eq_false fun z => e (V.str.inj z)])) (fun hb H4 e4 => ?_) (fun hb H4 e4 => ?_)
    · have hn := of_decide_eq_true hb
      have e0 : ix st = [] := by
        unfold ix
        rw [if_pos hn]
      rw [e0] at q
      exact s_retU (eu_tup ea_nil (show 0 ≤ 100000 by decide)) fun a H6 na e6 ha => q a H6 (fresh_back e4 na) (e4.trans e6) ha
    · have hn := of_decide_eq_false hb
      rw [← ix_ints hok hn] at q
      exact s_retU (eu_tail (ev_var rfl) (ex_t e4 t_step)) fun a H6 na e6 ha => q a H6 (fresh_back e4 na) (e4.trans e6) ha
/-! ### the program: each step once -/
def keyS (s : FStep) : List L2.Key := .inr s.1 :: s.2.map .inl
theorem keyS_v (s : FStep) : (keyS s).map kV = stV s := by
  unfold keyS stV
  rw [List.map_cons, List.map_map]
  rfl
theorem keyS_inj {s t : FStep} (h : keyS s = keyS t) : s = t := by
  unfold keyS at h
  have h1 := Sum.inr.inj (List.cons.inj h).1
  have h2 : s.2 = t.2 := by
    have := (List.cons.inj h).2
    have e : ∀ {l m : List Int}, l.map (Sum.inl : Int → L2.Key) = m.map Sum.inl → l = m := by
      intro l
      induction l with
      | nil =>
        intro m h
        cases m with
        | nil => rfl
        | cons b m => simp at h
      | cons a l ih =>
        intro m h
        cases m with
        | nil => simp at h
        | cons b m =>
          rw [List.map_cons, List.map_cons] at h
          rw [Sum.inl.inj (List.cons.inj h).1, ih (List.cons.inj h).2]
    exact e this
  exact Prod.ext h1 h2
theorem et_dnotin {σ : L2.St} {H : Hp} {tx td : TE} {y : V} {a : Addr} {o : Option V} (hx : Ev tx σ H y) (hd : Ev td σ H (.ref a)) (g : ∀ H1, Ex H H1 → DGet H1 a y o) : EvT (tB (tDNotIn tx td)) σ H (!o.isSome) := fun H1 e Q q =>
  hx H1 e _ fun H2 e2 => hd H2 (e.trans e2) _ fun H3 e3 => ⟨a, o, rfl, g H3 ((e.trans e2).trans e3), _, rfl, q H3 (e2.trans e3)⟩
theorem ev_dget {σ : L2.St} {H : Hp} {tx td : TE} {y v : V} {a : Addr} (hd : Ev td σ H (.ref a)) (hx : Ev tx σ H y) (g : ∀ H1, Ex H H1 → DGet H1 a y (some v)) : Ev (tDGet td tx) σ H v := fun H1 e Q q =>
  hd H1 e _ fun H2 e2 => hx H2 (e.trans e2) _ fun H3 e3 => ⟨a, v, rfl, g H3 ((e.trans e2).trans e3), q H3 (e2.trans e3)⟩
theorem q_setD {σ : L2.St} {H : Hp} {te td tx : TE} {v : V} {a b : Addr} {kvs : List (List L2.Key × V)} {k : List L2.Key} {D : Ends} {tz : TS} (hd : H a = some (.dT kvs)) (hb : H b = some (.tup (k.map kV))) (hl : kvs.length < sizeLine) (h : Ev te σ H v) (h1 : Ev td σ H (.ref a)) (h2 : Ev tx σ H (.ref b))
    (q : ∀ H1, Ex H H1 → tz D σ (upd H1 a (.dT (putK kvs k v)))) : tSeq (tAsg te (gSub td tx rSetD)) tz D σ H := h H (Ex.refl H) _ fun H1 e1 => h1 H1 e1 _ fun H2 e2 => h2 H2 (e1.trans e2) _ fun H3 e3 =>
  ⟨a, _, rfl, DPut.t (((e1.trans e2).trans e3) _ _ hd) (((e1.trans e2).trans e3) _ _ hb) hl, q H3 ((e1.trans e2).trans e3)⟩
/-- the list, the dict and the places, behind some steps -/
structure MgAt (H H' : Hp) (kp dp pl : Addr) (A : List FStep) (B : List Nat) : Prop where
  ex : ∀ p o, p ≠ kp → p ≠ dp → p ≠ pl → H p = some o → H' p = some o
  kept : ∃ us, H' kp = some (.lst us) ∧ StepsAt H' us A
  dict : ∃ kvs, H' dp = some (.dT kvs) ∧ kvs.length = A.length ∧ ∀ s, valV kvs (keyS s) = if s ∈ A then some (.int (A.idxOf s : Nat)) else none
  places : H' pl = some (.lst (nats B))
theorem MgAt.mono {H H1 H2 : Hp} {kp dp pl : Addr} {A : List FStep} {B : List Nat} (M : MgAt H H1 kp dp pl A B) (e : Ex H1 H2) : MgAt H H2 kp dp pl A B := by
  obtain ⟨us, h1, h2⟩ := M.kept
  obtain ⟨kvs, h3, h4, h5⟩ := M.dict
  exact ⟨fun p o a b c h => e _ _ (M.ex p o a b c h), ⟨us, e _ _ h1, h2.mono e⟩, ⟨kvs, e _ _ h3, h4, h5⟩, e _ _ M.places⟩
theorem len_put {kvs : List (List L2.Key × V)} {k : List L2.Key} {v : V} (h : valV kvs k = none) : (putK kvs k v).length = kvs.length + 1 := by
  unfold putK
  rw [valV_any, h]
  show (if false = true then _ else kvs ++ [(k, v)]).length = _
  rw [if_neg (by decide), List.length_append]
  rfl
theorem idx_snoc {A : List FStep} {s t : FStep} (h : s ∉ A) : (if t ∈ A ++ [s] then some (V.int ((A ++ [s]).idxOf t : Nat)) else none) = if keyS t = keyS s then some (V.int (A.length : Nat)) else if t ∈ A then some (V.int (A.idxOf t : Nat)) else none := by
  by_cases e : t = s
  · subst e
    rw [if_pos rfl, if_pos (by simp), List.idxOf_append, if_neg h]
    simp
  · rw [if_neg (fun z => e (keyS_inj z))]
    by_cases hm : t ∈ A
    · rw [if_pos hm, if_pos (List.mem_append_left _ hm), List.idxOf_append, if_pos hm]
    · rw [if_neg hm, if_neg (by
        intro z
        rcases List.mem_append.mp z with z | z
        · exact hm z
        · exact e (List.mem_singleton.mp z))]
/-- a new step is put into the dict and the list -/
theorem MgAt.put {H H1 H2 H3 : Hp} {kp dp pl b : Addr} {A : List FStep} {B : List Nat} {s : FStep} {us : List V} {kvs : List (List L2.Key × V)} (M : MgAt H H1 kp dp pl A B) (hk : H1 kp = some (.lst us)) (hd : H1 dp = some (.dT kvs)) (hb : H1 b = some (.tup (stV s))) (hs : s ∉ A)
    (e2 : Ex H1 H2) (e3 : Ex (upd H2 dp (.dT (putK kvs (keyS s) (.int (A.length : Nat))))) H3) (h1 : pl ≠ kp) (h2 : pl ≠ dp) : MgAt H (upd H3 kp (.lst (us ++ [.ref b]))) kp dp pl (A ++ [s]) B := by
  obtain ⟨us', k1, k2⟩ := M.kept
  cases k1.symm.trans hk
  obtain ⟨kvs', d1, d2, d3⟩ := M.dict
  cases d1.symm.trans hd
  have nkd : kp ≠ dp := fun z => by rw [z, hd] at hk; cases hk
  have nD : ∀ xs, H2 dp ≠ some (.tup xs) := fun xs z => by
    rw [e2 _ _ hd] at z
    cases z
  have kp3 : H3 kp = some (.lst us) := e3 _ _ (by rw [upd_ne nkd]; exact e2 _ _ hk)
  have nK : ∀ xs, H3 kp ≠ some (.tup xs) := fun xs z => by
    rw [kp3] at z
    cases z
  have vn : valV kvs (keyS s) = none := by rw [d3 s, if_neg hs]
  refine ⟨fun p o a c d h => ?_, ⟨_, upd_same, ?_⟩, ⟨putK kvs (keyS s) (.int (A.length : Nat)), ?_, ?_, fun t => ?_⟩, ?_⟩
  · rw [upd_ne a]
    refine e3 _ _ ?_
    rw [upd_ne c]
    exact e2 _ _ (M.ex p o a c d h)
  · refine StepsAt.snoc (steps_updN nK ((steps_updN nD (k2.mono e2)).mono e3)) (step_updN nK ((step_updN nD ?_).mono e3))
    exact ⟨b, rfl, e2 _ _ hb⟩
  · rw [upd_ne (fun z => nkd z.symm)]
    exact e3 _ _ upd_same
  · rw [len_put vn, d2, List.length_append]
    rfl
  · rw [valV_put, d3 t, idx_snoc hs]
  · rw [upd_ne h1]
    refine e3 _ _ ?_
    rw [upd_ne h2]
    exact e2 _ _ M.places
theorem MgAt.place {H H1 H2 : Hp} {kp dp pl : Addr} {A : List FStep} {B : List Nat} {n : Nat} (M : MgAt H H1 kp dp pl A B) (e : Ex H1 H2) : MgAt H (upd H2 pl (.lst (nats B ++ [.int (n : Nat)]))) kp dp pl A (B ++ [n]) ∨ pl = kp ∨ pl = dp := by
  by_cases h1 : pl = kp
  · exact .inr (.inl h1)
  · by_cases h2 : pl = dp
    · exact .inr (.inr h2)
    · left
      have M2 := M.mono e
      have nP : ∀ xs, H2 pl ≠ some (.tup xs) := fun xs z => by
        rw [M2.places] at z
        cases z
      obtain ⟨us, k1, k2⟩ := M2.kept
      obtain ⟨kvs, d1, d2, d3⟩ := M2.dict
      refine ⟨fun p o a b c h => ?_, ⟨us, ?_, steps_updN nP k2⟩, ⟨kvs, ?_, d2, d3⟩, ?_⟩
      · rw [upd_ne c]
        exact M2.ex p o a b c h
      · rw [upd_ne (fun z => h1 z.symm)]
        exact k1
      · rw [upd_ne (fun z => h2 z.symm)]
        exact d1
      · rw [upd_same]
        unfold nats
        rw [List.map_append]
        rfl
def spMergeInto : Sp := fun vs H Q _ => ∃ (kp dp fa : Addr) (fs : List V) (ff : List FStep), vs = [.ref kp, .ref dp, .ref fa] ∧ H kp = some (.lst []) ∧ H dp = some (.dT []) ∧ H fa = some (.tup fs) ∧ StepsAt H fs ff ∧ OkForm ff ∧ ff.length ≤ 1000 ∧
  ∀ pl H2, H pl = none → MgAt H H2 kp dp pl (merge ff).1 (merge ff).2 → Q (.ref pl) H2
theorem mstep_of (A : List FStep) (B : List Nat) (s : FStep) : mstep (A, B) s = if ren (fun i => B.getD i 0) s ∈ A then (A, B ++ [A.idxOf (ren (fun i => B.getD i 0) s)]) else (A ++ [ren (fun i => B.getD i 0) s], B ++ [A.length]) := rfl
theorem ok_mergeinto {f f0 : Addr} {fd fd0 : FuncData} (F : Fun K "merged_into" "merged_into" s_merged_into f fd) (F_moved : Fun K "moved" "moved" s_moved f0 fd0) (b_moved : Binds K fd0 ["step", "places"] []) (g_moved : mg "moved" = some (.ref f0)) (m_len : mg "len" = none) : FnOk P w K mg base CX0 2 f fd ["kept", "place_of", "formula"] spMergeInto := by
  have G_moved : FnOk P w K mg base CX0 1 f0 fd0 ["step", "places"] (spMv K) := ok_moved F_moved m_len
  refine F.ok sc_merged_into (fun vs H Q E h => ?_) (fun cdv A outer s H vs Q E hr h => ?_)
  · obtain ⟨kp, dp, fa, fs, ff, rfl, _⟩ := h
    rfl
  · obtain ⟨kp, dp, fa, fs, ff, rfl, hk, hd, hf, hfs, hok, hl, q⟩ := h
    refine ⟨_, (pss_cons (ps_set (i := 3) sc_merged_into.nd rfl (.inl rfl) (pe_lst pa_nil))
        (pss_cons (ps_for PassesOwn.never rfl (pi_tup (pv 2)) (pg_name (i := 4) sc_merged_into.nd rfl (.inl rfl)) (pss_cons (ps_set (i := 5) sc_merged_into.nd rfl (.inl rfl) (pe_call G_moved (hr.mono (by decide)) (by rfl) g_moved F_moved.kp b_moved .nil pass0 (pa_cons (pv 4) (pa_cons (pv 3) pa_nil))))
        (pss_cons (ps_if (pt_cmp (pc_dnotin (hu_of hr) (pv 5) (pv 1))) (pss_cons (ps_asg (pe_callB call_len (by rfl) m_len (by decide +kernel) (pa_cons (pv 0) pa_nil)) (pg_sub (pv 1) (pv 5) (set_dict (hu_of hr))))
        (pss_one (ps_expr (pe_bm PySem.F.plainAttrs_list PySem.F.slot_list_append PySem.F.type_list_append mt_append (pv 0) (pa_cons (pv 5) pa_nil))))) pss_nil)
        (pss_one (ps_expr (pe_bm PySem.F.plainAttrs_list PySem.F.slot_list_append PySem.F.type_list_append mt_append (pv 3) (pa_cons (pe_dget (hu_of hr) (pv 1) (pv 5) (fun _ _ => rfl)) pa_nil)))))))
        (pss_one (ps_ret (pv 3))))), ?_⟩
    refine q_asgL (el_lst ea_nil (show 0 ≤ 100000 by decide)) fun pl H1 npl e1 hpl => ?_
    refine st_is (σ' := [_, _, _, _, _, _]) rfl ?_
    have n1 : pl ≠ kp := fun z => by rw [z, hk] at npl; cases npl
    have n2 : pl ≠ dp := fun z => by rw [z, hd] at npl; cases npl
    have n3 : fa ≠ kp := fun z => by rw [z, hk] at hf; cases hf
    have n4 : fa ≠ dp := fun z => by rw [z, hd] at hf; cases hf
    have n5 : fa ≠ pl := fun z => by rw [← z, hf] at npl; cases npl
    refine q_forT (ev_var rfl) (st_of (e1 _ _ hf)) (fun i σ' H' => ∃ x4 x5, σ' = [some (.ref kp), some (.ref dp), some (.ref fa), some (.ref pl), x4, x5] ∧ MgAt H H' kp dp pl ((ff.take i).foldl mstep ([], [])).1 ((ff.take i).foldl mstep ([], [])).2)
      (fun H2 e2 => ⟨_, _, rfl, ⟨fun p o a b c h => (e1.trans e2) _ _ h, ⟨[], (e1.trans e2) _ _ hk, .nil⟩, ⟨[], (e1.trans e2) _ _ hd, rfl, fun s => by
        rw [if_neg (by simp)]
        rfl⟩, e2 _ _ hpl⟩⟩) (fun i σ' H' _ pp => ?_) (fun i x σ' H' hx pp => ?_) (fun σ' H' pp => ?_)
    · obtain ⟨x4, x5, _, M⟩ := pp
      exact st_of (M.ex _ _ n3 n4 n5 hf)
    · obtain ⟨x4, x5, rfl, M⟩ := pp
      obtain ⟨st, hst, p, rfl, sat⟩ := hfs.get hx
      have sat2 : StepAt H' (.ref p) st := ⟨p, rfl, M.ex _ _ (fun z => by rw [z, hk] at sat; cases sat) (fun z => by rw [z, hd] at sat; cases sat) (fun z => by rw [← z, sat] at npl; cases npl) sat⟩
      have hi : i < ff.length := (List.getElem?_eq_some_iff.mp hst).1
      have G := mg_take hok i (Nat.le_of_lt hi)
      have next : (ff.take (i + 1)).foldl mstep ([], []) = mstep ((ff.take i).foldl mstep ([], [])) st := by
        rw [List.take_add_one, hst]
        show (ff.take i ++ [st]).foldl mstep ([], []) = _
        rw [List.foldl_append]
        rfl
      have hos := hok i st hst
      have hfit := G.step hos
      rw [next]
      generalize (ff.take i).foldl mstep ([], []) = acc at M G hfit
      obtain ⟨A, B⟩ := acc
      rw [mstep_of]
      have hlen := G.le
      have hBl := G.len
      simp only at M hfit hlen hBl
      show tSeq _ _ _ [some (.ref kp), some (.ref dp), some (.ref fa), some (.ref pl), some (.ref p), x5] H'
      refine q_asgP (fun v H2 => StepAt H2 v (ren (fun i => B.getD i 0) st)) (fun Q1 k1 => ⟨_, rfl, _, rfl, .ref p, st, pl, B, i, rfl, sat2, hos, sq_of M.places, by omega, fun v H2 e2 h2 => k1 v H2 e2 h2⟩) fun v H2 e2 hP => ?_
      obtain ⟨b, rfl, hb⟩ := hP
      refine st_is (σ' := [_, _, _, _, _, _]) rfl ?_
      generalize ren (fun i => B.getD i 0) st = fit at hb hfit
      replace M := M.mono e2
      obtain ⟨us, k1, k2⟩ := M.kept
      obtain ⟨kvs, d1, d2, d3⟩ := M.dict
      -- behind the if
      have done : ∀ {A' : List FStep} {H3 : Hp}, MgAt H H3 kp dp pl A' B → fit ∈ A' → H3 b = some (.tup (stV fit)) → ∀ (Nx : L2.St → Hp → Prop), (∀ H4, MgAt H H4 kp dp pl A' (B ++ [A'.idxOf fit]) → Nx [some (.ref kp), some (.ref dp), some (.ref fa), some (.ref pl), some (.ref p), some (.ref b)] H4) → ∀ D : Ends, D.nx = Nx →
          tDrop (tBM K "list" rAppend (tVar 3) (tCons (tDGet (tVar 1) (tVar 5)) tNil)) D [some (.ref kp), some (.ref dp), some (.ref fa), some (.ref pl), some (.ref p), some (.ref b)] H3 := fun {A' H3} M3 hm hb3 Nx kN D hD => by
        obtain ⟨kv3, g1, g2, g3⟩ := M3.dict
        have gv := g3 fit
        rw [if_pos hm] at gv
        refine s_app M3.places (ev_var rfl) (v := .int (A'.idxOf fit : Nat)) (ev_dget (ev_var rfl) (ev_var rfl) fun H4 e4 => ?_) (by unfold nats; rw [List.length_map]; omega) fun H4 e4 => ?_
        · rw [← gv]
          exact DGet.t (e4 _ _ g1) (by rw [keyS_v]; exact e4 _ _ hb3)
        · rw [hD]
          rcases M3.place e4 (n := A'.idxOf fit) with h | h | h
          · exact kN _ h
          · exact absurd h n1
          · exact absurd h n2
      by_cases hm : fit ∈ A
      · rw [if_pos hm]
        have dm := d3 fit
        rw [if_pos hm] at dm
        refine q_when (b := false) (et_is (et_dnotin (o := some (.int (A.idxOf fit : Nat))) (ev_var rfl) (ev_var rfl) fun H3 e3 => by
          rw [← dm]
          exact DGet.t (e3 _ _ d1) (by rw [keyS_v]; exact e3 _ _ hb)) rfl) (fun hb => nomatch hb) fun _ H3 e3 => ?_
        exact done (M.mono e3) hm (e3 _ _ hb) _ (fun H4 M4 => ⟨_, _, rfl, M4⟩) _ rfl
      · rw [if_neg hm]
        have dm := d3 fit
        rw [if_neg hm] at dm
        refine q_when (b := true) (et_is (et_dnotin (o := none) (ev_var rfl) (ev_var rfl) fun H3 e3 => by
          rw [← dm]
          exact DGet.t (e3 _ _ d1) (by rw [keyS_v]; exact e3 _ _ hb)) rfl) (fun _ H3 e3 => ?_) (fun hb => nomatch hb)
        have hus : us.length = A.length := k2.1
        refine q_setD (k := keyS fit) (v := .int (A.length : Nat)) (e3 _ _ d1) (by rw [keyS_v]; exact e3 _ _ hb) (by rw [d2]; exact sz_lt (by omega)) (ev_is (ev_cb (ea_cons (ev_var rfl) ea_nil) (rc_lenL (sq_of (e3 _ _ k1)))) (congrArg (fun n : Nat => V.int (n : Int)) hus)) (ev_var rfl) (ev_var rfl) fun H4 e4 => ?_
        have nkd : kp ≠ dp := fun z => by rw [z, d1] at k1; cases k1
        refine s_app (by rw [upd_ne nkd]; exact e4 _ _ (e3 _ _ k1)) (ev_var rfl) (v := .ref b) (ev_var rfl) (by omega) fun H5 e5 => ?_
        have M6 := (M.mono e3).put (e3 _ _ k1) (e3 _ _ d1) (e3 _ _ hb) hm e4 e5 n1 n2
        have ix : (A ++ [fit]).idxOf fit = A.length := by
          rw [List.idxOf_append, if_neg hm]
          simp
        have hb6 : (upd H5 kp (.lst (us ++ [.ref b]))) b = some (.tup (stV fit)) := by
          have nb1 : b ≠ kp := fun z => by rw [z, k1] at hb; cases hb
          have nb2 : b ≠ dp := fun z => by rw [z, d1] at hb; cases hb
          rw [upd_ne nb1]
          refine e5 _ _ ?_
          rw [upd_ne nb2]
          exact e4 _ _ (e3 _ _ hb)
        exact done M6 (by simp) hb6 _ (fun H7 M7 => ⟨_, _, rfl, ix ▸ M7⟩) _ rfl
    · obtain ⟨x4, x5, rfl, M⟩ := pp
      have el : fs.length = ff.length := hfs.1
      rw [el, List.take_length] at M
      exact s_ret (ev_var rfl) fun H3 e3 => q pl H3 npl (M.mono e3)
/-! ### the program: merged, the used ones, tidied -/
def spMerged : Sp := fun vs H Q _ => ∃ (fa : Addr) (fs : List V) (ff : List FStep), vs = [.ref fa] ∧ H fa = some (.tup fs) ∧ StepsAt H fs ff ∧ OkForm ff ∧ ff.length ≤ 1000 ∧
  ∀ t kp pl us H2, H t = none → Ex H H2 → H2 t = some (.tup [.ref kp, .ref pl]) → H2 kp = some (.lst us) → StepsAt H2 us (merge ff).1 → H2 pl = some (.lst (nats (merge ff).2)) → Q (.ref t) H2
theorem ok_merged {f f0 f1 : Addr} {fd fd0 fd1 : FuncData} (F : Fun K "merged" "merged" s_merged f fd) (F_moved : Fun K "moved" "moved" s_moved f0 fd0) (b_moved : Binds K fd0 ["step", "places"] []) (g_moved : mg "moved" = some (.ref f0))
    (F_merged_into : Fun K "merged_into" "merged_into" s_merged_into f1 fd1) (b_merged_into : Binds K fd1 ["kept", "place_of", "formula"] []) (g_merged_into : mg "merged_into" = some (.ref f1)) (m_len : mg "len" = none) : FnOk P w K mg base CX0 3 f fd ["formula"] spMerged := by
  have G_merged_into : FnOk P w K mg base CX0 2 f1 fd1 ["kept", "place_of", "formula"] spMergeInto := ok_mergeinto F_merged_into F_moved b_moved g_moved m_len
  refine F.ok sc_merged (fun vs H Q E h => ?_) (fun cdv A outer s H vs Q E hr h => ?_)
  · obtain ⟨fa, fs, ff, rfl, _⟩ := h
    rfl
  · obtain ⟨fa, fs, ff, rfl, hf, hfs, hok, hl, q⟩ := h
    refine ⟨_, (pss_cons (ps_set (i := 1) sc_merged.nd rfl (.inl rfl) (pe_lst pa_nil))
        (pss_cons (ps_set (i := 2) sc_merged.nd rfl (.inl rfl) (pe_call G_merged_into (hr.mono (by decide)) (by rfl) g_merged_into F_merged_into.kp b_merged_into .nil pass0 (pa_cons (pv 1) (pa_cons pe_dnewT (pa_cons (pv 0) pa_nil)))))
        (pss_one (ps_ret (pe_tup (pa_cons (pv 1) (pa_cons (pv 2) pa_nil))))))), ?_⟩
    refine q_asgL (el_lst ea_nil (show 0 ≤ 100000 by decide)) fun kp H1 nkp e1 hk => ?_
    refine st_is (σ' := [_, _, _]) rfl ?_
    refine ⟨_, rfl, fun dp hdp => ⟨_, rfl, kp, dp, fa, fs, ff, rfl, ?_, upd_same, ex_app (Ex.new hdp) (e1 _ _ hf), hfs.mono (e1.trans (Ex.new hdp)), hok, hl, fun pl H2 npl M => ?_⟩⟩
    · exact ex_app (Ex.new hdp) hk
    · refine st_is (σ' := [_, _, _]) rfl ?_
      have e2 : Ex H (upd H1 dp (.dT [])) := e1.trans (Ex.new hdp)
      have e3 : Ex H H2 := fun p o h => M.ex p o (fun z => by rw [z, nkp] at h; cases h) (fun z => by
        have := fresh_back e1 hdp
        rw [z, this] at h
        cases h) (fun z => by
        have := fresh_back e2 npl
        rw [z, this] at h
        cases h) (e2 _ _ h)
      obtain ⟨us, k1, k2⟩ := M.kept
      exact s_retU (eu_tup (ea_cons (ev_var rfl) (ea_cons (ev_var rfl) ea_nil)) (show 2 ≤ 100000 by decide)) fun t H3 nt e4 ht => q t kp pl us H3 (fresh_back e3 nt) (e3.trans e4) ht (e4 _ _ k1) (k2.mono e4) (e4 _ _ M.places)
def bls (n : Nat) (L : List Nat) : List V := (List.range n).map fun x => V.bl (decide (x ∈ L))
theorem bls_len (n : Nat) (L : List Nat) : (bls n L).length = n := by
  unfold bls
  rw [List.length_map, List.length_range]
theorem bls_at {n i : Nat} (L : List Nat) (h : i < n) : (bls n L)[i]? = some (.bl (decide (i ∈ L))) := by
  unfold bls
  rw [List.getElem?_map, List.getElem?_range h]
  rfl
theorem bls_set {n i : Nat} (L : List Nat) (h : i < n) : (bls n L).set i (.bl true) = bls n (L ++ [i]) := by
  refine List.ext_getElem? fun k => ?_
  by_cases hk : k < n
  · rw [bls_at _ hk]
    by_cases e : k = i
    · subst e
      rw [List.getElem?_set_self (by rw [bls_len]; exact hk)]
      exact congrArg (fun b => some (V.bl b)) (decide_eq_true (by simp)).symm
    · rw [List.getElem?_set_ne (fun z => e z.symm), bls_at _ hk]
      refine congrArg (fun b => some (V.bl b)) ?_
      by_cases hm : k ∈ L
      · rw [decide_eq_true hm, decide_eq_true (List.mem_append_left _ hm)]
      · rw [decide_eq_false hm, decide_eq_false (by
          intro z
          rcases List.mem_append.mp z with z | z
          · exact hm z
          · exact e (List.mem_singleton.mp z))]
  · rw [List.getElem?_eq_none (by rw [List.length_set, bls_len]; omega), List.getElem?_eq_none (by rw [bls_len]; omega)]
theorem rep_flat (n : Nat) (x : V) : (List.replicate n [x]).flatten = List.replicate n x := by
  induction n with
  | zero => rfl
  | succ n ih =>
    rw [List.replicate_succ, List.flatten_cons, ih]
    rfl
theorem bls_first (n : Nat) : (List.replicate n [V.bl false]).flatten ++ [.bl true] = bls (n + 1) [n] := by
  rw [rep_flat]
  refine List.ext_getElem? fun k => ?_
  by_cases hk : k < n + 1
  · rw [bls_at _ hk]
    by_cases e : k = n
    · subst e
      rw [List.getElem?_append_right (by rw [List.length_replicate]; exact Nat.le_refl _), List.length_replicate, Nat.sub_self]
      exact congrArg (fun b => some (V.bl b)) (decide_eq_true (by simp)).symm
    · rw [List.getElem?_append_left (by rw [List.length_replicate]; omega), List.getElem?_replicate_of_lt (by omega)]
      exact congrArg (fun b => some (V.bl b)) (decide_eq_false (by simpa using e)).symm
  · rw [List.getElem?_eq_none (by rw [List.length_append, List.length_replicate]; simp; omega), List.getElem?_eq_none (by rw [bls_len]; omega)]
theorem q_forRev {ta : TE} {tu tz : TS} {D : Ends} {σ : L2.St} {H : Hp} {j n : Nat} (h : Ev ta σ H (.int (n : Int))) (hn : n ≤ 100000) (Pv : Nat → L2.St → Hp → Prop) (h0 : ∀ H1, Ex H H1 → Pv 0 σ H1)
    (hs : ∀ (i : Nat) σ' H', i < n → Pv i σ' H' → tu { D with nx := Pv (i + 1), ct := Pv (i + 1), bk := tz D } (σ'.set j (some (.int ((n - 1 - i : Nat) : Int)))) H') (hd : ∀ σ' H', Pv n σ' H' → tz D σ' H') : tSeq (tFor (iRevR (tRg1 ta)) (gName j) tu) tz D σ H :=
  h H (Ex.refl H) _ fun H1 e1 => ⟨(n : Int), rfl, by omega, by omega, by omega, by omega, for_rangeC (D := { D with nx := tz D }) (lo := (0 : Int) + (((n : Int) - 0).toNat : Int) - 1) (c := -1) (n := ((n : Int) - 0).toNat) Pv (h0 H1 e1) (fun i σ' H' hi p => by
    have hi2 : i < n := by omega
    have e : (0 : Int) + (((n : Int) - 0).toNat : Int) - 1 + (i : Nat) * (-1) = ((n - 1 - i : Nat) : Int) := by omega
    rw [e]
    exact hs i σ' H' hi2 p) (fun σ' H' p => by
    have e : ((n : Int) - 0).toNat = n := by omega
    rw [e] at p
    exact hd σ' H' p)⟩
theorem q_forEL {tu tz : TS} {D : Ends} {σ : L2.St} {H : Hp} {g : TG} {a : Addr} {xs : List V} {ta : TA} (h : EvA ta σ H [.ref a]) (hx : SqL K H a xs) (Pv : Nat → L2.St → Hp → Prop) (h0 : ∀ H1, Ex H H1 → Pv 0 σ H1) (hG : ∀ i σ' H', i ≤ xs.length → Pv i σ' H' → SqL K H' a xs)
    (hs : ∀ i x σ' H' T, xs[i]? = some x → Pv i σ' H' → H' T = none → g (.ref T) σ' (upd H' T (.tup [.int (i : Nat), x])) fun σ2 H2 => tu { D with nx := Pv (i + 1), ct := Pv (i + 1), bk := tz D } σ2 H2) (hd : ∀ σ' H', Pv xs.length σ' H' → tz D σ' H') :
    tSeq (tFor (iEnum K ta) g tu) tz D σ H := h H (Ex.refl H) _ fun H1 e => by
  refine ⟨a, xs, rfl, ex_l e hx, for_it (D := { D with nx := tz D }) walk_enum Pv (h0 H1 e) hG (fun i x σ' H' H'' hi p y => ?_) hd⟩
  obtain ⟨T, x1, x2, rfl, hT, rfl, e1, e2⟩ := y
  cases Option.some.inj e1
  exact hs i x2 σ' H' T e2 p hT
theorem s_appP {σ : L2.St} {H : Hp} {ta te : TE} {D : Ends} {l : Addr} {xs : List V} (P : V → Hp → Prop) (hl : H l = some (.lst xs)) (ha : Ev ta σ H (.ref l)) (h : ∀ H0, Ex H H0 → ∀ Q : VK, (∀ v H1, Ex H0 H1 → P v H1 → Q v H1) → te σ H0 Q) (hz : xs.length < 100000)
    (k : ∀ v H1, Ex H H1 → P v H1 → D.nx σ (upd H1 l (.lst (xs ++ [v])))) : tDrop (tBM K "list" rAppend ta (tCons te tNil)) D σ H := ha H (Ex.refl H) _ fun H1 e1 =>
  ⟨Or.inl ⟨rfl, xs, sq_of (e1 l _ hl)⟩, h H1 e1 _ fun v H2 e2 p => ⟨l, xs, v, rfl, rfl, e2 l _ (e1 l _ hl), sz_lt hz, k v H2 (e1.trans e2) p⟩⟩
theorem used_of_pass {T : List FStep} {L : List Nat} {last : Nat} (h : upass T 0 L = used T last) : L = used T last := h
def ordP (T : List FStep) (last i : Nat) : List Nat := (List.range i).filter fun y => decide (y ∈ used T last)
theorem ordP_succ (T : List FStep) (last i : Nat) : ordP T last (i + 1) = if i ∈ used T last then ordP T last i ++ [i] else ordP T last i := by
  unfold ordP
  rw [List.range_succ, List.filter_append, List.filter_cons]
  by_cases h : i ∈ used T last
  · rw [if_pos h, if_pos (decide_eq_true h)]
    rfl
  · rw [if_neg h, if_neg (by simpa using h)]
    exact List.append_nil _
def pickP (T : List FStep) (last i : Nat) : List FStep := (ordP T last i).map fun x => ren (rank T last) (T.getD x ("pi", []))
theorem pickP_len (T : List FStep) (last i : Nat) : (pickP T last i).length = rank T last i := List.length_map ..
theorem pickP_succ (T : List FStep) (last i : Nat) : pickP T last (i + 1) = if i ∈ used T last then pickP T last i ++ [ren (rank T last) (T.getD i ("pi", []))] else pickP T last i := by
  unfold pickP
  rw [ordP_succ]
  by_cases h : i ∈ used T last
  · rw [if_pos h, if_pos h, List.map_append]
    rfl
  · rw [if_neg h, if_neg h]
theorem rank_le (T : List FStep) (last i : Nat) : rank T last i ≤ i := by
  unfold rank
  have := List.length_filter_le (fun y => decide (y ∈ used T last)) (List.range i)
  rw [List.length_range] at this
  exact this
def rks (T : List FStep) (last i : Nat) : List Nat := (List.range i).map (rank T last)
theorem rks_succ (T : List FStep) (last i : Nat) : rks T last (i + 1) = rks T last i ++ [rank T last i] := by
  unfold rks
  rw [List.range_succ, List.map_append]
  rfl
theorem rks_len (T : List FStep) (last i : Nat) : (rks T last i).length = i := by
  unfold rks
  rw [List.length_map, List.length_range]
theorem rks_at (T : List FStep) (last : Nat) {i j : Nat} (h : j < i) : (rks T last i).getD j 0 = rank T last j := by
  unfold rks
  rw [List.getD_eq_getElem?_getD, List.getElem?_map, List.getElem?_range h]
  rfl
def spUsed : Sp := fun vs H Q _ => ∃ (sa : Addr) (us : List V) (T : List FStep) (last : Nat), vs = [.ref sa, .int (last : Int)] ∧ H sa = some (.lst us) ∧ StepsAt H us T ∧ OkForm T ∧ last < T.length ∧ T.length ≤ 1000 ∧ RetF (picked T last) H Q
/-- what stays while the lists are filled -/
structure UsAt (H H' : Hp) (ul kl pl : Addr) (ks : List V) (T : List FStep) (last i : Nat) : Prop where
  ex : Ex H H'
  u : H' ul = some (.lst (bls (last + 1) (used T last)))
  k : H' kl = some (.lst ks)
  st : StepsAt H' ks (pickP T last i)
  p : ∃ m, H' pl = some (.lst (nats (rks T last m))) ∧ (m = i ∨ m = i + 1)
theorem ok_used {f f0 f1 : Addr} {fd fd0 fd1 : FuncData} (F : Fun K "used_steps" "used_steps" s_used_steps f fd) (F_moved : Fun K "moved" "moved" s_moved f0 fd0) (b_moved : Binds K fd0 ["step", "places"] []) (g_moved : mg "moved" = some (.ref f0))
    (F_indexes_of : Fun K "indexes_of" "indexes_of" s_indexes_of f1 fd1) (b_indexes_of : Binds K fd1 ["step"] []) (g_indexes_of : mg "indexes_of" = some (.ref f1)) (m_len : mg "len" = none) (m_range : mg "range" = none) (m_reversed : mg "reversed" = none) (m_enumerate : mg "enumerate" = none) (m_tuple : mg "tuple" = none) : FnOk P w K mg base CX0 2 f fd ["steps", "last"] spUsed := by
  have G_moved : FnOk P w K mg base CX0 1 f0 fd0 ["step", "places"] (spMv K) := ok_moved F_moved m_len
  have G_indexes_of : FnOk P w K mg base CX0 1 f1 fd1 ["step"] spIdx := ok_idx F_indexes_of
  refine F.ok sc_used_steps (fun vs H Q E h => ?_) (fun cdv A outer s H vs Q E hr h => ?_)
  · obtain ⟨sa, us, T, last, rfl, _⟩ := h
    rfl
  · obtain ⟨sa, us, T, last, rfl, hs, hst, hok, hlast, hlen, q⟩ := h
    refine ⟨_, (pss_cons (ps_set (i := 2) sc_used_steps.nd rfl (.inl rfl) (pe_op op_cat (pe_op op_rep (pe_lst (pa_cons pe_bl pa_nil)) (pv 1)) (pe_lst (pa_cons pe_bl pa_nil))))
        (pss_cons (ps_for PassesOwn.never rfl (pi_revR (by rfl) m_reversed (prg_1 (by rfl) m_range (pe_op op_add (pv 1) pe_int))) (pg_name (i := 3) sc_used_steps.nd rfl (.inl rfl)) (pss_one (ps_if (pt_val (pe_ix ix_list (pv 2) (pv 3) (fun _ _ => rfl))) (pss_one (ps_for PassesOwn.never rfl (pi_tup (pe_call G_indexes_of (hr.mono (by decide)) (by rfl) g_indexes_of F_indexes_of.kp b_indexes_of .nil pass0 (pa_cons (pe_ix ix_list (pv 0) (pv 3) (fun _ _ => rfl)) pa_nil))) (pg_name (i := 4) sc_used_steps.nd rfl (.inl rfl)) (pss_one (ps_asg pe_bl (pg_sub (pv 2) (pv 4) set_list))))) pss_nil)))
        (pss_cons (ps_set (i := 5) sc_used_steps.nd rfl (.inl rfl) (pe_lst pa_nil))
        (pss_cons (ps_set (i := 6) sc_used_steps.nd rfl (.inl rfl) (pe_lst pa_nil))
        (pss_cons (ps_for PassesOwn.never rfl (pi_enum (by rfl) m_enumerate (pa_cons (pv 2) pa_nil)) (pg_tup rfl (pgs_cons (pg_name (i := 3) sc_used_steps.nd rfl (.inl rfl)) (pgs_cons (pg_name (i := 7) sc_used_steps.nd rfl (.inl rfl)) pgs_nil))) (pss_cons (ps_expr (pe_bm PySem.F.plainAttrs_list PySem.F.slot_list_append PySem.F.type_list_append mt_append (pv 6) (pa_cons (pe_callB call_len (by rfl) m_len (by decide +kernel) (pa_cons (pv 5) pa_nil)) pa_nil)))
        (pss_one (ps_if (pt_val (pv 7)) (pss_one (ps_expr (pe_bm PySem.F.plainAttrs_list PySem.F.slot_list_append PySem.F.type_list_append mt_append (pv 5) (pa_cons (pe_call G_moved (hr.mono (by decide)) (by rfl) g_moved F_moved.kp b_moved .nil pass0 (pa_cons (pe_ix ix_list (pv 0) (pv 3) (fun _ _ => rfl)) (pa_cons (pv 6) pa_nil))) pa_nil)))) pss_nil))))
        (pss_one (ps_ret (pe_callTy call_tuple_of (by rfl) m_tuple (by decide +kernel) (pa_cons (pv 5) pa_nil))))))))), ?_⟩
    have hul : us.length = T.length := hst.1
    have stepAt : ∀ n, n < T.length → ∃ v, us[n]? = some v ∧ StepAt H v (T.getD n ("pi", [])) ∧ OkStep n (T.getD n ("pi", [])) := fun n hn => by
      have h1 : us[n]? = some us[n] := List.getElem?_eq_getElem (by omega)
      obtain ⟨s, h2, h3⟩ := hst.get h1
      have h4 : T.getD n ("pi", []) = s := by
        rw [List.getD_eq_getElem?_getD, h2]
        rfl
      exact ⟨_, h1, h4 ▸ h3, getD_ok hok hn⟩
    -- used
    refine q_asgP (fun v H1 => ∃ l, v = .ref l ∧ H l = none ∧ H1 l = some (.lst (bls (last + 1) [last]))) (fun Q1 k1 => ?_) fun v H1 e1 hP => ?_
    · refine ⟨by show 1 ≤ sizeLine; decide, fun a ha => ⟨_, rfl, a, (last : Int), [.bl false], rfl, rfl, upd_same, by omega, by omega, ?_, fun b hb => ⟨by show 1 ≤ sizeLine; decide, fun c hc => ⟨b, c, _, _, rfl, rfl, ex_app (Ex.new hc) upd_same, upd_same, ?_, fun d hd => ?_⟩⟩⟩⟩
      · rw [Int.toNat_natCast]
        exact sz_of (by simp; omega)
      · rw [Int.toNat_natCast, rep_flat]
        exact sz_of (by simp; omega)
      · have e4 : Ex H (upd (upd (upd H a (.lst [.bl false])) b (.lst (List.replicate (last : Int).toNat [V.bl false]).flatten)) c (.lst [.bl true])) := ((Ex.new ha).trans (Ex.new hb)).trans (Ex.new hc)
        refine k1 _ _ (e4.trans (Ex.new hd)) ⟨d, rfl, fresh_back e4 hd, ?_⟩
        rw [Int.toNat_natCast, upd_same, bls_first]
    obtain ⟨ul, rfl, nul, hu⟩ := hP
    refine st_is (σ' := [_, _, _, _, _, _, _, _]) rfl ?_
    -- from the last one on
    refine q_forRev (n := last + 1) (ev_is (ev_op (ev_var rfl) ev_c rv_I0) (congrArg V.int (show (last : Int) + 1 = ((last + 1 : Nat) : Int) by omega))) (by omega)
      (fun i σ' H' => ∃ x3 x4 L, σ' = [some (.ref sa), some (.int (last : Int)), some (.ref ul), x3, x4, none, none, none] ∧ Ex H H' ∧ H' ul = some (.lst (bls (last + 1) L)) ∧ upass T (last + 1 - i) L = used T last) (fun H2 e2 => ⟨_, _, [last], rfl, e1.trans e2, e2 _ _ hu, rfl⟩) (fun i σ' H' hi pp => ?_) (fun σ' H' pp => ?_)
    · obtain ⟨x3, x4, L, rfl, e2, hu2, hup⟩ := pp
      obtain ⟨n, hn⟩ : ∃ n, last - i = n := ⟨_, rfl⟩
      have en : last + 1 - 1 - i = n := by omega
      rw [en]
      rw [show last + 1 - i = n + 1 by omega] at hup
      rw [show last + 1 - (i + 1) = n by omega]
      have hn1 : n < last + 1 := by omega
      show tIfS _ _ tNext _ [some (.ref sa), some (.int (last : Int)), some (.ref ul), some (.int ((n : Nat) : Int)), x4, none, none, none] H'
      refine s_when (b := decide (n ∈ L)) (et_B (ev_op (ev_var rfl) (ev_var rfl) (rv_ixL (sq_of hu2) (atI_nat (bls_at L hn1))))) (fun hb H3 e3 => ?_) (fun hb H3 e3 => ?_)
      · have hm := of_decide_eq_true hb
        obtain ⟨v, v1, v2, v3⟩ := stepAt n (by omega)
        generalize hT : T.getD n ("pi", []) = st at v2 v3
        have hup2 : upass T n (L ++ ix st) = used T last := by
          rw [← hup, ← hT]
          show _ = upass T n (if n ∈ L then _ else _)
          rw [if_pos hm]
        have e23 := e2.trans e3
        refine s_forNT (xs := nats (ix st)) (eu_call (ea_cons (ev_op (ev_var rfl) (ev_var rfl) (rv_ixL (sq_of (e23 _ _ hs)) (atI_nat v1))) ea_nil) (fun H4 e4 Q4 q4 E4 => ⟨v, st, n, rfl, v2.mono (e23.trans e4), v3, q4⟩)) (fun p j σ' H' => ∃ x4, σ' = [some (.ref sa), some (.int (last : Int)), some (.ref ul), some (.int ((n : Nat) : Int)), x4, none, none, none] ∧ Ex H H' ∧ p ≠ ul ∧ H' p = some (.tup (nats (ix st))) ∧ H' ul = some (.lst (bls (last + 1) (L ++ (ix st).take j))))
          (fun p H4 np e4 hp => ⟨_, rfl, e23.trans e4, (fun z => by rw [z, e3 _ _ hu2] at np; cases np), hp, by rw [List.take_zero, List.append_nil]; exact e4 _ _ (e3 _ _ hu2)⟩) (fun p j σ' H' _ pp => ?_) (fun p j x σ' H' hx pp => ?_) (fun p σ' H' pp => ?_)
        · obtain ⟨x4, _, _, _, hp, _⟩ := pp
          exact st_of hp
        · obtain ⟨x4, rfl, e4, npu, hp, hu4⟩ := pp
          obtain ⟨k, hk, rfl⟩ : ∃ k, (ix st)[j]? = some k ∧ x = V.int ((k : Nat) : Int) := by
            unfold nats at hx
            rw [List.getElem?_map] at hx
            obtain ⟨k, h1, h2⟩ := Option.map_eq_some_iff.mp hx
            exact ⟨k, h1, h2.symm⟩
          have hkn : k < n := ok_ix v3 k (List.mem_of_getElem? hk)
          show tAsg _ (gSub _ _ rSetL) _ [some (.ref sa), some (.int (last : Int)), some (.ref ul), some (.int ((n : Nat) : Int)), some (.int ((k : Nat) : Int)), none, none, none] H'
          refine s_setL hu4 ev_c (ev_var rfl) (ev_var rfl) (by rw [bls_len]; omega) fun H5 e5 => ⟨_, rfl, Ex.mut (e4.trans e5) nul, npu, ?_, ?_⟩
          · rw [upd_ne npu]
            exact e5 _ _ hp
          · rw [upd_same, bls_set _ (by omega), List.append_assoc]
            refine congrArg (fun z => some (HO.lst (bls (last + 1) (L ++ z)))) ?_
            rw [List.take_add_one, hk]
            rfl
        · obtain ⟨x4, rfl, e4, _, _, hu4⟩ := pp
          have el : (nats (ix st)).length = (ix st).length := List.length_map ..
          rw [el, List.take_length] at hu4
          exact ⟨_, _, _, rfl, e4, hu4, hup2⟩
      · have hm := of_decide_eq_false hb
        refine ⟨_, _, L, rfl, e2.trans e3, e3 _ _ hu2, ?_⟩
        rw [← hup]
        show _ = upass T n (if n ∈ L then _ else _)
        rw [if_neg hm]
    · obtain ⟨x3, x4, L, rfl, e2, hu2, hup⟩ := pp
      rw [Nat.sub_self] at hup
      cases used_of_pass hup
      clear hup hu
      refine q_asgL (el_lst ea_nil (show 0 ≤ 100000 by decide)) fun kl H3 nkl e3 hk => ?_
      refine st_is (σ' := [_, _, _, _, _, _, _, _]) rfl ?_
      refine q_asgL (el_lst ea_nil (show 0 ≤ 100000 by decide)) fun pl H4 npl e4 hp => ?_
      refine st_is (σ' := [_, _, _, _, _, _, _, _]) rfl ?_
      have nkl0 : H kl = none := fresh_back e2 nkl
      have npl0 : H pl = none := fresh_back (e2.trans e3) npl
      have n1 : kl ≠ ul := fun z => by rw [z, hu2] at nkl; cases nkl
      have n2 : pl ≠ ul := fun z => by rw [z, e3 _ _ hu2] at npl; cases npl
      have n3 : pl ≠ kl := fun z => by rw [z, hk] at npl; cases npl
      have hu4 := e4 _ _ (e3 _ _ hu2)
      have e24 := (e2.trans e3).trans e4
      refine q_forEL (ea_cons (ev_var rfl) ea_nil) (sq_of hu4) (fun i σ' H' => ∃ x3 x7 ks, σ' = [some (.ref sa), some (.int (last : Int)), some (.ref ul), x3, x4, some (.ref kl), some (.ref pl), x7] ∧ Ex H H' ∧ H' ul = some (.lst (bls (last + 1) (used T last))) ∧ H' kl = some (.lst ks) ∧ StepsAt H' ks (pickP T last i) ∧ H' pl = some (.lst (nats (rks T last i))))
        (fun H5 e5 => ⟨_, _, [], rfl, e24.trans e5, e5 _ _ hu4, e5 _ _ (e4 _ _ hk), .nil, e5 _ _ hp⟩) (fun i σ' H' _ pp => ?_) (fun i x σ' H' Tp hx pp hT => ?_) (fun σ' H' pp => ?_)
      · obtain ⟨x3, x7, ks, _, _, h5, _⟩ := pp
        exact sq_of h5
      · obtain ⟨x3, x7, ks, rfl, e5, hu5, hk5, hs5, hp5⟩ := pp
        have hi : i < last + 1 := by
          have := (List.getElem?_eq_some_iff.mp hx).1
          rw [bls_len] at this
          exact this
        rw [bls_at _ hi] at hx
        cases Option.some.inj hx
        have e6 : Ex H (upd H' Tp (.tup [.int (i : Nat), .bl (decide (i ∈ used T last))])) := e5.trans (Ex.new hT)
        have ET : Ex H' (upd H' Tp (.tup [.int (i : Nat), .bl (decide (i ∈ used T last))])) := Ex.new hT
        refine ⟨Tp, _, rfl, .inl (.inl upd_same), rfl, _, _, rfl, _, _, rfl, rfl, ?_⟩
        replace hu5 := ET _ _ hu5
        replace hk5 := ET _ _ hk5
        replace hs5 := hs5.mono ET
        replace hp5 := ET _ _ hp5
        generalize upd H' Tp (.tup [.int (i : Nat), .bl (decide (i ∈ used T last))]) = H6 at e6 hu5 hk5 hs5 hp5
        show tSeq _ _ _ [some (.ref sa), some (.int (last : Int)), some (.ref ul), some (.int (i : Nat)), x4, some (.ref kl), some (.ref pl), some (.bl (decide (i ∈ used T last)))] H6
        have hkl : ks.length = rank T last i := by rw [hs5.1, pickP_len]
        refine q_app hp5 (ev_var rfl) (v := .int (rank T last i : Nat)) (ev_is (ev_cb (ea_cons (ev_var rfl) ea_nil) (rc_lenL (sq_of hk5))) (congrArg (fun n : Nat => V.int (n : Int)) hkl)) (by unfold nats; rw [List.length_map, rks_len]; omega) fun H7 e7 => ?_
        have e8 : Ex H (upd H7 pl (.lst (nats (rks T last i) ++ [.int (rank T last i : Nat)]))) := Ex.mut (e6.trans e7) npl0
        have hp8 : upd H7 pl (.lst (nats (rks T last i) ++ [.int (rank T last i : Nat)])) pl = some (.lst (nats (rks T last (i + 1)))) := by
          rw [upd_same, rks_succ]
          unfold nats
          rw [List.map_append]
          rfl
        have hu8 : upd H7 pl (.lst (nats (rks T last i) ++ [.int (rank T last i : Nat)])) ul = some (.lst (bls (last + 1) (used T last))) := by
          rw [upd_ne (fun z => n2 z.symm)]
          exact e7 _ _ hu5
        have hk8 : upd H7 pl (.lst (nats (rks T last i) ++ [.int (rank T last i : Nat)])) kl = some (.lst ks) := by
          rw [upd_ne (fun z => n3 z.symm)]
          exact e7 _ _ hk5
        have hs8 : StepsAt (upd H7 pl (.lst (nats (rks T last i) ++ [.int (rank T last i : Nat)]))) ks (pickP T last i) := steps_upd (e7 _ _ hp5) (hs5.mono e7)
        generalize upd H7 pl (.lst (nats (rks T last i) ++ [.int (rank T last i : Nat)])) = H8 at e8 hp8 hu8 hk8 hs8
        refine s_when (b := decide (i ∈ used T last)) (et_B (ev_var rfl)) (fun hb H9 e9 => ?_) (fun hb H9 e9 => ?_)
        · have hm := of_decide_eq_true hb
          obtain ⟨v, v1, v2, v3⟩ := stepAt i (by omega)
          have hren : ren (fun j => (rks T last (i + 1)).getD j 0) (T.getD i ("pi", [])) = ren (rank T last) (T.getD i ("pi", [])) := ren_congr fun j hj => rks_at T last (by have := ok_ix v3 j hj; omega)
          refine s_appP (fun v H10 => StepAt H10 v (ren (rank T last) (T.getD i ("pi", [])))) (e9 _ _ hk8) (ev_var rfl) (fun H0 e0 Q1 k1 => ?_) (by have := rank_le T last i; omega) fun v2 H10 e10 hv => ?_
          · have e90 := (e8.trans e9).trans e0
            refine ⟨_, rfl, _, rfl, sa, _, _, v, rfl, rfl, sq_of (e90 _ _ hs), atI_nat v1, _, rfl, v, T.getD i ("pi", []), pl, rks T last (i + 1), i, rfl, v2.mono e90, v3, sq_of (e0 _ _ (e9 _ _ hp8)), by rw [rks_len]; omega, fun v3 H11 e11 h11 => k1 v3 H11 e11 ?_⟩
            rw [← hren]
            exact h11
          · have k10 := e10 _ _ (e9 _ _ hk8)
            refine ⟨_, _, ks ++ [v2], rfl, Ex.mut ((e8.trans e9).trans e10) nkl0, ?_, upd_same, ?_, ?_⟩
            · rw [upd_ne (fun z => n1 z.symm)]
              exact e10 _ _ (e9 _ _ hu8)
            · rw [pickP_succ, if_pos hm]
              exact (steps_upd k10 (hs8.mono (e9.trans e10))).snoc (step_upd k10 hv)
            · rw [upd_ne n3]
              exact e10 _ _ (e9 _ _ hp8)
        · have hm := of_decide_eq_false hb
          refine ⟨_, _, ks, rfl, e8.trans e9, e9 _ _ hu8, e9 _ _ hk8, ?_, e9 _ _ hp8⟩
          rw [pickP_succ, if_neg hm]
          exact hs8.mono e9
      · obtain ⟨x3, x7, ks, rfl, e5, _, hk5, hs5, _⟩ := pp
        rw [bls_len] at hs5
        refine ⟨_, rfl, kl, ks, rfl, .inl ⟨sq_of hk5, fun r hr2 => ?_⟩⟩
        exact q r _ ks (fresh_back e5 hr2) (e5.trans (Ex.new hr2)) upd_same (hs5.mono (Ex.new hr2))
def spTidied : Sp := fun vs H Q _ => ∃ (fa : Addr) (fs : List V) (ff : List FStep), vs = [.ref fa] ∧ H fa = some (.tup fs) ∧ StepsAt H fs ff ∧ OkForm ff ∧ ff ≠ [] ∧ ff.length ≤ 1000 ∧ RetF (tidy ff) H Q
theorem nats_last {ps : List Nat} (h : ps ≠ []) : atI (nats ps) (-1) = some (.int (ps.getLastD 0 : Nat)) := by
  obtain ⟨l, x, rfl⟩ : ∃ l x, ps = l ++ [x] := ⟨ps.dropLast, ps.getLast h, (List.dropLast_concat_getLast h).symm⟩
  unfold nats
  rw [List.map_append, List.getLastD_concat]
  exact atI_last _ _
theorem ok_tidied {f f0 f1 f2 f3 f4 : Addr} {fd fd0 fd1 fd2 fd3 fd4 : FuncData} (F : Fun K "tidied" "tidied" s_tidied f fd) (F_moved : Fun K "moved" "moved" s_moved f0 fd0) (b_moved : Binds K fd0 ["step", "places"] []) (g_moved : mg "moved" = some (.ref f0))
    (F_indexes_of : Fun K "indexes_of" "indexes_of" s_indexes_of f1 fd1) (b_indexes_of : Binds K fd1 ["step"] []) (g_indexes_of : mg "indexes_of" = some (.ref f1)) (F_merged_into : Fun K "merged_into" "merged_into" s_merged_into f2 fd2) (b_merged_into : Binds K fd2 ["kept", "place_of", "formula"] []) (g_merged_into : mg "merged_into" = some (.ref f2))
    (F_merged : Fun K "merged" "merged" s_merged f3 fd3) (b_merged : Binds K fd3 ["formula"] []) (g_merged : mg "merged" = some (.ref f3)) (F_used_steps : Fun K "used_steps" "used_steps" s_used_steps f4 fd4) (b_used_steps : Binds K fd4 ["steps", "last"] []) (g_used_steps : mg "used_steps" = some (.ref f4))
    (m_len : mg "len" = none) (m_range : mg "range" = none) (m_reversed : mg "reversed" = none) (m_enumerate : mg "enumerate" = none) (m_tuple : mg "tuple" = none) : FnOk P w K mg base CX0 4 f fd ["formula"] spTidied := by
  have G_merged : FnOk P w K mg base CX0 3 f3 fd3 ["formula"] spMerged := ok_merged F_merged F_moved b_moved g_moved F_merged_into b_merged_into g_merged_into m_len
  have G_used_steps : FnOk P w K mg base CX0 2 f4 fd4 ["steps", "last"] spUsed := ok_used F_used_steps F_moved b_moved g_moved F_indexes_of b_indexes_of g_indexes_of m_len m_range m_reversed m_enumerate m_tuple
  refine F.ok sc_tidied (fun vs H Q E h => ?_) (fun cdv A outer s H vs Q E hr h => ?_)
  · obtain ⟨fa, fs, ff, rfl, _⟩ := h
    rfl
  · obtain ⟨fa, fs, ff, rfl, hf, hfs, hok, hne, hl, q⟩ := h
    refine ⟨_, (pss_cons (ps_asg (pe_call G_merged (hr.mono (by decide)) (by rfl) g_merged F_merged.kp b_merged .nil pass0 (pa_cons (pv 0) pa_nil)) (pg_tup rfl (pgs_cons (pg_name (i := 1) sc_tidied.nd rfl (.inl rfl)) (pgs_cons (pg_name (i := 2) sc_tidied.nd rfl (.inl rfl)) pgs_nil))))
        (pss_one (ps_ret (pe_call G_used_steps (hr.mono (by decide)) (by rfl) g_used_steps F_used_steps.kp b_used_steps .nil pass0 (pa_cons (pv 1) (pa_cons (pe_ix ix_list (pv 2) (pe_un un_neg pe_int) (fun _ _ => rfl)) pa_nil)))))), ?_⟩
    have mg := mg_merge hok
    have hlast := last_lt hok hne
    have hle := mg.le
    have hpn : (merge ff).2 ≠ [] := fun z => by
      have := mg.len
      rw [z] at this
      exact hne (List.length_eq_zero_iff.mp this.symm)
    refine ⟨_, rfl, fa, fs, ff, rfl, hf, hfs, hok, hl, fun t kp pl us H2 nt e2 ht hk hks hp => ⟨t, _, rfl, st_of ht, rfl, _, _, rfl, _, _, rfl, rfl, ?_⟩⟩
    refine st_is (σ' := [some (.ref fa), some (.ref kp), some (.ref pl)]) rfl ?_
    refine ⟨_, rfl, _, rfl, 1, rfl, pl, _, -1, _, rfl, rfl, sq_of hp, nats_last hpn, kp, us, (merge ff).1, (merge ff).2.getLastD 0, rfl, hk, hks, mg.ok, hlast, by omega, ?_⟩
    exact fun a H3 vs na e3 h3 s3 => q a H3 vs (fresh_back e2 na) (e2.trans e3) h3 s3
def cnt (x : Str) (ss : List FStep) : Nat := (ss.filter fun s => decide (s.1 = x)).length
def spCount : Sp := fun vs H Q _ => ∃ (fa : Addr) (fs : List V) (ff : List FStep) (x : Str), vs = [.ref fa, .str x] ∧ H fa = some (.tup fs) ∧ StepsAt H fs ff ∧ ff.length ≤ 1000 ∧ RetV (.int (cnt x ff : Nat)) H Q
theorem el_filtT {tl te : TE} {t : TT} {σ : L2.St} {H : Hp} {a : Addr} {xs : List V} {j : Nat} {vs : List Nat} (f : Nat → Bool) (fv : Nat → V) (h : Ev tl σ H (.ref a)) (hx : SqT K H a xs) (hz : xs.length ≤ 40000) (hw : ∀ x, wipe ((wipe σ vs).set j (some x)) vs = wipe σ vs)
    (ht : ∀ (i : Nat) (x : V) H1, Ex H H1 → xs[i]? = some x → EvT t ((wipe σ vs).set j (some x)) H1 (f i)) (he : ∀ (i : Nat) (x : V) H1, Ex H H1 → xs[i]? = some x → Ev te ((wipe σ vs).set j (some x)) H1 (fv i)) :
    EvL (tLc (iTup K tl) (gName j) t te vs) σ H (given xs.length f fv) := fun H0 e Q q => h H0 e _ fun H1 e1 => ⟨a, rfl, ⟨xs, ex_t (e.trans e1) hx⟩, fun Dl hD =>
  lc_tup (xs := xs) (Cw H1 f fv Dl) ⟨hD, Ex.new hD, upd_same⟩ (fun i H' _ p => ex_t ((e.trans e1).trans p.2.1) hx) (fun i x H' hi p => ⟨hw x, cw_turn p (by have := (List.getElem?_eq_some_iff.mp hi).1; omega) (ht i x H1 (e.trans e1) hi) (fun _ => he i x H1 (e.trans e1) hi)⟩)
    (fun H' p => q Dl H' (fresh_back e1 p.1) (e1.trans p.2.1) p.2.2)⟩
theorem given_cnt {x : Str} {ss : List FStep} {fv : Nat → V} {d : FStep} : (given ss.length (fun i => decide ((ss.getD i d).1 = x)) fv).length = cnt x ss := by
  unfold given cnt
  rw [List.length_map]
  have e : ss = (List.range ss.length).map fun i => ss.getD i d := by
    refine List.ext_getElem (by rw [List.length_map, List.length_range]) fun k h1 h2 => ?_
    rw [List.getElem_map, List.getElem_range, List.getD_eq_getElem?_getD, List.getElem?_eq_getElem h1]
    rfl
  conv => rhs; rw [e, List.filter_map, List.length_map]
  rfl
theorem ev_count {σ : L2.St} {H : Hp} {a : Addr} {us : List V} {ss : List FStep} {x : Str} {tl : TE} {tw : TE} {j : Nat} {vs : List Nat} (ha : H a = some (.tup us)) (hs : StepsAt H us ss) (hz : ss.length ≤ 1000) (h : Ev tl σ H (.ref a)) (hw : ∀ x, wipe ((wipe σ vs).set j (some x)) vs = wipe σ vs) (hj : ∀ x, ((wipe σ vs).set j (some x))[j]? = some (some x)) (ht : ∀ y H1, Ev tw ((wipe σ vs).set j (some y)) H1 (.str x)) :
    Ev (tCB (fun xs H Q => ∃ x n, xs = [x] ∧ LenV K x H n ∧ Q (.int n) H) (tCons (tLc (iTup K tl) (gName j) (tTest (tOp rEq (tOp (rIxT K) (tVar j) (tC (.int 0))) tw)) (tVar j) vs) tNil)) σ H (.int (cnt x ss : Nat)) := fun H1 e Q q => by
  have hl : us.length = ss.length := hs.1
  have := el_filtT (K := K) (tl := tl) (te := tVar j) (t := tTest (tOp rEq (tOp (rIxT K) (tVar j) (tC (.int 0))) tw)) (vs := vs) (fun i => decide ((ss.getD i ("pi", [])).1 = x)) (fun i => us.getD i .non) h (st_of ha) (by omega) hw (fun i y H2 e2 hi => ?_) (fun i y H2 e2 hi => ?_)
  · rw [hl] at this
    refine this H1 e (fun v H2 => ∃ x n, [v] = [x] ∧ LenV K x H2 n ∧ Q (.int n) H2) fun p H2 np e2 hp => ⟨.ref p, _, rfl, .inl ⟨_, sq_of hp, rfl⟩, ?_⟩
    rw [given_cnt]
    exact q H2 e2
  · obtain ⟨s, h1, p, rfl, h3⟩ := hs.get hi
    have e4 : ss.getD i ("pi", []) = s := by
      rw [List.getD_eq_getElem?_getD, h1]
      rfl
    rw [e4]
    have t3 : SqT K H2 p (stV s) := st_of (e2 _ _ h3)
    refine et_is (et_test (ev_op (ev_op (ev_var (hj _)) ev_c (rv_ixT t3 (at0 s))) (ht _ _) (rv_eq rfl))) ?_
    by_cases e5 : s.1 = x
    · rw [decide_eq_true e5, decide_eq_true (congrArg V.str e5)]
    · rw [decide_eq_false e5, decide_eq_false fun z => e5 (V.str.inj z)]
  · have e4 : us.getD i .non = y := by
      rw [List.getD_eq_getElem?_getD, hi]
      rfl
    rw [e4]
    exact ev_var (hj _)
theorem ok_count {f : Addr} {fd : FuncData} (F : Fun K "steps_of" "steps_of" s_steps_of f fd) (m_len : mg "len" = none) : FnOk P w K mg base CX0 1 f fd ["formula", "word"] spCount := by
  refine F.ok sc_steps_of (fun vs H Q E h => ?_) (fun cdv A outer s H vs Q E hr h => ?_)
  · obtain ⟨fa, fs, ff, x, rfl, _⟩ := h
    rfl
  · obtain ⟨fa, fs, ff, x, rfl, hf, hfs, hl, q⟩ := h
    refine ⟨_, (pss_one (ps_ret (pe_callB call_len (by rfl) m_len (by decide +kernel) (pa_cons (pe_lc (own := [("step", 2)]) (g := gName 2) rfl sc_steps_of.nd (pi_tup (pv 0)) (blkOk_by (own := [("step", 2)]) (N := ["formula", "word", "step"]) (sc := defScope s_steps_of) (by decide +kernel)) (fun _ _ _ _ _ => (pg_name (i := 2) sc_steps_of.nd rfl (.inl rfl))) (fun _ _ _ _ _ => pts_one (pt_cmpR op_eq (pe_ix (r := rIxT K) ix_tup (pv 2) pe_int (fun _ _ => rfl)) (pv 1) (nomark _))) (fun _ _ _ _ _ => (pv 2))) pa_nil)))), ?_⟩
    exact s_ret (ev_count (x := x) hf hfs hl (ev_var rfl) (fun _ => rfl) (fun _ => rfl) (fun _ _ => ev_var rfl)) q
/-! ### the law's own defs -/
theorem ok_cell {f : Addr} {fd : FuncData} (F : Fun K "_law_cell" "_law_cell" s_law_cell f fd) (m_len : mg "len" = none) : FnOk P w K mg base CX0 1 f fd ["script", "k"] (spCell K) := by
  refine F.ok sc_law_cell (fun vs H Q E h => ?_) (fun cdv A outer s H vs Q E hr h => ?_)
  · obtain ⟨l, ns, j, rfl, _⟩ := h
    rfl
  · obtain ⟨l, ns, j, rfl, hs, q⟩ := h
    refine ⟨_, (pss_cons (ps_if (pt_cmpR op_lt (pv 1) (pe_callB call_len (by rfl) m_len (by decide +kernel) (pa_cons (pv 0) pa_nil)) (nomark _)) (pss_one (ps_ret (pe_ix ix_list (pv 0) (pv 1) (fun _ _ => rfl)))) pss_nil)
        (pss_one (ps_ret pe_int))), ?_⟩
    refine ⟨_, rfl, _, rfl, .ref l, ((ns.map V.int).length : Nat), rfl, .inl ⟨_, hs, rfl⟩, _, _, rfl, rfl, _, rfl, ite2 (fun e => ?_) (fun e => ?_)⟩
    · have hj : j < ns.length := by
        have := of_decide_eq_true e
        rw [List.length_map] at this
        omega
      exact ⟨_, rfl, _, rfl, l, _, _, _, rfl, rfl, hs, atI_cell hj, q⟩
    · have hj : ¬ j < ns.length := fun z => e (decide_eq_true (by rw [List.length_map]; omega))
      rw [cell_out hj] at q
      exact q
def spNumbers (K : PySem.W.Frag) : Sp := fun vs H Q _ => ∃ (sa : Addr) (ns : List Int) (first most : Nat), vs = [.ref sa, .int (first : Int), .int (most : Int)] ∧ SqL K H sa (ns.map V.int) ∧ ns.length ≤ 63 ∧ first ≤ 10 ∧ most ≤ 100 ∧
  ∀ p H2 (xs : List Int), H p = none → Ex H H2 → H2 p = some (.lst (xs.map V.int)) → (∀ x ∈ xs, 0 ≤ x ∧ x < 4096) → xs.length ≤ most → Q (.ref p) H2
/-- what a turn keeps -/
structure NumAt (H H' : Hp) (l : Addr) (most : Nat) (xs : List Int) : Prop where
  ex : Ex H H'
  at_ : H' l = some (.lst (xs.map V.int))
  all : ∀ x ∈ xs, 0 ≤ x ∧ x < 4096
  len : xs.length ≤ most
theorem NumAt.push {H H1 H2 : Hp} {l : Addr} {most : Nat} {xs : List Int} (hn : H l = none) (N : NumAt H H1 l most xs) (e : Ex H1 H2) {x : Int} (h0 : 0 ≤ x) (h1 : x < 4096) (hl : xs.length < most) : NumAt H (upd H2 l (.lst (xs.map V.int ++ [V.int x]))) l most (xs ++ [x]) :=
  ⟨Ex.mut (N.ex.trans e) hn, by rw [upd_same, List.map_append]; rfl, fun y hy => by
    rcases List.mem_append.mp hy with h | h
    · exact N.all y h
    · rw [List.mem_singleton] at h
      subst h
      exact ⟨h0, h1⟩, by rw [List.length_append]; exact hl⟩
theorem NumAt.mono {H H1 H2 : Hp} {l : Addr} {most : Nat} {xs : List Int} (N : NumAt H H1 l most xs) (e : Ex H1 H2) : NumAt H H2 l most xs := ⟨N.ex.trans e, e _ _ N.at_, N.all, N.len⟩
theorem ok_numbers {f : Addr} {fd : FuncData} (F : Fun K "_law_numbers" "_law_numbers" s_law_numbers f fd) (m_len : mg "len" = none) (m_abs : mg "abs" = none) (m_int : mg "int" = none) (m_range : mg "range" = none) : FnOk P w K mg base CX0 1 f fd ["script", "first", "most"] (spNumbers K) := by
  refine F.ok sc_law_numbers (fun vs H Q E h => ?_) (fun cdv A outer s H vs Q E hr h => ?_)
  · obtain ⟨sa, ns, first, most, rfl, _⟩ := h
    rfl
  · obtain ⟨sa, ns, first, most, rfl, hS, hl, hf, hm, q⟩ := h
    refine ⟨_, (pss_cons (ps_set (i := 3) sc_law_numbers.nd rfl (.inl rfl) (pe_lst pa_nil))
        (pss_cons (ps_for PassesOwn.never rfl (pi_range2 (by rfl) m_range (pa_cons (pv 1) (pa_cons (pe_callB call_len (by rfl) m_len (by decide +kernel) (pa_cons (pv 0) pa_nil)) pa_nil))) (pg_name (i := 4) sc_law_numbers.nd rfl (.inl rfl)) (pss_cons (ps_set (i := 5) sc_law_numbers.nd rfl (.inl rfl) (pe_callB call_abs (by rfl) m_abs (by decide +kernel) (pa_cons (pe_ix ix_list (pv 0) (pv 4) (fun _ _ => rfl)) pa_nil)))
        (pss_one (ps_if (pt_cmpR op_ge (pv 5) pe_int (nomark _)) (pss_one (ps_for PassesOwn.never rfl (pi_range1 (by rfl) m_range (pa_cons pe_int pa_nil)) (pg_name (i := 6) sc_law_numbers.nd rfl (.inl rfl)) (pss_one (ps_if (PW.pt (pw_and (pt_cmpR op_gt (pv 5) pe_int (nomark _)) (pw_and1 (pt_cmpR op_lt (pe_callB call_len (by rfl) m_len (by decide +kernel) (pa_cons (pv 3) pa_nil)) (pv 2) (nomark _))))) (pss_cons (ps_expr (pe_bm PySem.F.plainAttrs_list PySem.F.slot_list_append PySem.F.type_list_append mt_append (pv 3) (pa_cons (pe_op op_mod (pe_callTy call_int1 (by rfl) m_int (by decide +kernel) (pa_cons (pv 5) pa_nil)) pe_int) pa_nil)))
        (pss_one (ps_set (i := 5) sc_law_numbers.nd rfl (.inl rfl) (pe_op op_fdiv (pv 5) pe_int)))) pss_nil)))) (pss_one (ps_if (pt_cmpR op_lt (pe_callB call_len (by rfl) m_len (by decide +kernel) (pa_cons (pv 3) pa_nil)) (pv 2) (nomark _)) (pss_cons (ps_set (i := 7) sc_law_numbers.nd rfl (.inl rfl) (pe_op op_mod (pe_callTy call_int1 (by rfl) m_int (by decide +kernel) (pa_cons (pe_op op_add (pe_op op_add (pe_op op_mulX (pv 5) pe_int) (pe_op op_mulX (pv 4) pe_int)) pe_int) pa_nil)) pe_int))
        (pss_cons (ps_set (i := 7) sc_law_numbers.nd rfl (.inl rfl) (pe_op op_mod (pe_callTy call_int1 (by rfl) m_int (by decide +kernel) (pa_cons (pe_op op_add (pe_op op_mulX (pv 7) pe_int) (pe_op op_fdiv (pv 7) pe_int)) pa_nil)) pe_int))
        (pss_one (ps_expr (pe_bm PySem.F.plainAttrs_list PySem.F.slot_list_append PySem.F.type_list_append mt_append (pv 3) (pa_cons (pe_op op_mod (pe_callTy call_int1 (by rfl) m_int (by decide +kernel) (pa_cons (pv 7) pa_nil)) pe_int) pa_nil)))))) pss_nil))))))
        (pss_one (ps_ret (pv 3))))), ?_⟩
    refine q_asgL (el_lst ea_nil (show 0 ≤ 100000 by decide)) fun l H1 nl e1 hl1 => ?_
    refine st_is (σ' := [_, _, _, _, _, _, _, _]) rfl ?_
    have nl0 : H l = none := nl
    have lenS : ∀ {H' : Hp}, Ex H H' → EvA (tCons (tVar 0) tNil) [some (.ref sa), some (.int (first : Int)), some (.int (most : Int)), some (.ref l), none, none, none, none] H' [.ref sa] := fun _ => ea_cons (ev_var rfl) ea_nil
    refine q_forR2 (lo := (first : Int)) (n := (ns.length : Int)) (ea_cons (ev_var rfl) (ea_cons (ev_is (ev_cb (ea_cons (ev_var rfl) ea_nil) (rc_lenL (ex_l e1 hS))) (congrArg V.int (by rw [List.length_map]))) ea_nil)) ⟨by omega, by omega, by omega, by omega⟩
      (fun i σ' H' => ∃ (x4 x5 x6 x7 : Option V) (xs : List Int), σ' = [some (.ref sa), some (.int (first : Int)), some (.int (most : Int)), some (.ref l), x4, x5, x6, x7] ∧ NumAt H H' l most xs) (fun H2 e2 => ⟨_, _, _, _, [], rfl, ⟨e1.trans e2, e2 _ _ hl1, fun x hx => by simp at hx, Nat.zero_le _⟩⟩) (fun i σ' H' hi pp => ?_) (fun σ' H' pp => ?_)
    · obtain ⟨x4, x5, x6, x7, xs, rfl, N⟩ := pp
      refine st_is (σ' := [_, _, _, _, _, _, _, _]) rfl ?_
      -- cell
      have hix : first + i < ns.length := by omega
      have hat : atI (ns.map V.int) ((first : Int) + (i : Int)) = some (.int (ns.getD (first + i) 0)) := by
        have := atI_cell (ns := ns) (j := first + i) hix
        rw [show ((first + i : Nat) : Int) = (first : Int) + (i : Int) by omega] at this
        exact this
      refine q_asg (ev_cb (ea_cons (ev_op (ev_var rfl) (ev_var rfl) (rv_ixL (ex_l N.ex hS) hat)) ea_nil) rc_abs) fun H2 e2 => ?_
      refine st_is (σ' := [_, _, _, _, _, _, _, _]) rfl ?_
      replace N := N.mono e2
      obtain ⟨c, hc⟩ : ∃ c : Nat, (ns.getD (first + i) 0).natAbs = c := ⟨_, rfl⟩
      rw [hc]
      refine s_if (b := decide ((1000000000000000000 : Int) ≤ (c : Int))) (et_test (ev_op (ev_var rfl) ev_c rv_I0)) (fun hb H3 e3 => ?_) (fun hb H3 e3 => ?_)
      · replace N := N.mono e3
        refine s_forR1 (n := 60) (ea_cons ev_c ea_nil) ⟨by decide, by decide⟩ (fun j σ' H' => ∃ (c5 : Nat) (x6 x7 : Option V) (xs : List Int), σ' = [some (.ref sa), some (.int (first : Int)), some (.int (most : Int)), some (.ref l), some (.int ((first : Int) + (i : Int))), some (.int (c5 : Int)), x6, x7] ∧ NumAt H H' l most xs) (fun H4 e4 => ⟨c, _, _, xs, rfl, N.mono e4⟩) (fun j σ' H' hj pp => ?_) (fun σ' H' pp => ?_)
        · obtain ⟨c5, x6, x7, xs, rfl, N⟩ := pp
          refine st_is (σ' := [_, _, _, _, _, _, _, _]) rfl ?_
          refine s_when (b := decide ((0 : Int) < (c5 : Int)) && decide ((xs.length : Int) < (most : Int))) (et_and (et_test (ev_op (ev_var rfl) ev_c rv_I0)) fun _ => (et_test (ev_op (ev_is (ev_cb (ea_cons (ev_var rfl) ea_nil) (rc_lenL (sq_of N.at_))) (congrArg V.int (by rw [List.length_map]))) (ev_var rfl) rv_I0))) (fun hb H4 e4 => ?_) (fun hb H4 e4 => ⟨c5, _, _, xs, rfl, N.mono e4⟩)
          rw [Bool.and_eq_true] at hb
          have hlt := of_decide_eq_true hb.2
          replace N := N.mono e4
          refine q_app N.at_ (ev_var rfl) (v := .int ((c5 : Int) % 4096)) (ev_op (ev_cb (ea_cons (ev_var rfl) ea_nil) rc_intI) ev_c (rv_I (by decide))) (by rw [List.length_map]; omega) fun H5 e5 => ?_
          have N2 := N.push nl0 e5 (x := (c5 : Int) % 4096) (by omega) (by omega) (by omega)
          refine s_asg (ev_is (ev_op (ev_var rfl) ev_c (rv_I ⟨by decide, by decide⟩)) (congrArg V.int (show (c5 : Int) / 4096 = ((c5 / 4096 : Nat) : Int) by omega))) fun H6 e6 => ⟨c5 / 4096, _, _, _, rfl, N2.mono e6⟩
        · obtain ⟨c5, x6, x7, xs, rfl, N⟩ := pp
          exact ⟨_, _, _, _, xs, rfl, N⟩
      · replace N := N.mono e3
        have hcb : c < 1000000000000000000 := by
          have := of_decide_eq_false hb
          omega
        refine s_when (b := decide ((xs.length : Int) < (most : Int))) (et_test (ev_op (ev_is (ev_cb (ea_cons (ev_var rfl) ea_nil) (rc_lenL (sq_of N.at_))) (congrArg V.int (by rw [List.length_map]))) (ev_var rfl) rv_I0)) (fun hb H4 e4 => ?_) (fun hb H4 e4 => ⟨_, _, _, _, xs, rfl, N.mono e4⟩)
        have hlt := of_decide_eq_true hb
        replace N := N.mono e4
        obtain ⟨m1, hm1, hm2⟩ : ∃ m : Int, ((c : Int) * 48271 + ((first : Int) + (i : Int)) * 69621 + 12345) % 2147483647 = m ∧ (0 ≤ m ∧ m < 2147483647) := ⟨_, rfl, by omega, by omega⟩
        refine q_asg (ev_is (ev_op (ev_cb (ea_cons (ev_op (ev_op (ev_op (ev_var rfl) ev_c (rv_I (mulx_ok (a := 60) (b := 16) (by omega) (by decide) (by decide)))) (ev_op (ev_var rfl) ev_c (rv_I (mulx_ok (a := 10) (b := 17) (by omega) (by decide) (by decide)))) rv_I0) ev_c rv_I0) ea_nil) rc_intI) ev_c (rv_I (by decide))) (congrArg V.int hm1)) fun H5 e5 => ?_
        refine st_is (σ' := [_, _, _, _, _, _, _, _]) rfl ?_
        obtain ⟨m2, hm3, hm4⟩ : ∃ m : Int, (m1 * 69621 + m1 / 1009) % 1000003 = m ∧ (0 ≤ m ∧ m < 1000003) := ⟨_, rfl, by omega, by omega⟩
        refine q_asg (ev_is (ev_op (ev_cb (ea_cons (ev_op (ev_op (ev_var rfl) ev_c (rv_I (mulx_ok (a := 31) (b := 17) (by omega) (by decide) (by decide)))) (ev_op (ev_var rfl) ev_c (rv_I ⟨by decide, by decide⟩)) rv_I0) ea_nil) rc_intI) ev_c (rv_I (by decide))) (congrArg V.int hm3)) fun H6 e6 => ?_
        refine st_is (σ' := [_, _, _, _, _, _, _, _]) rfl ?_
        replace N := N.mono (e5.trans e6)
        refine s_app N.at_ (ev_var rfl) (v := .int (m2 % 4096)) (ev_op (ev_cb (ea_cons (ev_var rfl) ea_nil) rc_intI) ev_c (rv_I (by decide))) (by rw [List.length_map]; omega) fun H7 e7 => ⟨_, _, _, _, _, rfl, N.push nl0 e7 (x := m2 % 4096) (by omega) (by omega) (by omega)⟩
    · obtain ⟨x4, x5, x6, x7, xs, rfl, N⟩ := pp
      refine s_ret (ev_var rfl) fun H3 e3 => q l H3 xs nl0 (N.ex.trans e3) (e3 _ _ N.at_) N.all N.len
def spFormula (K : PySem.W.Frag) : Sp := fun vs H Q _ => ∃ (na : Addr) (nums : List Int) (most : Nat), vs = [.ref na, .int (most : Int)] ∧ SqL K H na (nums.map V.int) ∧ (∀ x ∈ nums, 0 ≤ x ∧ Bd 2000000 x) ∧ nums ≠ [] ∧ 1 ≤ most ∧ most ≤ 100 ∧
  ∀ ss, OkForm ss → ss ≠ [] → ss.length ≤ most → RetF ss H Q
theorem item4 {x y : Int} {i : Int} (h : 0 ≤ i ∧ i < 4) (hx : 1 ≤ x) (hy : 1 ≤ y) : ∃ c : Int, atI [V.int 1, V.int 1, V.int x, V.int y] i = some (.int c) ∧ 1 ≤ c := by
  have h3 : i = 0 ∨ i = 1 ∨ i = 2 ∨ i = 3 := by omega
  rcases h3 with rfl | rfl | rfl | rfl
  · exact ⟨1, rfl, by decide⟩
  · exact ⟨1, rfl, by decide⟩
  · exact ⟨x, rfl, hx⟩
  · exact ⟨y, rfl, hy⟩
theorem itemW2 {i : Int} (h : 0 ≤ i ∧ i < 4) : ∃ x : Str, atI [V.str "add", V.str "subtract", V.str "times", V.str "divide"] i = some (.str x) ∧ x ∈ W2 := by
  have h3 : i = 0 ∨ i = 1 ∨ i = 2 ∨ i = 3 := by omega
  rcases h3 with rfl | rfl | rfl | rfl
  · exact ⟨_, rfl, by simp [W2]⟩
  · exact ⟨_, rfl, by simp [W2]⟩
  · exact ⟨_, rfl, by simp [W2]⟩
  · exact ⟨_, rfl, by simp [W2]⟩
theorem itemW1 {i : Int} (h : 0 ≤ i ∧ i < 8) : ∃ x : Str, atI [V.str "root", V.str "sine", V.str "cosine", V.str "exp", V.str "log", V.str "arctan", V.str "arcsine", V.str "arccosine"] i = some (.str x) ∧ x ∈ W1 := by
  have h3 : i = 0 ∨ i = 1 ∨ i = 2 ∨ i = 3 ∨ i = 4 ∨ i = 5 ∨ i = 6 ∨ i = 7 := by omega
  rcases h3 with rfl | rfl | rfl | rfl | rfl | rfl | rfl | rfl
  · exact ⟨_, rfl, by simp [W1]⟩
  · exact ⟨_, rfl, by simp [W1]⟩
  · exact ⟨_, rfl, by simp [W1]⟩
  · exact ⟨_, rfl, by simp [W1]⟩
  · exact ⟨_, rfl, by simp [W1]⟩
  · exact ⟨_, rfl, by simp [W1]⟩
  · exact ⟨_, rfl, by simp [W1]⟩
  · exact ⟨_, rfl, by simp [W1]⟩
theorem ok_formula {f : Addr} {fd : FuncData} (F : Fun K "_law_formula" "_law_formula" s_law_formula f fd) (m_len : mg "len" = none) (m_max : mg "max" = none) (m_int : mg "int" = none) (m_tuple : mg "tuple" = none) : FnOk P w K mg base CX0 1 f fd ["numbers", "most"] (spFormula K) := by
  refine F.ok sc_law_formula (fun vs H Q E h => ?_) (fun cdv A outer s H vs Q E hr h => ?_)
  · obtain ⟨na, nums, most, rfl, _⟩ := h
    rfl
  · obtain ⟨na, nums, most, rfl, hN, hall, hne, hm1, hm2, q⟩ := h
    refine ⟨_, (pss_cons (ps_set (i := 2) sc_law_formula.nd rfl (.inl rfl) (pe_lst pa_nil))
        (pss_cons (ps_for PassesOwn.never rfl (pi_list (pe_slice sl_list (pv 0) po_none (po_some (pv 1)))) (pg_name (i := 3) sc_law_formula.nd rfl (.inl rfl)) (pss_cons (ps_set (i := 4) sc_law_formula.nd rfl (.inl rfl) (pe_op op_mod (pe_callTy call_int1 (by rfl) m_int (by decide +kernel) (pa_cons (pv 3) pa_nil)) pe_int))
        (pss_cons (ps_set (i := 5) sc_law_formula.nd rfl (.inl rfl) (pe_op op_fdiv (pe_callTy call_int1 (by rfl) m_int (by decide +kernel) (pa_cons (pv 3) pa_nil)) pe_int))
        (pss_cons (ps_set (i := 6) sc_law_formula.nd rfl (.inl rfl) (pe_op op_mod (pe_callTy call_int1 (by rfl) m_int (by decide +kernel) (pa_cons (pv 5) pa_nil)) (pe_callB (call_max2 rfl) (by rfl) m_max (by decide +kernel) (pa_cons pe_int (pa_cons (pe_callB call_len (by rfl) m_len (by decide +kernel) (pa_cons (pv 2) pa_nil)) pa_nil)))))
        (pss_cons (ps_set (i := 7) sc_law_formula.nd rfl (.inl rfl) (pe_op op_mod (pe_op op_fdiv (pv 5) pe_int) (pe_callB (call_max2 rfl) (by rfl) m_max (by decide +kernel) (pa_cons pe_int (pa_cons (pe_callB call_len (by rfl) m_len (by decide +kernel) (pa_cons (pv 2) pa_nil)) pa_nil)))))
        (pss_one (ps_if (PW.pt (pw_or (pt_cmpR op_lt (pv 4) pe_int (nomark _)) (pw_or1 (pt_cmpR (op_eqD hr.units) (pv 2) (pe_lst pa_nil) (nomark _))))) (pss_one (ps_expr (pe_bm PySem.F.plainAttrs_list PySem.F.slot_list_append PySem.F.type_list_append mt_append (pv 2) (pa_cons (pe_tup (pa_cons pe_str (pa_cons (pe_op op_sub (pe_op op_mod (pe_op op_mulX (pe_callTy call_int1 (by rfl) m_int (by decide +kernel) (pa_cons (pv 5) pa_nil)) pe_int) pe_int) pe_int) (pa_cons (pe_ix ix_list (pe_lst (pa_cons pe_int (pa_cons pe_int (pa_cons (pe_op op_add pe_int (pe_op op_mod (pe_op op_fdiv (pv 5) pe_int) pe_int)) (pa_cons (pe_op op_add pe_int (pe_op op_mod (pe_op op_mulX (pe_callTy call_int1 (by rfl) m_int (by decide +kernel) (pa_cons (pv 5) pa_nil)) pe_int) pe_int)) pa_nil))))) (pe_op op_mod (pe_op op_fdiv (pv 5) pe_int) pe_int) (fun _ _ => rfl)) pa_nil)))) pa_nil)))) (pss_one (ps_if (pt_cmpR op_eq (pv 4) pe_int (nomark _)) (pss_one (ps_expr (pe_bm PySem.F.plainAttrs_list PySem.F.slot_list_append PySem.F.type_list_append mt_append (pv 2) (pa_cons (pe_tup (pa_cons pe_str pa_nil)) pa_nil)))) (pss_one (ps_if (pt_cmpR op_lt (pv 4) pe_int (nomark _)) (pss_one (ps_expr (pe_bm PySem.F.plainAttrs_list PySem.F.slot_list_append PySem.F.type_list_append mt_append (pv 2) (pa_cons (pe_tup (pa_cons (pe_ix ix_list (pe_lst (pa_cons pe_str (pa_cons pe_str (pa_cons pe_str (pa_cons pe_str pa_nil))))) (pe_op op_sub (pv 4) pe_int) (fun _ _ => rfl)) (pa_cons (pv 6) (pa_cons (pv 7) pa_nil)))) pa_nil)))) (pss_one (ps_expr (pe_bm PySem.F.plainAttrs_list PySem.F.slot_list_append PySem.F.type_list_append mt_append (pv 2) (pa_cons (pe_tup (pa_cons (pe_ix ix_list (pe_lst (pa_cons pe_str (pa_cons pe_str (pa_cons pe_str (pa_cons pe_str (pa_cons pe_str (pa_cons pe_str (pa_cons pe_str (pa_cons pe_str pa_nil))))))))) (pe_op op_sub (pv 4) pe_int) (fun _ _ => rfl)) (pa_cons (pv 6) pa_nil))) pa_nil)))))))))))))))
        (pss_one (ps_ret (pe_callTy call_tuple_of (by rfl) m_tuple (by decide +kernel) (pa_cons (pv 2) pa_nil)))))), ?_⟩
    refine q_asgL (el_lst ea_nil (show 0 ≤ 100000 by decide)) fun l H1 nl e1 hl1 => ?_
    refine st_is (σ' := [_, _, _, _, _, _, _, _]) rfl ?_
    have hsl := el_sl (σ := [some (.ref na), some (.int (most : Int)), some (.ref l), none, none, none, none, none]) (te := tVar 0) (th := tPart (tVar 1)) (ev_var rfl) eo_none (eo_some (ev_var rfl)) (ex_l e1 hN)
    rw [cut_take, ← List.map_take] at hsl
    have hall2 : ∀ x ∈ nums.take most, 0 ≤ x ∧ Bd 2000000 x := fun x hx => hall x (List.mem_of_mem_take hx)
    have hlen : (nums.take most).length ≤ most := by
      rw [List.length_take]
      omega
    have hlen2 : 0 < (nums.take most).length := by
      have := List.length_pos_iff.mpr hne
      rw [List.length_take]
      omega
    generalize nums.take most = nus at *
    refine q_forNLn hsl (fun p i σ' H' => p ≠ l ∧ H' p = some (.lst (nus.map V.int)) ∧ ∃ (x3 x4 x5 x6 x7 : Option V) (us : List V) (ss : List FStep), σ' = [some (.ref na), some (.int (most : Int)), some (.ref l), x3, x4, x5, x6, x7] ∧ FoAt H H' l us ss ∧ OkForm ss ∧ ss.length = i)
      (fun p H2 hp e2 h2 => ⟨(fun z => by rw [z, hl1] at hp; cases hp), h2, _, _, _, _, _, [], [], rfl, ⟨e1.trans e2, e2 _ _ hl1, .nil⟩, OkForm.nil, rfl⟩) (fun p i σ' H' _ pp => sq_of pp.2.1) (fun p i x σ' H' hx pp => ?_) (fun p σ' H' pp => ?_)
    · obtain ⟨hpl, hp, x3, x4, x5, x6, x7, us, ss, rfl, F, hok, hsl2⟩ := pp
      obtain ⟨n, hn, rfl⟩ : ∃ n, nus[i]? = some n ∧ x = V.int n := by
        rw [List.getElem?_map] at hx
        obtain ⟨n, h1, h2⟩ := Option.map_eq_some_iff.mp hx
        exact ⟨n, h1, h2.symm⟩
      obtain ⟨n0, nb⟩ := hall2 n (List.mem_of_getElem? hn)
      have hi100 : ss.length ≤ 100 := by
        have := (List.getElem?_eq_some_iff.mp hn).1
        omega
      refine st_is (σ' := [_, _, _, _, _, _, _, _]) rfl ?_
      -- kind, a, i, j
      obtain ⟨kd, hkd, hkd2⟩ : ∃ k : Int, n % 16 = k ∧ 0 ≤ k ∧ k < 16 := ⟨_, rfl, by omega, by omega⟩
      refine q_asg (ev_is (ev_op (ev_cb (ea_cons (ev_var rfl) ea_nil) rc_intI) ev_c (rv_I (by decide))) (congrArg V.int hkd)) fun H2 e2 => ?_
      refine st_is (σ' := [_, _, _, _, _, _, _, _]) rfl ?_
      have hab : Bd 2000000 (n / 16) := ab_div (by decide) nb
      obtain ⟨a, ha, ha0⟩ : ∃ a : Int, n / 16 = a ∧ 0 ≤ a := ⟨_, rfl, by omega⟩
      rw [ha] at hab
      refine q_asg (ev_is (ev_op (ev_cb (ea_cons (ev_var rfl) ea_nil) rc_intI) ev_c (rv_I ⟨by decide, by decide⟩)) (congrArg V.int ha)) fun H3 e3 => ?_
      refine st_is (σ' := [_, _, _, _, _, _, _, _]) rfl ?_
      replace F := F.mono (e2.trans e3)
      replace hp := (e2.trans e3) _ _ hp
      obtain ⟨M, hM, hM0, hM1⟩ : ∃ M : Int, max 1 (us.length : Int) = M ∧ 0 < M ∧ (0 < ss.length → M = (ss.length : Int)) := ⟨_, rfl, by omega, by have := F.st.1; omega⟩
      have evM : ∀ {σ : L2.St} {H' : Hp}, σ[2]? = some (some (.ref l)) → Ex H3 H' → Ev (tCB (fun xs H Q => ∃ i j, xs = [.int i, .int j] ∧ Q (.int (if j > i then j else i)) H) (tCons (tC (.int 1)) (tCons (tCB (fun xs H Q => ∃ x n, xs = [x] ∧ LenV K x H n ∧ Q (.int n) H) (tCons (tVar 2) tNil)) tNil))) σ H' (.int M) := fun h e => by
        rw [← hM]
        exact ev_cb (ea_cons ev_c (ea_cons (ev_cb (ea_cons (ev_var h) ea_nil) (rc_lenL (sq_of (e _ _ F.at_)))) ea_nil)) rc_max2
      obtain ⟨ii, hii, hi0, hi1⟩ : ∃ k : Int, a % M = k ∧ 0 ≤ k ∧ k < M := ⟨_, rfl, Int.emod_nonneg _ (by omega), Int.emod_lt_of_pos _ hM0⟩
      refine q_asg (ev_is (ev_op (ev_cb (ea_cons (ev_var rfl) ea_nil) rc_intI) (evM rfl (Ex.refl _)) (rv_I hM0)) (congrArg V.int hii)) fun H4 e4 => ?_
      refine st_is (σ' := [_, _, _, _, _, _, _, _]) rfl ?_
      obtain ⟨jj, hjj, hj0, hj1⟩ : ∃ k : Int, a / 16 % M = k ∧ 0 ≤ k ∧ k < M := ⟨_, rfl, Int.emod_nonneg _ (by omega), Int.emod_lt_of_pos _ hM0⟩
      refine q_asg (ev_is (ev_op (ev_op (ev_var rfl) ev_c (rv_I ⟨by decide, by decide⟩)) (evM rfl e4) (rv_I hM0)) (congrArg V.int hjj)) fun H5 e5 => ?_
      refine st_is (σ' := [_, _, _, _, _, _, _, _]) rfl ?_
      replace F := F.mono (e4.trans e5)
      replace hp := (e4.trans e5) _ _ hp
      clear evM
      have hus : us.length < 100000 := by
        have := F.st.1
        omega
      -- what each way ends in
      have done : ∀ {q : Addr} {H6 : Hp} {st : FStep}, Ex H5 H6 → H6 q = some (.tup (stV st)) → OkStep ss.length st → (p ≠ l ∧ (upd H6 l (.lst (us ++ [.ref q]))) p = some (.lst (nus.map V.int)) ∧ ∃ (x3 x4 x5 x6 x7 : Option V) (us' : List V) (ss' : List FStep), [some (V.ref na), some (.int (most : Int)), some (.ref l), some (.int n), some (.int kd), some (.int a), some (.int ii), some (.int jj)] = [some (.ref na), some (.int (most : Int)), some (.ref l), x3, x4, x5, x6, x7] ∧ FoAt H (upd H6 l (.lst (us ++ [.ref q]))) l us' ss' ∧ OkForm ss' ∧ ss'.length = i + 1) := fun {q H6 st} e6 h6 hs => by
        refine ⟨hpl, ?_, _, _, _, _, _, _, _, rfl, F.push nl e6 ⟨q, rfl, h6⟩, hok.snoc hs, ?_⟩
        · rw [upd_ne hpl]
          exact e6 _ _ hp
        · rw [List.length_append, hsl2]
          rfl
      by_cases hA : kd < 3 ∨ ss = []
      · refine s_if (b := true) (et_is (et_or (et_test (ev_op (ev_var rfl) ev_c rv_I0)) fun _ => (et_test (ev_isEmpty F.at_ F.st hok.oks (ev_var rfl)))) (by
          rcases hA with h | h
          · rw [decide_eq_true h]
            rfl
          · rw [h]
            exact Bool.or_true _)) (fun _ H6 e6 => ?_) (fun hb => nomatch hb)
        obtain ⟨c, hc, hc1⟩ := item4 (x := 1 + a / 512 % 60) (y := 1 + a * 7 % 60) (i := a / 4 % 4) ⟨by omega, by omega⟩ (by omega) (by omega)
        replace F := F.mono e6
        refine s_appU (ys := stV (("number" : Str), [a * 41 % 401 - 200, c])) F.at_ (ev_var rfl) (eu_tup (ea_cons ev_c (ea_cons (ev_op (ev_op (ev_op (ev_cb (ea_cons (ev_var rfl) ea_nil) rc_intI) ev_c (rv_I (mulx_ok (b := 6) hab (by decide) (by decide)))) ev_c (rv_I (by decide))) ev_c rv_I0)
          (ea_cons (ev_opL1 (el_lst (ea_cons ev_c (ea_cons ev_c (ea_cons (ev_op ev_c (ev_op (ev_op (ev_var rfl) ev_c (rv_I ⟨by decide, by decide⟩)) ev_c (rv_I (by decide))) rv_I0) (ea_cons (ev_op ev_c (ev_op (ev_op (ev_cb (ea_cons (ev_var rfl) ea_nil) rc_intI) ev_c (rv_I (mulx_ok (b := 6) hab (by decide) (by decide)))) ev_c (rv_I (by decide))) rv_I0) ea_nil)))) (show 4 ≤ 100000 by decide))
            (fun _ _ => ev_op (ev_op (ev_var rfl) ev_c (rv_I ⟨by decide, by decide⟩)) ev_c (rv_I (by decide))) (fun _ _ hp _ => rv_ixL (sq_of hp) hc)) ea_nil))) (show 3 ≤ 100000 by decide)) hus fun q H7 _ e7 h7 => ?_
        exact done (e6.trans e7) h7 (.inl ⟨_, c, rfl, hc1⟩)
      · have hA1 : ¬ kd < 3 := fun z => hA (.inl z)
        have hA2 : ss ≠ [] := fun z => hA (.inr z)
        have hss : 0 < ss.length := List.length_pos_iff.mpr hA2
        have hMs := hM1 hss
        refine s_if (b := false) (et_is (et_or (et_test (ev_op (ev_var rfl) ev_c rv_I0)) fun _ => (et_test (ev_isEmpty F.at_ F.st hok.oks (ev_var rfl)))) (by
          rw [decide_eq_false hA1, Bool.false_or]
          cases ss with
          | nil => exact absurd rfl hA2
          | cons x r => rfl)) (fun hb => nomatch hb) (fun _ H6 e6 => ?_)
        replace F := F.mono e6
        by_cases hB : kd = 3
        · refine s_if (b := true) (et_is (et_test (ev_op (ev_var rfl) ev_c (rv_eq rfl))) (decide_eq_true (congrArg V.int hB))) (fun _ H7 e7 => ?_) (fun hb => nomatch hb)
          replace F := F.mono e7
          refine s_appU (ys := stV (("pi" : Str), [])) F.at_ (ev_var rfl) (eu_tup (ea_cons ev_c ea_nil) (show 1 ≤ 100000 by decide)) hus fun q H8 _ e8 h8 => ?_
          exact done ((e6.trans e7).trans e8) h8 (.inr (.inl rfl))
        · refine s_if (b := false) (et_is (et_test (ev_op (ev_var rfl) ev_c (rv_eq rfl))) (decide_eq_false fun z => hB (V.int.inj z))) (fun hb => nomatch hb) (fun _ H7 e7 => ?_)
          replace F := F.mono e7
          by_cases hC : kd < 8
          · refine s_if (b := true) (et_is (et_test (ev_op (ev_var rfl) ev_c rv_I0)) (decide_eq_true hC)) (fun _ H8 e8 => ?_) (fun hb => nomatch hb)
            replace F := F.mono e8
            obtain ⟨x, hx2, hxw⟩ := itemW2 (i := kd - 4) ⟨by omega, by omega⟩
            refine s_appU (ys := stV (x, [ii, jj])) F.at_ (ev_var rfl) (eu_tup (ea_cons (ev_opL1 (el_lst (ea_cons ev_c (ea_cons ev_c (ea_cons ev_c (ea_cons ev_c ea_nil)))) (show 4 ≤ 100000 by decide)) (fun _ _ => ev_op (ev_var rfl) ev_c rv_I0) (fun _ _ hp _ => rv_ixL (sq_of hp) hx2)) (ea_cons (ev_var rfl) (ea_cons (ev_var rfl) ea_nil))) (show 3 ≤ 100000 by decide)) hus fun q H9 _ e9 h9 => ?_
            exact done (((e6.trans e7).trans e8).trans e9) h9 (.inr (.inr (.inl ⟨x, ii, jj, hxw, rfl, ⟨hi0, by omega⟩, ⟨hj0, by omega⟩⟩)))
          · refine s_if (b := false) (et_is (et_test (ev_op (ev_var rfl) ev_c rv_I0)) (decide_eq_false hC)) (fun hb => nomatch hb) (fun _ H8 e8 => ?_)
            replace F := F.mono e8
            obtain ⟨x, hx2, hxw⟩ := itemW1 (i := kd - 8) ⟨by omega, by omega⟩
            refine s_appU (ys := stV (x, [ii])) F.at_ (ev_var rfl) (eu_tup (ea_cons (ev_opL1 (el_lst (ea_cons ev_c (ea_cons ev_c (ea_cons ev_c (ea_cons ev_c (ea_cons ev_c (ea_cons ev_c (ea_cons ev_c (ea_cons ev_c ea_nil)))))))) (show 8 ≤ 100000 by decide)) (fun _ _ => ev_op (ev_var rfl) ev_c rv_I0) (fun _ _ hp _ => rv_ixL (sq_of hp) hx2)) (ea_cons (ev_var rfl) ea_nil)) (show 2 ≤ 100000 by decide)) hus fun q H9 _ e9 h9 => ?_
            exact done (((e6.trans e7).trans e8).trans e9) h9 (.inr (.inr (.inr ⟨x, ii, hxw, rfl, ⟨hi0, by omega⟩⟩)))
    · obtain ⟨hpl, hp, x3, x4, x5, x6, x7, us, ss, rfl, F, hok, hsl2⟩ := pp
      rw [List.length_map] at hsl2
      have hne2 : ss ≠ [] := fun z => by
        rw [z] at hsl2
        simp at hsl2
        omega
      refine ⟨_, rfl, l, us, rfl, .inl ⟨sq_of F.at_, fun r hr2 => ?_⟩⟩
      exact q ss hok hne2 (by omega) r _ us (fresh_back F.ex hr2) (F.ex.trans (Ex.new hr2)) upd_same (F.st.mono (Ex.new hr2))
/-! ### the law's own rules -/
def spLMv (K : PySem.W.Frag) : Sp := fun vs H Q _ => ∃ (v : V) (st : FStep) (pl : Addr) (f : Nat → Nat) (n : Nat), vs = [v, .ref pl] ∧ StepAt H v st ∧ OkStep n st ∧ (∀ i ∈ ix st, ∀ H1, Ex H H1 → RV (rLD K) (.ref pl) (.int (i : Nat)) H1 (.int (f i : Nat))) ∧ RetS (ren f st) H Q
theorem ok_lmoved {f : Addr} {fd : FuncData} (F : Fun K "_law_moved" "_law_moved" s_law_moved f fd) (m_len : mg "len" = none) : FnOk P w K mg base CX0 1 f fd ["step", "places"] (spLMv K) := by
  refine F.ok sc_law_moved (fun vs H Q E h => ?_) (fun cdv A outer s H vs Q E hr h => ?_)
  · obtain ⟨v, st, pl, g, n, rfl, _⟩ := h
    rfl
  · obtain ⟨v, st, pl, g, n, rfl, hst, hok, hpl, q⟩ := h
    obtain ⟨p, rfl, hp⟩ := hst
    refine ⟨_, (pss_cons (ps_if (pt_cmpR op_in_seq (pe_ix ix_tup (pv 0) pe_int (fun _ _ => rfl)) (pe_tup (pa_cons pe_str (pa_cons pe_str pa_nil))) (by rfl)) (pss_one (ps_ret (pv 0))) pss_nil)
        (pss_cons (ps_if (pt_cmpR op_eq (pe_callB call_len (by rfl) m_len (by decide +kernel) (pa_cons (pv 0) pa_nil)) pe_int (nomark _)) (pss_one (ps_ret (pe_tup (pa_cons (pe_ix ix_tup (pv 0) pe_int (fun _ _ => rfl)) (pa_cons (pe_ix (r := rLD K) (ix_ld (hu_of hr)) (pv 1) (pe_ix ix_tup (pv 0) pe_int (fun _ _ => rfl)) (fun _ _ => rfl)) pa_nil))))) pss_nil)
        (pss_one (ps_ret (pe_tup (pa_cons (pe_ix ix_tup (pv 0) pe_int (fun _ _ => rfl)) (pa_cons (pe_ix (r := rLD K) (ix_ld (hu_of hr)) (pv 1) (pe_ix ix_tup (pv 0) pe_int (fun _ _ => rfl)) (fun _ _ => rfl)) (pa_cons (pe_ix (r := rLD K) (ix_ld (hu_of hr)) (pv 1) (pe_ix ix_tup (pv 0) pe_int (fun _ _ => rfl)) (fun _ _ => rfl)) pa_nil)))))))), ?_⟩
    have t_step : SqT K H p (stV st) := st_of hp
    have evIn : ∀ (wd : Str), st.1 = wd → EvT (tTest (tOp (rIn K false) (tOp (rIxT K) (tVar 0) (tC (.int 0))) (tTup (tCons (tC (.str "number")) (tCons (tC (.str "pi")) tNil))))) [some (.ref p), some (.ref pl)] H (inV (.str wd) [.str "number", .str "pi"]) := fun wd hwd => by
      rw [← hwd]
      exact et_test (ev_inU (ev_op (ev_var rfl) ev_c (rv_ixT t_step (at0 st))) (eu_tup (ea_cons ev_c (ea_cons ev_c ea_nil)) (show 2 ≤ 100000 by decide)) rfl rfl)
    rcases hok with ⟨p0, q0, rfl, h⟩ | rfl | ⟨x, i, j, hx, rfl, h1, h2⟩ | ⟨x, i, hx, rfl, h1⟩
    · refine q_when (b := true) (et_is (evIn "number" rfl) (by decide +kernel)) (fun _ H4 e4 => ?_) (fun hb => nomatch hb)
      exact s_ret (ev_var rfl) fun H5 e5 => q _ _ (e4.trans e5) ⟨p, rfl, (e4.trans e5) _ _ hp⟩
    · refine q_when (b := true) (et_is (evIn "pi" rfl) (by decide +kernel)) (fun _ H4 e4 => ?_) (fun hb => nomatch hb)
      exact s_ret (ev_var rfl) fun H5 e5 => q _ _ (e4.trans e5) ⟨p, rfl, (e4.trans e5) _ _ hp⟩
    · have hnum : x ≠ "number" := w2_nn x hx
      have hno : inV (.str x) [.str "number", .str "pi"] = false := w2_all (P := fun wd => inV (.str wd) [.str "number", .str "pi"] = false) ⟨by decide +kernel, by decide +kernel, by decide +kernel, by decide +kernel⟩ x hx
      obtain ⟨i, rfl⟩ := Int.eq_ofNat_of_zero_le h1.1
      obtain ⟨j, rfl⟩ := Int.eq_ofNat_of_zero_le h2.1
      have ei : ix (x, [(i : Int), (j : Int)]) = [i, j] := by
        unfold ix
        rw [if_neg hnum]
        rfl
      rw [ei] at hpl
      refine q_when (b := false) (et_is (evIn x rfl) hno) (fun hb => nomatch hb) (fun _ H4 e4 => ?_)
      replace t_step := ex_t e4 t_step
      refine q_when (b := false) (et_is (et_test (ev_op (ev_cb (ea_cons (ev_var rfl) ea_nil) (rc_lenT (K := K) t_step)) ev_c (rv_eq rfl))) (show decide (V.int 3 = V.int 2) = false by decide)) (fun hb => nomatch hb) (fun _ H5 e5 => ?_)
      replace t_step := ex_t e5 t_step
      have e45 := e4.trans e5
      refine s_retU (eu_tup (ea_cons (ev_op (ev_var rfl) ev_c (rv_ixT t_step rfl)) (ea_cons (ev_op (ev_var rfl) (ev_op (ev_var rfl) ev_c (rv_ixT t_step rfl)) (hpl i (by simp) H5 e45)) (ea_cons (ev_op (ev_var rfl) (ev_op (ev_var rfl) ev_c (rv_ixT t_step rfl)) (hpl j (by simp) H5 e45)) ea_nil))) (show 3 ≤ 100000 by decide)) fun a H6 na e6 ha => q _ _ (e45.trans e6) ⟨a, rfl, ?_⟩
      rw [ha]
      unfold ren stV
      rw [if_neg hnum]
      rfl
    · have hnum : x ≠ "number" := w1_nn x hx
      have hno : inV (.str x) [.str "number", .str "pi"] = false := w1_all (P := fun wd => inV (.str wd) [.str "number", .str "pi"] = false) ⟨by decide +kernel, by decide +kernel, by decide +kernel, by decide +kernel, by decide +kernel, by decide +kernel, by decide +kernel, by decide +kernel⟩ x hx
      obtain ⟨i, rfl⟩ := Int.eq_ofNat_of_zero_le h1.1
      have ei : ix (x, [(i : Int)]) = [i] := by
        unfold ix
        rw [if_neg hnum]
        rfl
      rw [ei] at hpl
      refine q_when (b := false) (et_is (evIn x rfl) hno) (fun hb => nomatch hb) (fun _ H4 e4 => ?_)
      replace t_step := ex_t e4 t_step
      refine q_when (b := true) (et_is (et_test (ev_op (ev_cb (ea_cons (ev_var rfl) ea_nil) (rc_lenT (K := K) t_step)) ev_c (rv_eq rfl))) (show decide (V.int 2 = V.int 2) = true by decide)) (fun _ H5 e5 => ?_) (fun hb => nomatch hb)
      replace t_step := ex_t e5 t_step
      have e45 := e4.trans e5
      refine s_retU (eu_tup (ea_cons (ev_op (ev_var rfl) ev_c (rv_ixT t_step rfl)) (ea_cons (ev_op (ev_var rfl) (ev_op (ev_var rfl) ev_c (rv_ixT t_step rfl)) (hpl i (by simp) H5 e45)) ea_nil)) (show 2 ≤ 100000 by decide)) fun a H6 na e6 ha => q _ _ (e45.trans e6) ⟨a, rfl, ?_⟩
      rw [ha]
      unfold ren stV
      rw [if_neg hnum]
      rfl
theorem ok_linteger {f : Addr} {fd : FuncData} (F : Fun K "_law_is_integer" "_law_is_integer" s_law_is_integer f fd) (m_isinstance : mg "isinstance" = none) (m_int : mg "int" = none) (m_bool : mg "bool" = none) : FnOk P w K mg base CX0 1 f fd ["actual"] spInteger := by
  refine F.ok sc_law_is_integer (fun vs H Q E h => ?_) (fun cdv A outer s H vs Q E hr h => ?_)
  · obtain ⟨i, rfl, _⟩ := h
    rfl
  · obtain ⟨i, rfl, q⟩ := h
    refine ⟨_, (pss_one (ps_ret (pe_and (pe_callB call_isi (by rfl) m_isinstance (by decide +kernel) (pa_cons (pv 0) (pa_cons (pe_bltn (by rfl) m_int (by decide +kernel) (show RelV (.ty "int") _ from rfl)) pa_nil))) (pe_one (pe_not (pe_callB call_isi (by rfl) m_isinstance (by decide +kernel) (pa_cons (pv 0) (pa_cons (pe_bltn (by rfl) m_bool (by decide +kernel) (show RelV (.ty "bool") _ from rfl)) pa_nil)))))))), ?_⟩
    exact s_ret (ev_is (ev_andV (ev_cb (ea_cons (ev_var rfl) (ea_cons ev_c ea_nil)) (rc_isiI (K := K))) fun _ => ev_notV (ev_cb (ea_cons (ev_var rfl) (ea_cons ev_c ea_nil)) (rc_isiIB (K := K)))) rfl) q
/-- equal steps are equal data -/
theorem eqv_ints : ∀ l m : List Int, PyData.eqvAll (l.map PyData.int) (m.map PyData.int) = decide (l = m)
  | [], [] => rfl
  | [], _ :: _ => rfl
  | _ :: _, [] => rfl
  | a :: l, b :: m => by
    have e : PyData.eqvAll ((a :: l).map PyData.int) ((b :: m).map PyData.int) = ((a == b) && PyData.eqvAll (l.map PyData.int) (m.map PyData.int)) := by simp only [List.map_cons, PyData.eqv, PyData.eqvAll]
    rw [e, eqv_ints l m]
    by_cases h1 : a = b
    · by_cases h2 : l = m
      · simp [h1, h2]
      · simp [h1, h2]
    · simp [h1]
theorem eqv_st (s t : FStep) : PyData.eqv (stD s) (stD t) = decide (s = t) := by
  obtain ⟨a, l⟩ := s
  obtain ⟨b, m⟩ := t
  have e : PyData.eqv (stD (a, l)) (stD (b, m)) = ((a == b) && PyData.eqvAll (l.map PyData.int) (m.map PyData.int)) := by simp only [stD, PyData.eqv, PyData.eqvAll]
  rw [e, eqv_ints]
  by_cases h1 : a = b
  · by_cases h2 : l = m
    · simp [h1, h2]
    · simp [h1, h2]
  · simp [h1]
theorem any_st (ss : List FStep) (s : FStep) : ((ss.map stD).any fun z => PyData.eqv z (stD s)) = decide (s ∈ ss) := by
  induction ss with
  | nil => rfl
  | cons t r ih =>
    rw [List.map_cons, List.any_cons, ih, eqv_st]
    by_cases h : t = s
    · simp [h]
    · have h2 : ¬ s = t := fun z => h z.symm
      simp [h, h2]
theorem sh_step {s : FStep} (h : OkS s) : SeqAt.shaped (stD s) = true := by
  unfold SeqAt.shaped
  rw [lay_st h, dep_st]
  decide
/-- moved not in kept -/
theorem et_notin {σ : L2.St} {H : Hp} {ta tb : TE} {p : Addr} {us : List V} {ss : List FStep} {v : V} {s : FStep} (ha : Ev ta σ H v) (hb : Ev tb σ H (.ref p)) (hv : StepAt H v s) (hp : H p = some (.lst us)) (hs : StepsAt H us ss) (o1 : OkS s) (o2 : ∀ t ∈ ss, OkS t) : EvT (tTest (tOp (rNotInD K) ta tb)) σ H (!decide (s ∈ ss)) :=
  et_test (ev_op ha hb fun H1 e Q q => ⟨stD s, ss.map stD, (hv.mono e).dp, .lst (sq_of (e _ _ hp)) (hs.mono e).dp, sh_step o1, sh_list o2, by
    rw [any_st]
    exact q H1 (Ex.refl _)⟩)
/-- kept.index(moved), raw -/
theorem idx_d {H : Hp} {p : Addr} {us : List V} {ss : List FStep} {v : V} {s : FStep} {Q : VK} (hv : StepAt H v s) (hp : H p = some (.lst us)) (hs : StepsAt H us ss) (o1 : OkS s) (o2 : ∀ t ∈ ss, OkS t) (hm : s ∈ ss) (q : Q (.int (ss.idxOf s : Nat)) H) : rIndexD K (.ref p) [v] H Q := by
  have hlt := List.idxOf_lt_length_of_mem hm
  refine ⟨p, v, stD s, ss.map stD, ss.idxOf s, stD s, rfl, rfl, .lst (sq_of hp) hs.dp, hv.dp, sh_list o2, sh_step o1, ?_, ?_, fun m z' hm2 hz => ?_, q⟩
  · rw [List.getElem?_map, List.getElem?_eq_getElem hlt, List.getElem_idxOf hlt]
    rfl
  · rw [eqv_st]
    exact decide_eq_true rfl
  · rw [List.getElem?_map] at hz
    obtain ⟨t, h1, rfl⟩ := Option.map_eq_some_iff.mp hz
    rw [eqv_st]
    refine decide_eq_false fun e => ?_
    obtain ⟨h2, h3⟩ := List.getElem?_eq_some_iff.mp h1
    have h4 : (ss[m]'h2 == s) = false := List.not_of_lt_findIdx (p := (· == s)) (xs := ss) (show m < ss.findIdx (· == s) from hm2)
    rw [show ss[m]'h2 = s from h3.trans e] at h4
    simp at h4
/-- tuple([e for x in xs]), e a step each -/
theorem ef_lc {tl te : TE} {σ : L2.St} {H : Hp} {a : Addr} {xs : List V} {ss : List FStep} {j : Nat} {ws : List Nat} (h : Ev tl σ H (.ref a)) (hx : SqL K H a xs) (hl : xs.length = ss.length) (hz : ss.length ≤ 1000) (hw : ∀ x, wipe ((wipe σ ws).set j (some x)) ws = wipe σ ws)
    (he : ∀ (i : Nat) (x : V) (s : FStep) H1, Ex H H1 → xs[i]? = some x → ss[i]? = some s → ∀ Q : VK, (∀ v H2, Ex H1 H2 → StepAt H2 v s → Q v H2) → te ((wipe σ ws).set j (some x)) H1 Q) :
    EvF (tCB (fun xs H Q => ∃ p ys, xs = [.ref p] ∧ ((SqL K H p ys ∧ ∀ l, H l = none → Q (.ref l) (upd H l (.tup ys))) ∨ (SqT K H p ys ∧ Q (.ref p) H))) (tCons (tLc (iList K tl) (gName j) tYes te ws) tNil)) σ H ss := fun H0 e Q q =>
  h H0 e _ fun H1 e1 => ⟨a, rfl, ⟨xs, ex_l (e.trans e1) hx⟩, fun Dl hD =>
    lc_list (xs := xs) (fun n H' => Ex H1 H' ∧ ∃ zs, H' Dl = some (.lst zs) ∧ StepsAt H' zs (ss.take n)) ⟨Ex.new hD, [], upd_same, .nil⟩ (fun n H' _ p => ex_l ((e.trans e1).trans p.1) hx) (fun n x H' hxn p => by
      obtain ⟨e2, zs, h3, h4⟩ := p
      have hn2 := (List.getElem?_eq_some_iff.mp hxn).1
      have hs : ss[n]? = some ss[n] := List.getElem?_eq_getElem (by omega)
      refine ⟨hw _, yes_go (he n x ss[n] H' ((e.trans e1).trans e2) hxn hs _ fun v H3 e3 hv => ⟨zs, e3 _ _ h3, ?_, Ex.mut (e2.trans e3) hD, zs ++ [v], upd_same, ?_⟩)⟩
      · have := h4.1
        rw [List.length_take] at this
        exact sz_lt (by omega)
      · rw [List.take_add_one, hs]
        exact (steps_upd (e3 _ _ h3) (h4.mono e3)).snoc (step_upd (e3 _ _ h3) hv)) (fun H' p => by
      obtain ⟨e2, zs, h3, h4⟩ := p
      rw [hl, List.take_length] at h4
      refine ⟨Dl, zs, rfl, .inl ⟨sq_of h3, fun r hr2 => ?_⟩⟩
      exact q r _ zs (fresh_back (e1.trans e2) hr2) ((e1.trans e2).trans (Ex.new hr2)) upd_same (h4.mono (Ex.new hr2)))⟩
/-! ### the law's pieces -/
theorem ev_idx {σ : L2.St} {H : Hp} {ta tb : TE} {p : Addr} {us : List V} {ss : List FStep} {v : V} {s : FStep} (ha : Ev ta σ H (.ref p)) (hb : Ev tb σ H v) (hv : StepAt H v s) (hp : H p = some (.lst us)) (hs : StepsAt H us ss) (o1 : OkS s) (o2 : ∀ t ∈ ss, OkS t) (hm : s ∈ ss) : Ev (tBM K "list" (rIndexD K) ta (tCons tb tNil)) σ H (.int (ss.idxOf s : Nat)) := fun H1 e Q q =>
  ha H1 e _ fun H2 e2 => ⟨Or.inl ⟨rfl, us, sq_of ((e.trans e2) _ _ hp)⟩, hb H2 (e.trans e2) _ fun H3 e3 => idx_d (hv.mono ((e.trans e2).trans e3)) (((e.trans e2).trans e3) _ _ hp) (hs.mono ((e.trans e2).trans e3)) o1 o2 hm (q H3 (e2.trans e3))⟩
theorem inV_nats (L : List Nat) (a : Nat) : inV (.int (a : Int)) (nats L) = decide (a ∈ L) := by
  unfold inV nats
  induction L with
  | nil => rfl
  | cons b r ih =>
    rw [List.map_cons, List.any_cons, ih]
    show ((b : Int) == (a : Int) || _) = _
    by_cases h : b = a
    · simp [h]
    · have h2 : ¬ a = b := fun z => h z.symm
      have h3 : ¬ ((b : Int) = (a : Int)) := by omega
      simp [h2, h3]
theorem flat_nats (L : List Nat) : (nats L).all flatV = true := by
  unfold nats
  rw [List.all_map]
  exact List.all_eq_true.mpr fun x _ => rfl
theorem no_ix {n : Nat} {s : FStep} (h : OkStep n s) (hw : inV (.str s.1) [.str "number", .str "pi"] = true) : ix s = [] := by
  rcases h with ⟨p, q, rfl, _⟩ | rfl | ⟨x, i, j, hx, rfl, _⟩ | ⟨x, i, hx, rfl, _⟩
  · unfold ix
    rw [if_pos rfl]
  · decide +kernel
  · have := w2_all (P := fun wd => inV (.str wd) [.str "number", .str "pi"] = false) ⟨by decide +kernel, by decide +kernel, by decide +kernel, by decide +kernel⟩ x hx
    rw [this] at hw
    cases hw
  · have := w1_all (P := fun wd => inV (.str wd) [.str "number", .str "pi"] = false) ⟨by decide +kernel, by decide +kernel, by decide +kernel, by decide +kernel, by decide +kernel, by decide +kernel, by decide +kernel, by decide +kernel⟩ x hx
    rw [this] at hw
    cases hw
theorem no_num {s : FStep} (hw : inV (.str s.1) [.str "number", .str "pi"] = false) : s.1 ≠ "number" := fun z => by
  rw [z] at hw
  exact absurd hw (by decide +kernel)
theorem ix_two {n : Nat} {s : FStep} (h : OkStep n s) : (ix s).length ≤ 2 := by
  rcases h with ⟨p, q, rfl, _⟩ | rfl | ⟨x, i, j, hx, rfl, _⟩ | ⟨x, i, hx, rfl, _⟩
  · unfold ix
    rw [if_pos rfl]
    decide
  · decide +kernel
  · unfold ix
    rw [if_neg (w2_nn x hx)]
    exact Nat.le_refl 2
  · unfold ix
    rw [if_neg (w1_nn x hx)]
    exact Nat.le_succ 1
theorem sorted_ext : ∀ {l m : List Int}, l.Pairwise (· < ·) → m.Pairwise (· < ·) → (∀ k, k ∈ l ↔ k ∈ m) → l = m
  | [], [], _, _, _ => rfl
  | [], b :: m, _, _, h => absurd ((h b).mpr (List.mem_cons_self ..)) (List.not_mem_nil)
  | a :: l, [], _, _, h => absurd ((h a).mp (List.mem_cons_self ..)) (List.not_mem_nil)
  | a :: l, b :: m, hl, hm, h => by
    rw [List.pairwise_cons] at hl hm
    have e : a = b := by
      rcases List.mem_cons.mp ((h a).mp (List.mem_cons_self ..)) with z | z
      · exact z
      · rcases List.mem_cons.mp ((h b).mpr (List.mem_cons_self ..)) with y | y
        · exact y.symm
        · have := hm.1 a z
          have := hl.1 b y
          omega
    subst e
    have h2 : ∀ k, k ∈ l ↔ k ∈ m := fun k => by
      constructor
      · intro hk
        rcases List.mem_cons.mp ((h k).mp (List.mem_cons_of_mem _ hk)) with z | z
        · have := hl.1 k hk
          omega
        · exact z
      · intro hk
        rcases List.mem_cons.mp ((h k).mpr (List.mem_cons_of_mem _ hk)) with z | z
        · have := hm.1 k hk
          omega
        · exact z
    rw [sorted_ext hl.2 hm.2 h2]
theorem order_int {T : List FStep} {last : Nat} {ns : List Int} (h : OkForm T) (hs : ns.Pairwise (· < ·)) (hm : ∀ k : Int, k ∈ ns ↔ decide (k ∈ (used T last).map fun n : Nat => (n : Int)) = true) : ns = (order T last).map fun n : Nat => (n : Int) := by
  refine sorted_ext hs ?_ fun k => ?_
  · refine List.pairwise_map.mpr ?_
    have hp : (order T last).Pairwise (fun a b => a < b) := by
      unfold order
      exact List.Pairwise.filter _ List.pairwise_lt_range
    exact hp.imp fun h => by omega
  · rw [hm k, decide_eq_true_eq, List.mem_map, List.mem_map]
    constructor
    · rintro ⟨n, h1, h2⟩
      exact ⟨n, (mem_order h).mpr h1, h2⟩
    · rintro ⟨n, h1, h2⟩
      exact ⟨n, (mem_order h).mp h1, h2⟩
theorem nats_ints (L : List Nat) : nats L = (L.map fun n : Nat => (n : Int)).map V.int := by
  unfold nats
  rw [List.map_map]
  rfl
theorem order_nodup (T : List FStep) (last : Nat) : (order T last).Nodup := by
  unfold order
  exact List.Pairwise.filter _ List.nodup_range
theorem item3 {i : Int} (h : 0 ≤ i ∧ i < 3) : ∃ c : Int, atI [V.int 64, V.int 4096, V.int 1048576] i = some (.int c) ∧ 0 < c ∧ c ≤ 1048576 := by
  have h3 : i = 0 ∨ i = 1 ∨ i = 2 := by omega
  rcases h3 with rfl | rfl | rfl
  · exact ⟨64, rfl, by decide⟩
  · exact ⟨4096, rfl, by decide⟩
  · exact ⟨1048576, rfl, by decide⟩
theorem ev_neFV {σ : L2.St} {H : Hp} {ta tb : TE} {ss : List FStep} {p : Addr} {us : List V} (ha : EvF ta σ H ss) (hb : Ev tb σ H (.ref p)) (hp : H p = some (.tup us)) (hs : StepsAt H us ss) (ho : ∀ s ∈ ss, OkS s) : Ev (tOp (rNeD K) ta tb) σ H (.bl false) := fun H1 e Q q =>
  ha H1 e _ fun r H2 vs _ e2 hr hv => hb H2 (e.trans e2) _ fun H3 e3 =>
    rv_neS (H := H3) (d := foD ss) (.tup (st_of (e3 _ _ hr)) (hv.mono e3).dp) (.tup (st_of (((e.trans e2).trans e3) _ _ hp)) (hs.mono ((e.trans e2).trans e3)).dp) (sh_form ho) H3 (Ex.refl _) Q fun H4 e4 => q H4 ((e2.trans e3).trans e4)
def setK (k : Nat) (tz : TS) (D : Ends) (σ : L2.St) : VK := fun v H1 => tz D (σ.set k (some v)) H1
theorem setK_go {σ σ' : L2.St} {H : Hp} {k : Nat} {D : Ends} {tz : TS} {v : V} (e : σ.set k (some v) = σ') (h : tz D σ' H) : setK k tz D σ v H := by
  subst e
  exact h
theorem q_raw {σ : L2.St} {H : Hp} {te : TE} {k : Nat} {D : Ends} {tz : TS} (h : te σ H (setK k tz D σ)) : tSeq (tAsg te (gName k)) tz D σ H := h
theorem nats_lastN {ps : List Nat} (h : ps ≠ []) : atI (nats ps) (((nats ps).length : Int) - 1) = some (.int (ps.getLastD 0 : Nat)) := by
  obtain ⟨l, x, rfl⟩ : ∃ l x, ps = l ++ [x] := ⟨ps.dropLast, ps.getLast h, (List.dropLast_concat_getLast h).symm⟩
  have e : (((nats (l ++ [x])).length : Nat) : Int) - 1 = ((l.length : Nat) : Int) := by
    unfold nats
    rw [List.length_map, List.length_append, List.length_singleton]
    omega
  rw [e]
  refine atI_nat ?_
  unfold nats
  rw [List.getLastD_concat, List.getElem?_map, List.getElem?_append_right (Nat.le_refl _), Nat.sub_self]
  rfl
theorem q_order {W : World} {σ : L2.St} {H : Hp} {ta : TE} {k : Nat} {D : Ends} {tz : TS} {ul : Addr} {L : List Nat} (h : Ev ta σ H (.ref ul)) (hu : H ul = some (.lst (nats L))) (hz : L.length ≤ 60)
    (q : ∀ (os : List Int) b H1, Ex H H1 → os.Pairwise (· < ·) → (∀ k : Int, k ∈ os ↔ decide (k ∈ L.map fun n : Nat => (n : Int)) = true) → H1 b = some (.lst (os.map V.int)) → tz D (σ.set k (some (.ref b))) H1) :
    tSeq (tAsg (tCB (rSortedSet W) (tCons (tCB (rSetI K W) (tCons ta tNil)) tNil)) (gName k)) tz D σ H := h H (Ex.refl H) _ fun H1 e1 =>
  ⟨ul, L.map (fun n : Nat => (n : Int)), rfl, by rw [← nats_ints]; exact sq_of (e1 _ _ hu), by rw [List.length_map]; exact hz, fun p1 n np hn => ⟨p1, _, n, rfl, upd_same, by rw [List.length_map] at hn; omega, fun os b hpw hmem hlen nb => q os b _ ((e1.trans (Ex.new np)).trans (Ex.new nb)) hpw hmem upd_same⟩⟩
theorem q_newK {σ : L2.St} {H : Hp} {k : Nat} {D : Ends} {tz : TS} (q : ∀ p H1, H p = none → Ex H H1 → H1 p = some (.dK []) → tz D (σ.set k (some (.ref p))) H1) : tSeq (tAsg tDNewK (gName k)) tz D σ H := fun p hp => q p _ hp (Ex.new hp) upd_same
def spLaw (K : PySem.W.Frag) : Sp := fun vs H Q _ => ∃ (a : Addr) (ns : List Int), vs = [.ref a] ∧ SqL K H a (ns.map V.int) ∧ ns.length ≤ 63 ∧ ∀ H', Q (.bl true) H'
theorem ok_law {f f0 f1 f2 f3 f4 f5 f6 f7 f8 f9 f10 f11 f12 f13 f14 f15 d : Addr} {fd fd0 fd1 fd2 fd3 fd4 fd5 fd6 fd7 fd8 fd9 fd10 fd11 fd12 fd13 fd14 fd15 : FuncData} (F : Fun K "law" "law" s_law f fd)
    (F_is_integer : Fun K "is_integer" "is_integer" s_is_integer f0 fd0)
    (F_are_integers : Fun K "are_integers" "are_integers" s_are_integers f1 fd1)
    (F_is_formula : Fun K "is_formula" "is_formula" s_is_formula f2 fd2)
    (F_tidied : Fun K "tidied" "tidied" s_tidied f3 fd3)
    (F_steps_of : Fun K "steps_of" "steps_of" s_steps_of f4 fd4)
    (F_is_step : Fun K "is_step" "is_step" s_is_step f5 fd5)
    (F_indexes_of : Fun K "indexes_of" "indexes_of" s_indexes_of f6 fd6)
    (F_moved : Fun K "moved" "moved" s_moved f7 fd7)
    (F_merged : Fun K "merged" "merged" s_merged f8 fd8)
    (F_merged_into : Fun K "merged_into" "merged_into" s_merged_into f9 fd9)
    (F_used_steps : Fun K "used_steps" "used_steps" s_used_steps f10 fd10)
    (F_law_cell : Fun K "_law_cell" "_law_cell" s_law_cell f11 fd11)
    (F_law_numbers : Fun K "_law_numbers" "_law_numbers" s_law_numbers f12 fd12)
    (F_law_is_integer : Fun K "_law_is_integer" "_law_is_integer" s_law_is_integer f13 fd13)
    (F_law_formula : Fun K "_law_formula" "_law_formula" s_law_formula f14 fd14)
    (F_law_moved : Fun K "_law_moved" "_law_moved" s_law_moved f15 fd15)
    (b_is_integer : Binds K fd0 ["value"] []) (b_are_integers : Binds K fd1 ["values"] []) (b_is_formula : Binds K fd2 ["value"] []) (b_tidied : Binds K fd3 ["formula"] []) (b_steps_of : Binds K fd4 ["formula", "word"] []) (b_is_step : Binds K fd5 ["step", "place"] []) (b_indexes_of : Binds K fd6 ["step"] []) (b_moved : Binds K fd7 ["step", "places"] []) (b_merged : Binds K fd8 ["formula"] []) (b_merged_into : Binds K fd9 ["kept", "place_of", "formula"] []) (b_used_steps : Binds K fd10 ["steps", "last"] []) (b_law_cell : Binds K fd11 ["script", "k"] []) (b_law_numbers : Binds K fd12 ["script", "first", "most"] []) (b_law_is_integer : Binds K fd13 ["actual"] []) (b_law_formula : Binds K fd14 ["numbers", "most"] []) (b_law_moved : Binds K fd15 ["step", "places"] [])
    (g_is_integer : mg "is_integer" = some (.ref f0)) (g_are_integers : mg "are_integers" = some (.ref f1)) (g_is_formula : mg "is_formula" = some (.ref f2)) (g_tidied : mg "tidied" = some (.ref f3)) (g_steps_of : mg "steps_of" = some (.ref f4)) (g_is_step : mg "is_step" = some (.ref f5)) (g_indexes_of : mg "indexes_of" = some (.ref f6)) (g_moved : mg "moved" = some (.ref f7)) (g_merged : mg "merged" = some (.ref f8)) (g_merged_into : mg "merged_into" = some (.ref f9)) (g_used_steps : mg "used_steps" = some (.ref f10)) (g_law_cell : mg "_law_cell" = some (.ref f11)) (g_law_numbers : mg "_law_numbers" = some (.ref f12)) (g_law_is_integer : mg "_law_is_integer" = some (.ref f13)) (g_law_formula : mg "_law_formula" = some (.ref f14)) (g_law_moved : mg "_law_moved" = some (.ref f15))
    (g_COUNTS : mg "COUNTS" = some (.ref d)) (C : Counts K w d)
    (m_len : mg "len" = none) (m_abs : mg "abs" = none) (m_int : mg "int" = none) (m_bool : mg "bool" = none) (m_str : mg "str" = none) (m_isinstance : mg "isinstance" = none) (m_tuple : mg "tuple" = none) (m_list : mg "list" = none) (m_range : mg "range" = none) (m_max : mg "max" = none) (m_enumerate : mg "enumerate" = none) (m_reversed : mg "reversed" = none) (m_sorted : mg "sorted" = none) (m_set : mg "set" = none) : FnOk P w K mg base CX0 5 f fd ["script"] (spLaw K) := by
  have G_is_step : FnOk P w K mg base CX0 3 f5 fd5 ["step", "place"] spIsStep := ok_isstep F_is_step F_is_integer b_is_integer g_is_integer F_are_integers b_are_integers g_are_integers g_COUNTS C m_isinstance m_int m_bool m_len m_tuple m_str
  have G_is_formula : FnOk P w K mg base CX0 4 f2 fd2 ["value"] spIsForm := ok_isform F_is_formula F_is_step G_is_step b_is_step g_is_step m_isinstance m_len m_tuple m_enumerate
  have G_tidied : FnOk P w K mg base CX0 4 f3 fd3 ["formula"] spTidied := ok_tidied F_tidied F_moved b_moved g_moved F_indexes_of b_indexes_of g_indexes_of F_merged_into b_merged_into g_merged_into F_merged b_merged g_merged F_used_steps b_used_steps g_used_steps m_len m_range m_reversed m_enumerate m_tuple
  have G_steps_of : FnOk P w K mg base CX0 1 f4 fd4 ["formula", "word"] spCount := ok_count F_steps_of m_len
  have G_law_cell : FnOk P w K mg base CX0 1 f11 fd11 ["script", "k"] (spCell K) := ok_cell F_law_cell m_len
  have G_law_numbers : FnOk P w K mg base CX0 1 f12 fd12 ["script", "first", "most"] (spNumbers K) := ok_numbers F_law_numbers m_len m_abs m_int m_range
  have G_law_is_integer : FnOk P w K mg base CX0 1 f13 fd13 ["actual"] spInteger := ok_linteger F_law_is_integer m_isinstance m_int m_bool
  have G_law_formula : FnOk P w K mg base CX0 1 f14 fd14 ["numbers", "most"] (spFormula K) := ok_formula F_law_formula m_len m_max m_int m_tuple
  have G_law_moved : FnOk P w K mg base CX0 1 f15 fd15 ["step", "places"] (spLMv K) := ok_lmoved F_law_moved m_len
  refine F.ok sc_law (fun vs H Q E h => ?_) (fun cdv A outer s H vs Q E hr h => ?_)
  · obtain ⟨a, ns, rfl, _⟩ := h
    rfl
  · obtain ⟨sa, ns, rfl, hS, hl, fin⟩ := h
    refine ⟨_, (pss_cons (ps_set (i := 1) sc_law.nd rfl (.inr rfl) (pe_callB call_abs (by rfl) m_abs (by decide +kernel) (pa_cons (pe_call G_law_cell (hr.mono (by decide)) (by rfl) g_law_cell F_law_cell.kp b_law_cell .nil pass0 (pa_cons (pv 0) (pa_cons pe_int pa_nil))) pa_nil)))
        (pss_cons (ps_setLc (i := 2) (own := [("number", 3)]) (g := gName 3) rfl sc_law.nd rfl rfl (sw_true rfl rfl rfl (by decide +kernel)) (pi_list (pe_call G_law_numbers (hr.mono (by decide)) (by rfl) g_law_numbers F_law_numbers.kp b_law_numbers .nil pass0 (pa_cons (pv 0) (pa_cons pe_int (pa_cons pe_int pa_nil))))) (blkOk_by (own := [("number", 3)]) (N := ["script", "digit", "numbers", "number", "formula", "kept", "places", "step", "moved_v", "used", "k", "at", "order", "moves", "due", "actual", "word", "count"]) (sc := defScope s_law) (by decide +kernel)) (fun _ _ _ _ _ => (pg_name (i := 3) sc_law.nd rfl (.inl rfl))) (fun _ _ _ _ _ => pts_nil) (fun _ _ _ _ _ => (pe_op op_mod (pe_callTy call_int1 (by rfl) m_int (by decide +kernel) (pa_cons (pv 3) pa_nil)) (pe_ix (r := rIxL K) ix_list (pe_lst (pa_cons pe_int (pa_cons pe_int (pa_cons pe_int pa_nil)))) (pe_op op_mod (pe_op op_fdiv (pv 1) pe_int) pe_int) (fun _ _ => rfl)))))
        (pss_cons (ps_set (i := 4) sc_law.nd rfl (.inl rfl) (pe_call G_law_formula (hr.mono (by decide)) (by rfl) g_law_formula F_law_formula.kp b_law_formula .nil pass0 (pa_cons (pe_op op_cat (pv 2) (pe_lst (pa_cons (pe_op op_mod (pe_op op_fdiv (pv 1) pe_int) pe_int) pa_nil))) (pa_cons (pe_op op_add pe_int (pe_op op_mod (pe_callTy call_int1 (by rfl) m_int (by decide +kernel) (pa_cons (pv 1) pa_nil)) pe_int)) pa_nil))))
        (pss_cons (ps_set (i := 5) sc_law.nd rfl (.inr rfl) (pe_lst pa_nil))
        (pss_cons (ps_set (i := 6) sc_law.nd rfl (.inl rfl) (pe_lst pa_nil))
        (pss_cons (ps_for PassesOwn.never rfl (pi_tup (pv 4)) (pg_name (i := 7) sc_law.nd rfl (.inl rfl)) (pss_cons (ps_set (i := 8) sc_law.nd rfl (.inl rfl) (pe_call G_law_moved (hr.mono (by decide)) (by rfl) g_law_moved F_law_moved.kp b_law_moved .nil pass0 (pa_cons (pv 7) (pa_cons (pv 6) pa_nil))))
        (pss_cons (ps_if (pt_cmpR (op_notInD (hu65 hr)) (pv 8) (pv 5) (by rfl)) (pss_one (ps_expr (pe_bm PySem.F.plainAttrs_list PySem.F.slot_list_append PySem.F.type_list_append mt_append (pv 5) (pa_cons (pv 8) pa_nil)))) pss_nil)
        (pss_one (ps_expr (pe_bm PySem.F.plainAttrs_list PySem.F.slot_list_append PySem.F.type_list_append mt_append (pv 6) (pa_cons (pe_bm PySem.F.plainAttrs_list PySem.F.slot_list_index PySem.F.type_list_index (mt_indexD (hu65 hr)) (pv 5) (pa_cons (pv 8) pa_nil)) pa_nil)))))))
        (pss_cons (ps_set (i := 9) sc_law.nd rfl (.inl rfl) (pe_lst (pa_cons (pe_ix ix_list (pv 6) (pe_op op_sub (pe_callB call_len (by rfl) m_len (by decide +kernel) (pa_cons (pv 6) pa_nil)) pe_int) (fun _ _ => rfl)) pa_nil)))
        (pss_cons (ps_for PassesOwn.never rfl (pi_range1 (by rfl) m_range (pa_cons (pe_callB call_len (by rfl) m_len (by decide +kernel) (pa_cons (pv 5) pa_nil)) pa_nil)) (pg_name (i := 10) sc_law.nd rfl (.inl rfl)) (pss_cons (ps_set (i := 11) sc_law.nd rfl (.inl rfl) (pe_op op_sub (pe_op op_sub (pe_callB call_len (by rfl) m_len (by decide +kernel) (pa_cons (pv 5) pa_nil)) pe_int) (pv 10)))
        (pss_one (ps_if (PW.pt (pw_and (pt_cmpR op_in_seq (pv 11) (pv 9) (by rfl)) (pw_and1 (pt_cmpR op_notIn_seq (pe_ix ix_tup (pe_ix ix_list (pv 5) (pv 11) (fun _ _ => rfl)) pe_int (fun _ _ => rfl)) (pe_tup (pa_cons pe_str (pa_cons pe_str pa_nil))) (by rfl))))) (pss_one (ps_set (i := 9) sc_law.nd rfl (.inl rfl) (pe_op op_cat (pv 9) (pe_callTy call_list_of (by rfl) m_list (by decide +kernel) (pa_cons (pe_slice sl_tup (pe_ix ix_list (pv 5) (pv 11) (fun _ _ => rfl)) (po_some pe_int) po_none) pa_nil))))) pss_nil))))
        (pss_cons (ps_set (i := 12) sc_law.nd rfl (.inl rfl) (pe_callB (cr_sortedSet rfl) (by rfl) m_sorted (by decide +kernel) (pa_cons (pe_callTy (cr_setI rfl) (by rfl) m_set (by decide +kernel) (pa_cons (pv 9) pa_nil)) pa_nil)))
        (pss_cons (ps_set (i := 13) sc_law.nd rfl (.inr rfl) pe_dnewK)
        (pss_cons (ps_for PassesOwn.never rfl (pi_range1 (by rfl) m_range (pa_cons (pe_callB call_len (by rfl) m_len (by decide +kernel) (pa_cons (pv 12) pa_nil)) pa_nil)) (pg_name (i := 10) sc_law.nd rfl (.inl rfl)) (pss_one (ps_asg (pv 10) (pg_sub (pv 13) (pe_ix ix_list (pv 12) (pv 10) (fun _ _ => rfl)) (set_dict (hu_of hr))))))
        (pss_cons (ps_set (i := 14) sc_law.nd rfl (.inl rfl) (pe_callTy call_tuple_of (by rfl) m_tuple (by decide +kernel) (pa_cons (pe_lc (own := [("at", 11)]) (g := gName 11) rfl sc_law.nd (pi_list (pv 12)) (blkOk_by (own := [("at", 11)]) (N := ["script", "digit", "numbers", "number", "formula", "kept", "places", "step", "moved_v", "used", "k", "at", "order", "moves", "due", "actual", "word", "count"]) (sc := defScope s_law) (by decide +kernel)) (fun _ _ _ _ _ => (pg_name (i := 11) sc_law.nd rfl (.inl rfl))) (fun _ _ _ _ _ => pts_nil) (fun _ _ _ _ _ => (pe_call G_law_moved (hr.mono (by decide)) (by rfl) g_law_moved F_law_moved.kp b_law_moved .nil pass0 (pa_cons (pe_ix (r := rIxL K) ix_list (pv 5) (pv 11) (fun _ _ => rfl)) (pa_cons (pv 13) pa_nil))))) pa_nil)))
        (pss_cons (ps_set (i := 15) sc_law.nd rfl (.inl rfl) (pe_call G_tidied (hr.mono (by decide)) (by rfl) g_tidied F_tidied.kp b_tidied .nil pass0 (pa_cons (pv 4) pa_nil)))
        (pss_cons (ps_if (PW.pt (pw_or (pt_not (pt_val (pe_callB call_isi (by rfl) m_isinstance (by decide +kernel) (pa_cons (pv 15) (pa_cons (pe_bltn (by rfl) m_tuple (by decide +kernel) (show RelV (.ty "tuple") _ from rfl)) pa_nil))))) (pw_or (pt_cmpR (op_neD hr.units) (pv 15) (pv 14) (nomark _)) (pw_or (pt_cmpR op_notBl (pe_call G_is_formula (hr.mono (by decide)) (by rfl) g_is_formula F_is_formula.kp b_is_formula .nil pass0 (pa_cons (pv 15) pa_nil)) pe_bl (nomark _)) (pw_or1 (pt_cmpR (op_neD hr.units) (pe_call G_tidied (hr.mono (by decide)) (by rfl) g_tidied F_tidied.kp b_tidied .nil pass0 (pa_cons (pv 15) pa_nil)) (pv 15) (nomark _))))))) (pss_one (ps_ret pe_bl)) pss_nil)
        (pss_cons (ps_for PassesOwn.never rfl (pi_tup (pe_tup (pa_cons pe_str (pa_cons pe_str (pa_cons pe_str (pa_cons pe_str (pa_cons pe_str (pa_cons pe_str pa_nil)))))))) (pg_name (i := 16) sc_law.nd rfl (.inr rfl)) (pss_cons (ps_set (i := 17) sc_law.nd rfl (.inl rfl) (pe_call G_steps_of (hr.mono (by decide)) (by rfl) g_steps_of F_steps_of.kp b_steps_of .nil pass0 (pa_cons (pv 4) (pa_cons (pv 16) pa_nil))))
        (pss_one (ps_if (PW.pt (pw_or (pt_not (pt_val (pe_call G_law_is_integer (hr.mono (by decide)) (by rfl) g_law_is_integer F_law_is_integer.kp b_law_is_integer .nil pass0 (pa_cons (pv 17) pa_nil)))) (pw_or1 (pt_cmpR op_ne (pv 17) (pe_callB call_len (by rfl) m_len (by decide +kernel) (pa_cons (pe_lc (own := [("step", 7)]) (g := gName 7) rfl sc_law.nd (pi_tup (pv 4)) (blkOk_by (own := [("step", 7)]) (N := ["script", "digit", "numbers", "number", "formula", "kept", "places", "step", "moved_v", "used", "k", "at", "order", "moves", "due", "actual", "word", "count"]) (sc := defScope s_law) (by decide +kernel)) (fun _ _ _ _ _ => (pg_name (i := 7) sc_law.nd rfl (.inl rfl))) (fun _ _ _ _ _ => pts_one (pt_cmpR op_eq (pe_ix (r := rIxT K) ix_tup (pv 7) pe_int (fun _ _ => rfl)) (pv 16) (nomark _))) (fun _ _ _ _ _ => (pv 7))) pa_nil)) (nomark _))))) (pss_one (ps_ret pe_bl)) pss_nil))))
        (pss_one (ps_ret pe_bl))))))))))))))))), ?_⟩
    -- digit
    refine q_asg (ev_cb (ea_cons (ev_call (z := .int (cellOf ns 0)) (ea_cons (ev_var rfl) (ea_cons ev_c ea_nil)) (fun H1 e1 Q1 q1 E1 => ⟨sa, ns, 0, rfl, ex_l e1 hS, q1 H1 (Ex.refl H1)⟩)) ea_nil) rc_abs) fun H1 e1 => ?_
    refine st_is (σ' := [_, _, _, _, _, _, _, _, _, _, _, _, _, _, _, _, _, _]) rfl ?_
    replace hS := ex_l e1 hS
    obtain ⟨dg, hdg⟩ : ∃ n : Nat, (cellOf ns 0).natAbs = n := ⟨_, rfl⟩
    rw [hdg]
    -- numbers
    obtain ⟨M, hM, hM0, hM1⟩ := item3 (i := (dg : Int) / 16 % 3) ⟨by omega, by omega⟩
    refine q_raw (k := 2) ?_
    refine ⟨_, rfl, sa, ns, 1, 14, rfl, hS, hl, by decide, by decide, fun p H2 xs np e2 hp hall hlen => ⟨p, rfl, ⟨_, sq_of hp⟩, fun Dl hD => lc_list (xs := xs.map V.int) (Cw H2 (fun _ => true) (fun i => .int (xs.getD i 0 % M)) Dl) ⟨hD, Ex.new hD, upd_same⟩ (fun i H' _ pp => sq_of (pp.2.1 _ _ hp)) (fun i x H' hi pp => ⟨rfl, cw_turn pp ?_ (fun H3 _ Q3 q3 => q3 H3 (Ex.refl H3)) (fun _ => ?_)⟩) (fun H' pp => ?_)⟩⟩
    · have := (List.getElem?_eq_some_iff.mp hi).1
      rw [List.length_map] at this
      omega
    · have ex : x = V.int (xs.getD i 0) := by
        rw [List.getElem?_map] at hi
        obtain ⟨n, h1, rfl⟩ := Option.map_eq_some_iff.mp hi
        rw [List.getD_eq_getElem?_getD, h1]
        rfl
      rw [ex]
      exact ev_op (ev_cb (ea_cons (ev_var rfl) ea_nil) rc_intI) (ev_opL1 (el_lst (ea_cons ev_c (ea_cons ev_c (ea_cons ev_c ea_nil))) (show 3 ≤ 100000 by decide)) (fun _ _ => ev_op (ev_op (ev_var rfl) ev_c (rv_I ⟨by decide, by decide⟩)) ev_c (rv_I (by decide))) (fun _ _ hp _ => rv_ixL (sq_of hp) hM)) (rv_I hM0)
    obtain ⟨_, e3, hD2⟩ := pp
    rw [List.length_map, given_all] at hD2
    obtain ⟨nums, hnums, hn0, hn1⟩ : ∃ nums : List Int, (List.range xs.length).map (fun i => V.int (xs.getD i 0 % M)) = nums.map V.int ∧ (∀ x ∈ nums, 0 ≤ x ∧ Bd 2000000 x) ∧ nums.length ≤ 14 := by
      refine ⟨(List.range xs.length).map (fun i => xs.getD i 0 % M), by rw [List.map_map]; rfl, fun x hx => ?_, by rw [List.length_map, List.length_range]; omega⟩
      obtain ⟨i, _, rfl⟩ := List.mem_map.mp hx
      have a1 := Int.emod_nonneg (xs.getD i 0) (show M ≠ 0 by omega)
      have a2 := Int.emod_lt_of_pos (xs.getD i 0) hM0
      exact ⟨a1, ab_mono (a := 21) (show (xs.getD i 0 % M).natAbs < 2 ^ 21 by omega) (by decide)⟩
    rw [hnums] at hD2
    replace hS := ex_l (e2.trans e3) hS
    clear hp hall hlen hnums
    refine setK_go (σ' := [some (.ref sa), some (.int (dg : Int)), some (.ref Dl), none, none, none, none, none, none, none, none, none, none, none, none, none, none, none]) rfl ?_
    generalize H' = H4 at e3 hD2 hS ⊢
    -- formula
    refine q_asgP (fun v H2 => ∃ fa us ff, v = .ref fa ∧ H2 fa = some (.tup us) ∧ StepsAt H2 us ff ∧ OkForm ff ∧ ff ≠ [] ∧ ff.length ≤ 15) (fun Q1 k1 => ?_) fun v H5 e5 hP => ?_
    · obtain ⟨k, hk, hk2⟩ : ∃ k : Nat, (1 : Int) + (dg : Int) % 15 = (k : Int) ∧ 1 ≤ k ∧ k ≤ 15 := ⟨1 + dg % 15, by omega, by omega, by omega⟩
      obtain ⟨c, hc, hc0⟩ : ∃ c : Int, (dg : Int) / 64 % 9 = c ∧ 0 ≤ c ∧ c < 9 := ⟨_, rfl, by omega, by omega⟩
      refine ⟨_, rfl, (ev_is (ev_op (ev_op (ev_var rfl) ev_c (rv_I ⟨by decide, by decide⟩)) ev_c (rv_I (by decide))) (congrArg V.int hc)) H4 (Ex.refl H4) _ fun H5 e5 => ⟨by show 1 ≤ sizeLine; decide, fun b hb => ⟨Dl, b, nums.map V.int, [.int c], rfl, rfl, ex_app (Ex.new hb) (e5 _ _ hD2), upd_same, ?_, fun d hd => ?_⟩⟩⟩
      · rw [List.length_map]
        exact sz_of (by simp; omega)
      · refine (ev_is (ev_op ev_c (ev_op (ev_cb (ea_cons (ev_var rfl) ea_nil) rc_intI) ev_c (rv_I (by decide))) rv_I0) (congrArg V.int hk)) _ (Ex.refl _) _ fun H6 e6 => ?_
        refine ⟨d, nums ++ [c], k, rfl, ?_, fun x hx => ?_, by simp, hk2.1, by omega, fun ss ok ne hz a H7 us na e7 h7 s7 => k1 _ _ (((e5.trans (Ex.new hb)).trans (Ex.new hd)).trans (e6.trans e7)) ⟨a, us, ss, rfl, h7, s7, ok, ne, by omega⟩⟩
        · rw [List.map_append]
          exact sq_of (e6 _ _ upd_same)
        · rcases List.mem_append.mp hx with h | h
          · exact hn0 x h
          · rw [List.mem_singleton] at h
            subst h
            exact ⟨hc0.1, ab_mono (a := 12) (show x.natAbs < 2 ^ 12 by omega) (by decide)⟩
    obtain ⟨fa, fs, ff, rfl, hf, hfs, hfo, hfn, hfl⟩ := hP
    clear hD2
    refine st_is (σ' := [_, _, _, _, _, _, _, _, _, _, _, _, _, _, _, _, _, _]) rfl ?_
    -- kept, places
    refine q_asgL (el_lst ea_nil (show 0 ≤ 100000 by decide)) fun kl H6 nkl e6 hk6 => ?_
    refine st_is (σ' := [_, _, _, _, _, _, _, _, _, _, _, _, _, _, _, _, _, _]) rfl ?_
    refine q_asgL (el_lst ea_nil (show 0 ≤ 100000 by decide)) fun pl H7 npl e7 hp7 => ?_
    refine st_is (σ' := [_, _, _, _, _, _, _, _, _, _, _, _, _, _, _, _, _, _]) rfl ?_
    have npl5 : H5 pl = none := fresh_back e6 npl
    have nkp : pl ≠ kl := fun z => by rw [z, hk6] at npl; cases npl
    refine q_forT (ev_var rfl) (st_of ((e6.trans e7) _ _ hf)) (fun i σ' H' => ∃ x7 x8 us, σ' = [some (.ref sa), some (.int (dg : Int)), some (.ref Dl), none, some (.ref fa), some (.ref kl), some (.ref pl), x7, x8, none, none, none, none, none, none, none, none, none] ∧ Ex H5 H' ∧ H' kl = some (.lst us) ∧ StepsAt H' us ((ff.take i).foldl mstep ([], [])).1 ∧ H' pl = some (.lst (nats ((ff.take i).foldl mstep ([], [])).2)))
      (fun H8 e8 => ⟨_, _, [], rfl, (e6.trans e7).trans e8, e8 _ _ (e7 _ _ hk6), .nil, e8 _ _ hp7⟩) (fun i σ' H' _ pp => ?_) (fun i x σ' H' hx pp => ?_) (fun σ' H' pp => ?_)
    · obtain ⟨x7, x8, us, _, e8, _⟩ := pp
      exact st_of (e8 _ _ hf)
    · obtain ⟨x7, x8, us, rfl, e8, hk, hks, hp⟩ := pp
      obtain ⟨st, hst, p, rfl, sat⟩ := hfs.get hx
      have sat2 : StepAt H' (.ref p) st := ⟨p, rfl, e8 _ _ sat⟩
      have hi : i < ff.length := (List.getElem?_eq_some_iff.mp hst).1
      have G := mg_take hfo i (Nat.le_of_lt hi)
      have next : (ff.take (i + 1)).foldl mstep ([], []) = mstep ((ff.take i).foldl mstep ([], [])) st := by
        rw [List.take_add_one, hst]
        show (ff.take i ++ [st]).foldl mstep ([], []) = _
        rw [List.foldl_append]
        rfl
      have hos := hfo i st hst
      have hfit := G.step hos
      rw [next]
      generalize (ff.take i).foldl mstep ([], []) = acc at hks hp G hfit
      obtain ⟨A, B⟩ := acc
      rw [mstep_of]
      have hlen := G.le
      have hBl := G.len
      have hAo := G.ok.oks
      simp only at hks hp hfit hlen hBl hAo
      show tSeq (tAsg _ (gName 8)) _ _ [some (.ref sa), some (.int (dg : Int)), some (.ref Dl), none, some (.ref fa), some (.ref kl), some (.ref pl), some (.ref p), x8, none, none, none, none, none, none, none, none, none] H'
      refine q_asgP (fun v H2 => StepAt H2 v (ren (fun i => B.getD i 0) st)) (fun Q1 k1 => ⟨_, rfl, _, rfl, .ref p, st, pl, fun i => B.getD i 0, i, rfl, sat2, hos, fun j hj H2 e2 H3 e3 Q2 q2 => .inl ⟨pl, nats B, (j : Nat), _, rfl, rfl, sq_of ((e2.trans e3) _ _ hp), nats_at (by omega) (by have := ok_ix hos j hj; omega), q2 H3 (Ex.refl _)⟩, fun v H2 e2 h2 => k1 v H2 e2 h2⟩) fun v H8 e9 hP => ?_
      obtain ⟨b, rfl, hb⟩ := hP
      refine st_is (σ' := [_, _, _, _, _, _, _, _, _, _, _, _, _, _, _, _, _, _]) rfl ?_
      generalize ren (fun i => B.getD i 0) st = fit at hb hfit
      have hbs : StepAt H8 (.ref b) fit := ⟨b, rfl, hb⟩
      replace hks := hks.mono e9
      replace hk := e9 _ _ hk
      replace hp := e9 _ _ hp
      replace e8 := e8.trans e9
      have hfo' : OkS fit := hfit.oks
      have hul : us.length = A.length := hks.1
      -- behind the if
      have done : ∀ {A' : List FStep} {us' : List V} {H3 : Hp}, Ex H5 H3 → H3 kl = some (.lst us') → StepsAt H3 us' A' → H3 pl = some (.lst (nats B)) → StepAt H3 (.ref b) fit → fit ∈ A' → (∀ t ∈ A', OkS t) → ∀ D : Ends, (∀ H4, Ex H5 H4 → H4 kl = some (.lst us') → StepsAt H4 us' A' → H4 pl = some (.lst (nats (B ++ [A'.idxOf fit]))) → D.nx [some (.ref sa), some (.int (dg : Int)), some (.ref Dl), none, some (.ref fa), some (.ref kl), some (.ref pl), some (.ref p), some (.ref b), none, none, none, none, none, none, none, none, none] H4) →
          tDrop (tBM K "list" rAppend (tVar 6) (tCons (tBM K "list" (rIndexD K) (tVar 5) (tCons (tVar 8) tNil)) tNil)) D [some (.ref sa), some (.int (dg : Int)), some (.ref Dl), none, some (.ref fa), some (.ref kl), some (.ref pl), some (.ref p), some (.ref b), none, none, none, none, none, none, none, none, none] H3 := fun {A' us' H3} ee hk3 hs3 hp3 hb3 hm ho D kN => by
        refine s_app hp3 (ev_var rfl) (v := .int (A'.idxOf fit : Nat)) (ev_idx (ev_var rfl) (ev_var rfl) hb3 hk3 hs3 hfo' ho hm) (by unfold nats; rw [List.length_map]; omega) fun H4 e4 => ?_
        refine kN _ (Ex.mut (ee.trans e4) npl5) ?_ (steps_upd (e4 _ _ hp3) (hs3.mono e4)) ?_
        · rw [upd_ne (fun z => nkp z.symm)]
          exact e4 _ _ hk3
        · rw [upd_same]
          unfold nats
          rw [List.map_append]
          rfl
      by_cases hm : fit ∈ A
      · rw [if_pos hm]
        refine q_when (b := false) (et_is (et_notin (ev_var rfl) (ev_var rfl) hbs hk hks hfo' hAo) (by rw [decide_eq_true hm]; rfl)) (fun hb => nomatch hb) fun _ H9 e10 => ?_
        exact done (e8.trans e10) (e10 _ _ hk) (hks.mono e10) (e10 _ _ hp) (hbs.mono e10) hm hAo _ fun H4 a1 a2 a3 a4 => ⟨_, _, us, rfl, a1, a2, a3, a4⟩
      · rw [if_neg hm]
        refine q_when (b := true) (et_is (et_notin (ev_var rfl) (ev_var rfl) hbs hk hks hfo' hAo) (by rw [decide_eq_false hm]; rfl)) (fun _ H9 e10 => ?_) (fun hb => nomatch hb)
        refine s_app (v := .ref b) (e10 _ _ hk) (ev_var rfl) (ev_var rfl) (by omega) fun H10 e11 => ?_
        have k10 := e11 _ _ (e10 _ _ hk)
        have ix : (A ++ [fit]).idxOf fit = A.length := by
          rw [List.idxOf_append, if_neg hm]
          simp
        refine done (us' := us ++ [.ref b]) (A' := A ++ [fit]) (Ex.mut ((e8.trans e10).trans e11) nkl) upd_same ((steps_upd k10 (hks.mono (e10.trans e11))).snoc (step_upd k10 (hbs.mono (e10.trans e11)))) ?_ (step_upd k10 (hbs.mono (e10.trans e11))) (by simp) (fun t ht => ?_) _ ?_
        · rw [upd_ne nkp]
          exact e11 _ _ (e10 _ _ hp)
        · rcases List.mem_append.mp ht with h | h
          · exact hAo t h
          · rw [List.mem_singleton] at h
            rw [h]
            exact hfo'
        · exact fun H4 a1 a2 a3 a4 => ⟨_, _, us ++ [.ref b], rfl, a1, a2, a3, ix ▸ a4⟩
    · obtain ⟨x7, x8, us, rfl, e8, hk, hks, hp⟩ := pp
      have el : fs.length = ff.length := hfs.1
      rw [el, List.take_length] at hks hp
      have hf8 := e8 _ _ hf
      have hfs8 := hfs.mono e8
      have mg := mg_merge hfo
      have hlast := last_lt hfo hfn
      have hpn : (merge ff).2 ≠ [] := fun z => by
        have := mg.len
        rw [z] at this
        exact hfn (List.length_eq_zero_iff.mp this.symm)
      have htid : tidy ff = picked (merge ff).1 ((merge ff).2.getLastD 0) := rfl
      have hTl := mg.le
      have hto := mg.ok
      rw [show ff.foldl mstep ([], []) = merge ff from rfl] at hks hp
      generalize (merge ff).1 = T at *
      generalize (merge ff).2 = B at *
      clear e6 e7 hk6 hp7 nkp
      generalize hlg : B.getLastD 0 = last at *
      have hul : us.length = T.length := hks.1
      -- used
      refine q_asgL (el_lst (ea_cons (ev_op (ev_var rfl) (ev_op (ev_cb (ea_cons (ev_var rfl) ea_nil) (rc_lenL (sq_of hp))) ev_c rv_I0) (rv_ixL (sq_of hp) (hlg ▸ nats_lastN hpn))) ea_nil) (show 1 ≤ 100000 by decide)) fun u0 H9 nu0 e9 hu0 => ?_
      refine st_is (σ' := [some (.ref sa), some (.int (dg : Int)), some (.ref Dl), none, some (.ref fa), some (.ref kl), some (.ref pl), x7, x8, some (.ref u0), none, none, none, none, none, none, none, none]) rfl ?_
      refine q_forR1 (n := (us.length : Int)) (ea_cons (ev_cb (ea_cons (ev_var rfl) ea_nil) (rc_lenL (sq_of (e9 _ _ hk)))) ea_nil) ⟨by omega, by omega⟩ (fun i σ2 H2 => ∃ x10 x11 ul L, σ2 = [some (.ref sa), some (.int (dg : Int)), some (.ref Dl), none, some (.ref fa), some (.ref kl), some (.ref pl), x7, x8, some (.ref ul), x10, x11, none, none, none, none, none, none] ∧ Ex H' H2 ∧ H2 ul = some (.lst (nats L)) ∧ upass T (T.length - i) L = upass T T.length [last] ∧ L.length ≤ 1 + 2 * i)
        (fun H10 e10 => ⟨_, _, u0, [last], rfl, e9.trans e10, e10 _ _ hu0, rfl, Nat.le_refl 1⟩) (fun i σ2 H2 hi pp => ?_) (fun σ2 H2 pp => ?_)
      · obtain ⟨x10, x11, ul, L, rfl, e10, hu, hup, hLl⟩ := pp
        have hi2 : i < T.length := by omega
        obtain ⟨n, hn⟩ : ∃ n, T.length - 1 - i = n := ⟨_, rfl⟩
        rw [show T.length - i = n + 1 by omega] at hup
        rw [show T.length - (i + 1) = n by omega]
        have hnT : n < T.length := by omega
        refine st_is (σ' := [some (.ref sa), some (.int (dg : Int)), some (.ref Dl), none, some (.ref fa), some (.ref kl), some (.ref pl), x7, x8, some (.ref ul), some (.int (i : Int)), x11, none, none, none, none, none, none]) rfl ?_
        refine q_asg (v := .int (n : Int)) (ev_is (ev_op (ev_op (ev_cb (ea_cons (ev_var rfl) ea_nil) (rc_lenL (sq_of (e10 _ _ hk)))) ev_c rv_I0) (ev_var rfl) rv_I0) (congrArg V.int (show (us.length : Int) - 1 - (i : Int) = (n : Int) by omega))) fun H11 e11 => ?_
        refine st_is (σ' := [some (.ref sa), some (.int (dg : Int)), some (.ref Dl), none, some (.ref fa), some (.ref kl), some (.ref pl), x7, x8, some (.ref ul), some (.int (i : Int)), some (.int (n : Int)), none, none, none, none, none, none]) rfl ?_
        have e1011 := e10.trans e11
        have h1 : us[n]? = some us[n] := List.getElem?_eq_getElem (by omega)
        obtain ⟨st, h2, p, hpv, h3⟩ := hks.get h1
        rw [hpv] at h1
        have hT : T.getD n ("pi", []) = st := by
          rw [List.getD_eq_getElem?_getD, h2]
          rfl
        have hos := hto n st h2
        have hstep : upass T n (if n ∈ L then L ++ ix st else L) = upass T T.length [last] := by
          rw [← hup, ← hT]
          rfl
        have h2l := ix_two hos
        refine s_when (b := decide (n ∈ L) && !inV (.str st.1) [.str "number", .str "pi"]) (et_is (et_and (et_test (ev_op (ev_var rfl) (ev_var rfl) (rv_isL (sq_of (e11 _ _ hu)) rfl (flat_nats L)))) fun _ => et_test (ev_niU (ev_op (ev_op (ev_var rfl) (ev_var rfl) (rv_ixL (sq_of (e1011 _ _ hk)) (atI_nat h1))) ev_c (rv_ixT (st_of (e1011 _ _ h3)) (at0 st))) (eu_tup (ea_cons ev_c (ea_cons ev_c ea_nil)) (show 2 ≤ 100000 by decide)) rfl rfl)) (by rw [inV_nats])) (fun hb H12 e12 => ?_) (fun hb H12 e12 => ?_)
        · rw [Bool.and_eq_true, Bool.not_eq_true'] at hb
          have hm := of_decide_eq_true hb.1
          have hw := hb.2
          rw [if_pos hm] at hstep
          have hres : nats L ++ st.2.map V.int = nats (L ++ ix st) := by
            rw [ix_ints hos (no_num hw)]
            unfold nats
            rw [List.map_append]
          have eAll := e1011.trans e12
          refine s_asgL (xs := nats (L ++ ix st)) (fun H1 e Q1 q1 => ⟨_, rfl, (eu_tail (ev_op (ev_var rfl) (ev_var rfl) (rv_ixL (sq_of (eAll _ _ hk)) (atI_nat h1))) (st_of (eAll _ _ h3))) H1 e _ fun p2 H2 np e2 hp2 => ⟨p2, _, rfl, .inr (st_of hp2), fun b hb2 => ⟨ul, b, nats L, _, rfl, rfl, ex_app (Ex.new hb2) (e2 _ _ (e _ _ (e12 _ _ (e11 _ _ hu)))), upd_same, ?_, fun c hc => q1 c _ (fresh_back (e2.trans (Ex.new hb2)) hc) ((e2.trans (Ex.new hb2)).trans (Ex.new hc)) (by rw [upd_same, hres])⟩⟩⟩) fun c H13 nc e13 hc => ⟨_, _, c, L ++ ix st, rfl, eAll.trans e13, hc, hstep, by rw [List.length_append]; omega⟩
          unfold nats
          rw [List.length_map, ix_ints hos (no_num hw)]
          unfold nats
          rw [List.length_map]
          exact sz_of (by omega)
        · refine ⟨_, _, ul, L, rfl, e1011.trans e12, e12 _ _ (e11 _ _ hu), ?_, by omega⟩
          rw [← hstep]
          by_cases hm : n ∈ L
          · rw [if_pos hm]
            rw [decide_eq_true hm, Bool.true_and] at hb
            rw [no_ix hos (by simpa using hb), List.append_nil]
          · rw [if_neg hm]
      · obtain ⟨x10, x11, ul, L, rfl, e10, hu, hup, hLl⟩ := pp
        rw [Int.toNat_natCast, hul] at hLl
        rw [Int.toNat_natCast, hul, Nat.sub_self, up_skip T.length [last] (m := last) (fun x hx => by rw [List.mem_singleton] at hx; omega) (by omega)] at hup
        have hL : L = used T last := hup
        -- order
        refine q_order (k := 12) (L := L) (ev_var rfl) hu (by omega) fun os b H14 eb hpw hmem hb14 => ?_
        have ho : os = (order T last).map fun n : Nat => (n : Int) := order_int hto hpw (by rw [← hL]; exact hmem)
        rw [ho, ← nats_ints] at hb14
        refine st_is (σ' := [some (.ref sa), some (.int (dg : Int)), some (.ref Dl), none, some (.ref fa), some (.ref kl), some (.ref pl), x7, x8, some (.ref ul), x10, x11, some (.ref b), none, none, none, none, none]) rfl ?_
        have e14 := e10.trans eb
        have hOl : (order T last).length ≤ last + 1 := by
          rw [← picked_len]
          exact picked_le T last
        have hOn := order_nodup T last
        have hOa : ∀ j x, (order T last)[j]? = some x → x ∈ used T last ∧ rank T last x = j := fun j x hx => by
          have hm := (mem_order hto).mp (List.mem_of_getElem? hx)
          refine ⟨hm, ?_⟩
          have h1 := order_at hto hm
          obtain ⟨h2, h3⟩ := List.getElem?_eq_some_iff.mp hx
          obtain ⟨h4, h5⟩ := List.getElem?_eq_some_iff.mp h1
          exact (List.getElem_inj hOn).mp (h5.trans h3.symm)
        -- moves
        refine q_newK (k := 13) fun mp H15 nmp e15 hmp0 => ?_
        refine st_is (σ' := [some (.ref sa), some (.int (dg : Int)), some (.ref Dl), none, some (.ref fa), some (.ref kl), some (.ref pl), x7, x8, some (.ref ul), x10, x11, some (.ref b), some (.ref mp), none, none, none, none]) rfl ?_
        refine q_forR1 (n := ((nats (order T last)).length : Int)) (ea_cons (ev_cb (ea_cons (ev_var rfl) ea_nil) (rc_lenL (sq_of (e15 _ _ hb14)))) ea_nil) ⟨by omega, by unfold nats; rw [List.length_map]; omega⟩ (fun i σ2 H2 => ∃ x10 kvs, σ2 = [some (.ref sa), some (.int (dg : Int)), some (.ref Dl), none, some (.ref fa), some (.ref kl), some (.ref pl), x7, x8, some (.ref ul), x10, x11, some (.ref b), some (.ref mp), none, none, none, none] ∧ Ex H14 H2 ∧ H2 mp = some (.dK kvs) ∧ kvs.length ≤ i ∧ ∀ j x, j < i → (order T last)[j]? = some x → valV kvs (Sum.inl (x : Int)) = some (.int (j : Int)))
          (fun H16 e16 => ⟨_, [], rfl, e15.trans e16, e16 _ _ hmp0, Nat.le_refl 0, fun j x hj => absurd hj (Nat.not_lt_zero _)⟩) (fun i σ2 H16 hi pp => ?_) (fun σ2 H16 pp => ?_)
        · obtain ⟨x10, kvs, rfl, e16, hmp, hkl, hkv⟩ := pp
          have hi2 : i < (order T last).length := by
            have : (nats (order T last)).length = (order T last).length := List.length_map ..
            omega
          have hox : (order T last)[i]? = some (order T last)[i] := List.getElem?_eq_getElem hi2
          have hix : atI (nats (order T last)) (i : Int) = some (.int ((order T last)[i] : Nat)) := by
            refine atI_nat ?_
            unfold nats
            rw [List.getElem?_map, hox]
            rfl
          refine st_is (σ' := [some (.ref sa), some (.int (dg : Int)), some (.ref Dl), none, some (.ref fa), some (.ref kl), some (.ref pl), x7, x8, some (.ref ul), some (.int (i : Int)), x11, some (.ref b), some (.ref mp), none, none, none, none]) rfl ?_
          refine ⟨_, rfl, _, rfl, _, rfl, _, rfl, b, _, (i : Int), _, rfl, rfl, sq_of (e16 _ _ hb14), hix, mp, _, rfl, DPut.k (k := Sum.inl ((order T last)[i] : Int)) hmp (sz_lt (by omega)), ?_⟩
          refine ⟨_, putK kvs (Sum.inl ((order T last)[i] : Int)) (.int (i : Int)), rfl, Ex.mut e16 nmp, upd_same, ?_, fun j x hj hx => ?_⟩
          · unfold putK
            by_cases hc : (kvs.any fun kv => decide (kv.1 = Sum.inl ((order T last)[i] : Int))) = true
            · rw [if_pos hc, List.length_map]
              omega
            · rw [if_neg hc, List.length_append]
              exact Nat.succ_le_succ hkl
          · rw [valV_put]
            by_cases hji : j = i
            · subst hji
              rw [hox] at hx
              cases Option.some.inj hx
              rw [if_pos rfl]
            · rw [if_neg (fun z => ?_), hkv j x (by omega) hx]
              have hz : (x : Int) = ((order T last)[i] : Int) := Sum.inl.inj z
              have hz2 : x = (order T last)[i] := by omega
              rw [hz2] at hx
              obtain ⟨h2, h3⟩ := List.getElem?_eq_some_iff.mp hx
              exact hji ((List.getElem_inj hOn).mp h3)
        · obtain ⟨x10, kvs, rfl, e16, hmp, hkl, hkv⟩ := pp
          have hnl : (((nats (order T last)).length : Nat) : Int).toNat = (order T last).length := by
            rw [Int.toNat_natCast]
            exact List.length_map ..
          rw [hnl] at hkv
          have hkv2 : ∀ j, j ∈ used T last → valV kvs (Sum.inl (j : Int)) = some (.int (rank T last j : Int)) := fun j hj => by
            have := order_at hto hj
            exact hkv _ _ (List.getElem?_eq_some_iff.mp this).1 this
          have e18 := e14.trans e16
          -- due
          refine q_asgF (ef_lc (xs := nats (order T last)) (ss := picked T last) (ev_var rfl) (sq_of (e16 _ _ hb14)) (by rw [picked_len]; exact List.length_map ..) (by rw [picked_len]; omega) (fun x => rfl) (fun i x s H17 e17 hx hs Q1 k1 => ?_)) fun da H18 vs e19 hda hds => ?_
          · obtain ⟨y, hy, rfl⟩ : ∃ y, (order T last)[i]? = some y ∧ x = V.int ((y : Nat) : Int) := by
              unfold nats at hx
              rw [List.getElem?_map] at hx
              obtain ⟨y, h1, h2⟩ := Option.map_eq_some_iff.mp hx
              exact ⟨y, h1, h2.symm⟩
            obtain ⟨hyu, hyr⟩ := hOa i y hy
            have hyT : y < T.length := by
              have := (mem_order hto).mpr hyu
              unfold order at this
              rw [List.mem_filter, List.mem_range] at this
              omega
            have h1 : us[y]? = some us[y] := List.getElem?_eq_getElem (by omega)
            obtain ⟨st, h2, p, hpv, h3⟩ := hks.get h1
            rw [hpv] at h1
            have hT : T.getD y ("pi", []) = st := by
              rw [List.getD_eq_getElem?_getD, h2]
              rfl
            have hsv : s = ren (rank T last) st := by
              have := picked_at hto hyu
              rw [hyr, hs, hT] at this
              exact Option.some.inj this
            have hos := hto y st h2
            have e20 := e18.trans e17
            rw [hsv] at k1
            refine ⟨_, rfl, _, rfl, kl, us, ((y : Nat) : Int), _, rfl, rfl, sq_of (e20 _ _ hk), atI_nat h1, _, rfl, .ref p, st, mp, rank T last, y, rfl, ⟨p, rfl, e20 _ _ h3⟩, hos, fun j hj H21 e21 H22 e22 Q2 q2 => .inr ⟨mp, .int (rank T last j : Int), rfl, ?_, q2 H22 (Ex.refl _)⟩, fun v H21 e21 h21 => k1 v H21 e21 h21⟩
            have hju : j ∈ used T last := used_ix hto hyu (by rw [hT]; exact hj)
            rw [← hkv2 j hju]
            exact DGet.k (k := Sum.inl (j : Int)) ((e17.trans (e21.trans e22)) _ _ hmp)
          · refine st_is (σ' := [some (.ref sa), some (.int (dg : Int)), some (.ref Dl), none, some (.ref fa), some (.ref kl), some (.ref pl), x7, x8, some (.ref ul), x10, x11, some (.ref b), some (.ref mp), some (.ref da), none, none, none]) rfl ?_
            rw [← htid] at hds
            have e5a := (e8.trans e18).trans e19
            have hfA := e5a _ _ hf
            have hfsA := hfs.mono e5a
            clear hkv hkv2 hmp hmp0 hOa hOn hOl hL hup hto hlast htid hTl
            have sT : SpF spTidied [.ref fa] H18 (tidy ff) := fun H4 e4 Q4 q4 E4 => ⟨fa, fs, ff, rfl, e4 _ _ hfA, hfsA.mono e4, hfo, hfn, by omega, q4⟩
            refine q_asgF (ef_call (ea_cons (ev_var rfl) ea_nil) sT) fun aa H19 as e20 haa has => ?_
            refine st_is (σ' := [some (.ref sa), some (.int (dg : Int)), some (.ref Dl), none, some (.ref fa), some (.ref kl), some (.ref pl), x7, x8, some (.ref ul), x10, x11, some (.ref b), some (.ref mp), some (.ref da), some (.ref aa), none, none]) rfl ?_
            have hto := tidy_ok hfo hfn
            have htn : tidy ff ≠ [] := List.length_pos_iff.mp (tidy_ne ff)
            have htl := tidy_le hfo hfn
            have hoks := hto.oks
            have sT2 : SpF spTidied [.ref aa] H19 (tidy ff) := fun H4 e4 Q4 q4 E4 => ⟨aa, as, tidy ff, rfl, e4 _ _ haa, has.mono e4, hto, htn, by omega, by rw [tidy_tidy hfo hfn]; exact q4⟩
            refine q_when (b := false) (et_is (et_or (a := false) (et_is (et_not (et_B (ev_cb (ea_cons (ev_var rfl) (ea_cons ev_c ea_nil)) (rc_isiT (K := K) haa)))) rfl)
              fun _ => et_or (a := false) (et_test (ev_op (ev_var rfl) (ev_var rfl) (rv_neS (d := foD (tidy ff)) (.tup (st_of haa) has.dp) (.tup (st_of (e20 _ _ hda)) (hds.mono e20).dp) (sh_form hoks))))
              fun _ => et_or (a := false) (et_is (et_test (ev_op (ev_call (z := .bl true) (ea_cons (ev_var rfl) ea_nil) (fun H5 e5 Q5 q5 E5 => ⟨aa, as, tidy ff, rfl, e5 _ _ haa, has.mono e5, hto, htn, q5⟩)) ev_c rv_notB)) (b := false) rfl)
              fun _ => et_test (ev_neFV (ef_call (ea_cons (ev_var rfl) ea_nil) sT2) (ev_var rfl) haa has hoks)) rfl) (fun hb => nomatch hb) fun _ H20 e21 => ?_
            have eA := e20.trans e21
            replace hfA := eA _ _ hfA
            replace hfsA := hfsA.mono eA
            refine q_forNT (xs := (["number", "pi", "add", "times", "root", "log"] : List Str).map V.str) (eu_tup (ea_cons ev_c (ea_cons ev_c (ea_cons ev_c (ea_cons ev_c (ea_cons ev_c (ea_cons ev_c ea_nil)))))) (show 6 ≤ 100000 by decide)) (fun p i σ2 H2 => ∃ x16 x17, σ2 = [some (.ref sa), some (.int (dg : Int)), some (.ref Dl), none, some (.ref fa), some (.ref kl), some (.ref pl), x7, x8, some (.ref ul), x10, x11, some (.ref b), some (.ref mp), some (.ref da), some (.ref aa), x16, x17] ∧ Ex H20 H2 ∧ H2 p = some (.tup ((["number", "pi", "add", "times", "root", "log"] : List Str).map V.str))) (fun p H22 np e22 h22 => ⟨_, _, rfl, e22, h22⟩) (fun p i σ2 H2 _ pp => ?_) (fun p i x σ2 H2 hx pp => ?_) (fun p σ2 H2 pp => ?_)
            · obtain ⟨x16, x17, _, _, h⟩ := pp
              exact st_of h
            · obtain ⟨x16, x17, rfl, e22, h22⟩ := pp
              obtain ⟨wd, rfl⟩ : ∃ wd : Str, x = V.str wd := by
                rw [List.getElem?_map] at hx
                obtain ⟨n, h1, h2⟩ := Option.map_eq_some_iff.mp hx
                exact ⟨n, h2.symm⟩
              refine st_is (σ' := [some (.ref sa), some (.int (dg : Int)), some (.ref Dl), none, some (.ref fa), some (.ref kl), some (.ref pl), x7, x8, some (.ref ul), x10, x11, some (.ref b), some (.ref mp), some (.ref da), some (.ref aa), some (.str wd), x17]) rfl ?_
              refine q_asg (v := .int (cnt wd ff : Nat)) (ev_call (ea_cons (ev_var rfl) (ea_cons (ev_var rfl) ea_nil)) (fun H5 e5 Q5 q5 E5 => ⟨fa, fs, ff, wd, rfl, (e22.trans e5) _ _ hfA, hfsA.mono (e22.trans e5), by omega, q5⟩)) fun H23 e23 => ?_
              refine st_is (σ' := [some (.ref sa), some (.int (dg : Int)), some (.ref Dl), none, some (.ref fa), some (.ref kl), some (.ref pl), x7, x8, some (.ref ul), x10, x11, some (.ref b), some (.ref mp), some (.ref da), some (.ref aa), some (.str wd), some (.int (cnt wd ff : Nat))]) rfl ?_
              have e2223 := e22.trans e23
              refine s_when (b := false) (et_is (et_or (a := false) (et_is (et_not (et_B (ev_call (z := .bl true) (ea_cons (ev_var rfl) ea_nil) (fun H5 e5 Q5 q5 E5 => ⟨_, rfl, q5⟩)))) rfl) fun _ => (et_is (et_test (ev_op (ev_var rfl) (ev_count (x := wd) (e2223 _ _ hfA) (hfsA.mono e2223) (by omega) (ev_var rfl) (fun _ => rfl) (fun _ => rfl) (fun _ _ => ev_var rfl)) (rv_ne rfl))) (b := false) (by rw [decide_eq_true rfl]; rfl))) rfl) (fun hb => nomatch hb) fun _ H24 e24 => ⟨_, _, rfl, e2223.trans e24, (e23.trans e24) _ _ h22⟩
            · exact s_ret ev_c fun H24 e24 => fin H24
theorem all_mk {l : PySem.W.OpenLaw} {w : World} {K : PySem.W.Frag} {h : Heap} {mg : Str → Option Value} {fa f0 f1 f2 f3 f4 f5 f6 f7 f8 f9 f10 f11 f12 f13 f14 f15 f16 : Addr} (X : K.In h) (G : h.Ns mainGlobals mg) (hfa : mg "law" = some (.ref fa))
    {od0 an0 od1 an1 od2 an2 od3 an3 od4 an4 od5 an5 od6 an6 od7 an7 od8 an8 od9 an9 od10 an10 od11 an11 od12 an12 od13 an13 od14 an14 od15 an15 od16 an16 : Option Addr} {sl0 sl1 sl2 sl3 sl4 sl5 sl6 sl7 sl8 sl9 sl10 sl11 sl12 sl13 sl14 sl15 sl16 : Array (Option Value)} {oc0 kV0 dc0 pm0 cd0 ct0 oc1 kV1 dc1 pm1 cd1 ct1 oc2 kV2 dc2 pm2 cd2 ct2 oc3 kV3 dc3 pm3 cd3 ct3 oc4 kV4 dc4 pm4 cd4 ct4 oc5 kV5 dc5 pm5 cd5 ct5 oc6 kV6 dc6 pm6 cd6 ct6 oc7 kV7 dc7 pm7 cd7 ct7 oc8 kV8 dc8 pm8 cd8 ct8 oc9 kV9 dc9 pm9 cd9 ct9 oc10 kV10 dc10 pm10 cd10 ct10 oc11 kV11 dc11 pm11 cd11 ct11 oc12 kV12 dc12 pm12 cd12 ct12 oc13 kV13 dc13 pm13 cd13 ct13 oc14 kV14 dc14 pm14 cd14 ct14 oc15 kV15 dc15 pm15 cd15 ct15 oc16 kV16 dc16 pm16 cd16 ct16 : Value}
    (a0 : PySem.W.nsIn K mainGlobals "is_integer" = some (some (.ref f0))) (l0 : K.lookup f0 = some ⟨oc0, od0, .func (PySem.W.fnOf "is_integer" "is_integer" (defArgs s_is_integer) (defBody s_is_integer) (defScope s_is_integer) .none kV0 dc0 pm0 an0 cd0 ct0), sl0⟩) (c0 : PySem.W.codeIn K cd0 "is_integer" = true) (k0 : PySem.W.keepIn K (.ref f0) = true)
    (a1 : PySem.W.nsIn K mainGlobals "are_integers" = some (some (.ref f1))) (l1 : K.lookup f1 = some ⟨oc1, od1, .func (PySem.W.fnOf "are_integers" "are_integers" (defArgs s_are_integers) (defBody s_are_integers) (defScope s_are_integers) .none kV1 dc1 pm1 an1 cd1 ct1), sl1⟩) (c1 : PySem.W.codeIn K cd1 "are_integers" = true) (k1 : PySem.W.keepIn K (.ref f1) = true)
    (a2 : PySem.W.nsIn K mainGlobals "is_formula" = some (some (.ref f2))) (l2 : K.lookup f2 = some ⟨oc2, od2, .func (PySem.W.fnOf "is_formula" "is_formula" (defArgs s_is_formula) (defBody s_is_formula) (defScope s_is_formula) .none kV2 dc2 pm2 an2 cd2 ct2), sl2⟩) (c2 : PySem.W.codeIn K cd2 "is_formula" = true) (k2 : PySem.W.keepIn K (.ref f2) = true)
    (a3 : PySem.W.nsIn K mainGlobals "tidied" = some (some (.ref f3))) (l3 : K.lookup f3 = some ⟨oc3, od3, .func (PySem.W.fnOf "tidied" "tidied" (defArgs s_tidied) (defBody s_tidied) (defScope s_tidied) .none kV3 dc3 pm3 an3 cd3 ct3), sl3⟩) (c3 : PySem.W.codeIn K cd3 "tidied" = true) (k3 : PySem.W.keepIn K (.ref f3) = true)
    (a4 : PySem.W.nsIn K mainGlobals "steps_of" = some (some (.ref f4))) (l4 : K.lookup f4 = some ⟨oc4, od4, .func (PySem.W.fnOf "steps_of" "steps_of" (defArgs s_steps_of) (defBody s_steps_of) (defScope s_steps_of) .none kV4 dc4 pm4 an4 cd4 ct4), sl4⟩) (c4 : PySem.W.codeIn K cd4 "steps_of" = true) (k4 : PySem.W.keepIn K (.ref f4) = true)
    (a5 : PySem.W.nsIn K mainGlobals "is_step" = some (some (.ref f5))) (l5 : K.lookup f5 = some ⟨oc5, od5, .func (PySem.W.fnOf "is_step" "is_step" (defArgs s_is_step) (defBody s_is_step) (defScope s_is_step) .none kV5 dc5 pm5 an5 cd5 ct5), sl5⟩) (c5 : PySem.W.codeIn K cd5 "is_step" = true) (k5 : PySem.W.keepIn K (.ref f5) = true)
    (a6 : PySem.W.nsIn K mainGlobals "indexes_of" = some (some (.ref f6))) (l6 : K.lookup f6 = some ⟨oc6, od6, .func (PySem.W.fnOf "indexes_of" "indexes_of" (defArgs s_indexes_of) (defBody s_indexes_of) (defScope s_indexes_of) .none kV6 dc6 pm6 an6 cd6 ct6), sl6⟩) (c6 : PySem.W.codeIn K cd6 "indexes_of" = true) (k6 : PySem.W.keepIn K (.ref f6) = true)
    (a7 : PySem.W.nsIn K mainGlobals "moved" = some (some (.ref f7))) (l7 : K.lookup f7 = some ⟨oc7, od7, .func (PySem.W.fnOf "moved" "moved" (defArgs s_moved) (defBody s_moved) (defScope s_moved) .none kV7 dc7 pm7 an7 cd7 ct7), sl7⟩) (c7 : PySem.W.codeIn K cd7 "moved" = true) (k7 : PySem.W.keepIn K (.ref f7) = true)
    (a8 : PySem.W.nsIn K mainGlobals "merged" = some (some (.ref f8))) (l8 : K.lookup f8 = some ⟨oc8, od8, .func (PySem.W.fnOf "merged" "merged" (defArgs s_merged) (defBody s_merged) (defScope s_merged) .none kV8 dc8 pm8 an8 cd8 ct8), sl8⟩) (c8 : PySem.W.codeIn K cd8 "merged" = true) (k8 : PySem.W.keepIn K (.ref f8) = true)
    (a9 : PySem.W.nsIn K mainGlobals "merged_into" = some (some (.ref f9))) (l9 : K.lookup f9 = some ⟨oc9, od9, .func (PySem.W.fnOf "merged_into" "merged_into" (defArgs s_merged_into) (defBody s_merged_into) (defScope s_merged_into) .none kV9 dc9 pm9 an9 cd9 ct9), sl9⟩) (c9 : PySem.W.codeIn K cd9 "merged_into" = true) (k9 : PySem.W.keepIn K (.ref f9) = true)
    (a10 : PySem.W.nsIn K mainGlobals "used_steps" = some (some (.ref f10))) (l10 : K.lookup f10 = some ⟨oc10, od10, .func (PySem.W.fnOf "used_steps" "used_steps" (defArgs s_used_steps) (defBody s_used_steps) (defScope s_used_steps) .none kV10 dc10 pm10 an10 cd10 ct10), sl10⟩) (c10 : PySem.W.codeIn K cd10 "used_steps" = true) (k10 : PySem.W.keepIn K (.ref f10) = true)
    (a11 : PySem.W.nsIn K mainGlobals "_law_cell" = some (some (.ref f11))) (l11 : K.lookup f11 = some ⟨oc11, od11, .func (PySem.W.fnOf "_law_cell" "_law_cell" (defArgs s_law_cell) (defBody s_law_cell) (defScope s_law_cell) .none kV11 dc11 pm11 an11 cd11 ct11), sl11⟩) (c11 : PySem.W.codeIn K cd11 "_law_cell" = true) (k11 : PySem.W.keepIn K (.ref f11) = true)
    (a12 : PySem.W.nsIn K mainGlobals "_law_numbers" = some (some (.ref f12))) (l12 : K.lookup f12 = some ⟨oc12, od12, .func (PySem.W.fnOf "_law_numbers" "_law_numbers" (defArgs s_law_numbers) (defBody s_law_numbers) (defScope s_law_numbers) .none kV12 dc12 pm12 an12 cd12 ct12), sl12⟩) (c12 : PySem.W.codeIn K cd12 "_law_numbers" = true) (k12 : PySem.W.keepIn K (.ref f12) = true)
    (a13 : PySem.W.nsIn K mainGlobals "_law_is_integer" = some (some (.ref f13))) (l13 : K.lookup f13 = some ⟨oc13, od13, .func (PySem.W.fnOf "_law_is_integer" "_law_is_integer" (defArgs s_law_is_integer) (defBody s_law_is_integer) (defScope s_law_is_integer) .none kV13 dc13 pm13 an13 cd13 ct13), sl13⟩) (c13 : PySem.W.codeIn K cd13 "_law_is_integer" = true) (k13 : PySem.W.keepIn K (.ref f13) = true)
    (a14 : PySem.W.nsIn K mainGlobals "_law_formula" = some (some (.ref f14))) (l14 : K.lookup f14 = some ⟨oc14, od14, .func (PySem.W.fnOf "_law_formula" "_law_formula" (defArgs s_law_formula) (defBody s_law_formula) (defScope s_law_formula) .none kV14 dc14 pm14 an14 cd14 ct14), sl14⟩) (c14 : PySem.W.codeIn K cd14 "_law_formula" = true) (k14 : PySem.W.keepIn K (.ref f14) = true)
    (a15 : PySem.W.nsIn K mainGlobals "_law_moved" = some (some (.ref f15))) (l15 : K.lookup f15 = some ⟨oc15, od15, .func (PySem.W.fnOf "_law_moved" "_law_moved" (defArgs s_law_moved) (defBody s_law_moved) (defScope s_law_moved) .none kV15 dc15 pm15 an15 cd15 ct15), sl15⟩) (c15 : PySem.W.codeIn K cd15 "_law_moved" = true) (k15 : PySem.W.keepIn K (.ref f15) = true)
    (a16 : PySem.W.nsIn K mainGlobals "law" = some (some (.ref f16))) (l16 : K.lookup f16 = some ⟨oc16, od16, .func (PySem.W.fnOf "law" "law" (defArgs s_law) (defBody s_law) (defScope s_law) .none kV16 dc16 pm16 an16 cd16 ct16), sl16⟩) (c16 : PySem.W.codeIn K cd16 "law" = true) (k16 : PySem.W.keepIn K (.ref f16) = true)
    (z0 : PySem.W.nsIn K mainGlobals "len" = some none)
    (z1 : PySem.W.nsIn K mainGlobals "abs" = some none)
    (z2 : PySem.W.nsIn K mainGlobals "int" = some none)
    (z3 : PySem.W.nsIn K mainGlobals "bool" = some none)
    (z4 : PySem.W.nsIn K mainGlobals "str" = some none)
    (z5 : PySem.W.nsIn K mainGlobals "isinstance" = some none)
    (z6 : PySem.W.nsIn K mainGlobals "tuple" = some none)
    (z7 : PySem.W.nsIn K mainGlobals "list" = some none)
    (z8 : PySem.W.nsIn K mainGlobals "range" = some none)
    (z9 : PySem.W.nsIn K mainGlobals "max" = some none)
    (z10 : PySem.W.nsIn K mainGlobals "enumerate" = some none)
    (z11 : PySem.W.nsIn K mainGlobals "reversed" = some none)
    (z12 : PySem.W.nsIn K mainGlobals "sorted" = some none)
    (z13 : PySem.W.nsIn K mainGlobals "set" = some none)
    {dd : Addr} {es : Array DictEntry} {nd : Nat} {t0 t1 t2 t3 t4 t5 t6 t7 t8 t9 t10 t11 t12 t13 : Tok} (zc : PySem.W.nsIn K mainGlobals "COUNTS" = some (some (.ref dd))) (zl : K.lookup dd = some ⟨.type "dict", none, .dict es nd, #[]⟩) (zk : PySem.W.KeysLit w.params es.toList) (zo : (dd == sysModules) = false)
    (y0 : PySem.W.nsIn K dd "number" = some (some (.int 2 t0)))
    (y1 : PySem.W.nsIn K dd "pi" = some (some (.int 0 t1)))
    (y2 : PySem.W.nsIn K dd "add" = some (some (.int 2 t2)))
    (y3 : PySem.W.nsIn K dd "subtract" = some (some (.int 2 t3)))
    (y4 : PySem.W.nsIn K dd "times" = some (some (.int 2 t4)))
    (y5 : PySem.W.nsIn K dd "divide" = some (some (.int 2 t5)))
    (y6 : PySem.W.nsIn K dd "root" = some (some (.int 1 t6)))
    (y7 : PySem.W.nsIn K dd "sine" = some (some (.int 1 t7)))
    (y8 : PySem.W.nsIn K dd "cosine" = some (some (.int 1 t8)))
    (y9 : PySem.W.nsIn K dd "exp" = some (some (.int 1 t9)))
    (y10 : PySem.W.nsIn K dd "log" = some (some (.int 1 t10)))
    (y11 : PySem.W.nsIn K dd "arctan" = some (some (.int 1 t11)))
    (y12 : PySem.W.nsIn K dd "arcsine" = some (some (.int 1 t12)))
    (y13 : PySem.W.nsIn K dd "arccosine" = some (some (.int 1 t13)))
    : ∃ fd : FuncData, (∀ (s : Shared) (v : Value), BindsTo s fd ⟨[v], []⟩ [("script", v)]) ∧ ∀ base : Heap, K.In base → base.Ns mainGlobals mg → FnOk l.prog w K mg base CX0 5 fa fd ["script"] (spLaw K) := by
  have e := hfa.symm.trans (PySem.W.mg_of X G a16)
  cases e
  have F_is_integer := fun_mk (st := s_is_integer) l0 c0 k0
  have F_are_integers := fun_mk (st := s_are_integers) l1 c1 k1
  have F_is_formula := fun_mk (st := s_is_formula) l2 c2 k2
  have F_tidied := fun_mk (st := s_tidied) l3 c3 k3
  have F_steps_of := fun_mk (st := s_steps_of) l4 c4 k4
  have F_is_step := fun_mk (st := s_is_step) l5 c5 k5
  have F_indexes_of := fun_mk (st := s_indexes_of) l6 c6 k6
  have F_moved := fun_mk (st := s_moved) l7 c7 k7
  have F_merged := fun_mk (st := s_merged) l8 c8 k8
  have F_merged_into := fun_mk (st := s_merged_into) l9 c9 k9
  have F_used_steps := fun_mk (st := s_used_steps) l10 c10 k10
  have F_law_cell := fun_mk (st := s_law_cell) l11 c11 k11
  have F_law_numbers := fun_mk (st := s_law_numbers) l12 c12 k12
  have F_law_is_integer := fun_mk (st := s_law_is_integer) l13 c13 k13
  have F_law_formula := fun_mk (st := s_law_formula) l14 c14 k14
  have F_law_moved := fun_mk (st := s_law_moved) l15 c15 k15
  have F_law := fun_mk (st := s_law) l16 c16 k16
  have b_is_integer := F_is_integer.binds (ps := ["value"]) fun _ _ _ _ _ _ us hl => match us, hl with | [_], _ => rfl
  have g_is_integer := PySem.W.mg_of X G a0
  have b_are_integers := F_are_integers.binds (ps := ["values"]) fun _ _ _ _ _ _ us hl => match us, hl with | [_], _ => rfl
  have g_are_integers := PySem.W.mg_of X G a1
  have b_is_formula := F_is_formula.binds (ps := ["value"]) fun _ _ _ _ _ _ us hl => match us, hl with | [_], _ => rfl
  have g_is_formula := PySem.W.mg_of X G a2
  have b_tidied := F_tidied.binds (ps := ["formula"]) fun _ _ _ _ _ _ us hl => match us, hl with | [_], _ => rfl
  have g_tidied := PySem.W.mg_of X G a3
  have b_steps_of := F_steps_of.binds (ps := ["formula", "word"]) fun _ _ _ _ _ _ us hl => match us, hl with | [_, _], _ => rfl
  have g_steps_of := PySem.W.mg_of X G a4
  have b_is_step := F_is_step.binds (ps := ["step", "place"]) fun _ _ _ _ _ _ us hl => match us, hl with | [_, _], _ => rfl
  have g_is_step := PySem.W.mg_of X G a5
  have b_indexes_of := F_indexes_of.binds (ps := ["step"]) fun _ _ _ _ _ _ us hl => match us, hl with | [_], _ => rfl
  have g_indexes_of := PySem.W.mg_of X G a6
  have b_moved := F_moved.binds (ps := ["step", "places"]) fun _ _ _ _ _ _ us hl => match us, hl with | [_, _], _ => rfl
  have g_moved := PySem.W.mg_of X G a7
  have b_merged := F_merged.binds (ps := ["formula"]) fun _ _ _ _ _ _ us hl => match us, hl with | [_], _ => rfl
  have g_merged := PySem.W.mg_of X G a8
  have b_merged_into := F_merged_into.binds (ps := ["kept", "place_of", "formula"]) fun _ _ _ _ _ _ us hl => match us, hl with | [_, _, _], _ => rfl
  have g_merged_into := PySem.W.mg_of X G a9
  have b_used_steps := F_used_steps.binds (ps := ["steps", "last"]) fun _ _ _ _ _ _ us hl => match us, hl with | [_, _], _ => rfl
  have g_used_steps := PySem.W.mg_of X G a10
  have b_law_cell := F_law_cell.binds (ps := ["script", "k"]) fun _ _ _ _ _ _ us hl => match us, hl with | [_, _], _ => rfl
  have g_law_cell := PySem.W.mg_of X G a11
  have b_law_numbers := F_law_numbers.binds (ps := ["script", "first", "most"]) fun _ _ _ _ _ _ us hl => match us, hl with | [_, _, _], _ => rfl
  have g_law_numbers := PySem.W.mg_of X G a12
  have b_law_is_integer := F_law_is_integer.binds (ps := ["actual"]) fun _ _ _ _ _ _ us hl => match us, hl with | [_], _ => rfl
  have g_law_is_integer := PySem.W.mg_of X G a13
  have b_law_formula := F_law_formula.binds (ps := ["numbers", "most"]) fun _ _ _ _ _ _ us hl => match us, hl with | [_, _], _ => rfl
  have g_law_formula := PySem.W.mg_of X G a14
  have b_law_moved := F_law_moved.binds (ps := ["step", "places"]) fun _ _ _ _ _ _ us hl => match us, hl with | [_, _], _ => rfl
  have g_law_moved := PySem.W.mg_of X G a15
  have m_len := PySem.W.mg_none_of X G z0
  have m_abs := PySem.W.mg_none_of X G z1
  have m_int := PySem.W.mg_none_of X G z2
  have m_bool := PySem.W.mg_none_of X G z3
  have m_str := PySem.W.mg_none_of X G z4
  have m_isinstance := PySem.W.mg_none_of X G z5
  have m_tuple := PySem.W.mg_none_of X G z6
  have m_list := PySem.W.mg_none_of X G z7
  have m_range := PySem.W.mg_none_of X G z8
  have m_max := PySem.W.mg_none_of X G z9
  have m_enumerate := PySem.W.mg_none_of X G z10
  have m_reversed := PySem.W.mg_none_of X G z11
  have m_sorted := PySem.W.mg_none_of X G z12
  have m_set := PySem.W.mg_none_of X G z13
  have g_COUNTS := PySem.W.mg_of X G zc
  have C : Counts K w dd := ⟨⟨es, nd, zl, zk, zo⟩, ⟨_, y0⟩, ⟨_, y1⟩, w2_all ⟨⟨_, y2⟩, ⟨_, y3⟩, ⟨_, y4⟩, ⟨_, y5⟩⟩, w1_all ⟨⟨_, y6⟩, ⟨_, y7⟩, ⟨_, y8⟩, ⟨_, y9⟩, ⟨_, y10⟩, ⟨_, y11⟩, ⟨_, y12⟩, ⟨_, y13⟩⟩⟩
  exact ⟨PySem.W.fnOf "law" "law" (defArgs s_law) (defBody s_law) (defScope s_law) .none kV16 dc16 pm16 an16 cd16 ct16, fun s v => .of_eq rfl, fun base _ _ => ok_law F_law F_is_integer F_are_integers F_is_formula F_tidied F_steps_of F_is_step F_indexes_of F_moved F_merged F_merged_into F_used_steps F_law_cell F_law_numbers F_law_is_integer F_law_formula F_law_moved b_is_integer b_are_integers b_is_formula b_tidied b_steps_of b_is_step b_indexes_of b_moved b_merged b_merged_into b_used_steps b_law_cell b_law_numbers b_law_is_integer b_law_formula b_law_moved g_is_integer g_are_integers g_is_formula g_tidied g_steps_of g_is_step g_indexes_of g_moved g_merged g_merged_into g_used_steps g_law_cell g_law_numbers g_law_is_integer g_law_formula g_law_moved g_COUNTS C m_len m_abs m_int m_bool m_str m_isinstance m_tuple m_list m_range m_max m_enumerate m_reversed m_sorted m_set⟩
end
end K08
open PySem PySem.W PyProof.Rows
set_option maxHeartbeats 0 in
theorem PySem.Challenge.cw_portolan_k08_formulas_tidied_holds : PySem.Challenge.rw_portolan_k08_formulas_tidied.Holds := by
  w_on; o_law; k_head; (case hw => w_witness2)
  k_fill
  refine L2.walk_of (l := PySem.Challenge.rw_portolan_k08_formulas_tidied) (n := 63) (k := 5) (x := "script") (CX := fun _ => L2.CX0) (sp := fun w => K08.spLaw _) rfl (by decide) rfl ⟨rfl, by decide, by decide⟩ (fun w h Y => PySem.W.kIn_of Y) ?F (fun _ _ a ns hl _ hS => ⟨a, ns, rfl, hS, hl, fun _ => rfl⟩) (fun _ _ _ _ _ h => h)
  case F =>
    intro w mg fa h KX G hmg
    refine' K08.all_mk KX G hmg ?a0 ?l0 ?c0 ?k0 ?a1 ?l1 ?c1 ?k1 ?a2 ?l2 ?c2 ?k2 ?a3 ?l3 ?c3 ?k3 ?a4 ?l4 ?c4 ?k4 ?a5 ?l5 ?c5 ?k5 ?a6 ?l6 ?c6 ?k6 ?a7 ?l7 ?c7 ?k7 ?a8 ?l8 ?c8 ?k8 ?a9 ?l9 ?c9 ?k9 ?a10 ?l10 ?c10 ?k10 ?a11 ?l11 ?c11 ?k11 ?a12 ?l12 ?c12 ?k12 ?a13 ?l13 ?c13 ?k13 ?a14 ?l14 ?c14 ?k14 ?a15 ?l15 ?c15 ?k15 ?a16 ?l16 ?c16 ?k16 ?z0 ?z1 ?z2 ?z3 ?z4 ?z5 ?z6 ?z7 ?z8 ?z9 ?z10 ?z11 ?z12 ?z13 ?zc ?zl ?zk ?zo ?y0 ?y1 ?y2 ?y3 ?y4 ?y5 ?y6 ?y7 ?y8 ?y9 ?y10 ?y11 ?y12 ?y13
    (case a0 => k_is); (case l0 => k_is); (case c0 => k_is); (case k0 => k_is); (case a1 => k_is); (case l1 => k_is); (case c1 => k_is); (case k1 => k_is); (case a2 => k_is); (case l2 => k_is); (case c2 => k_is); (case k2 => k_is); (case a3 => k_is); (case l3 => k_is); (case c3 => k_is); (case k3 => k_is); (case a4 => k_is); (case l4 => k_is); (case c4 => k_is); (case k4 => k_is); (case a5 => k_is); (case l5 => k_is); (case c5 => k_is); (case k5 => k_is); (case a6 => k_is); (case l6 => k_is); (case c6 => k_is); (case k6 => k_is); (case a7 => k_is); (case l7 => k_is); (case c7 => k_is); (case k7 => k_is); (case a8 => k_is); (case l8 => k_is); (case c8 => k_is); (case k8 => k_is); (case a9 => k_is); (case l9 => k_is); (case c9 => k_is); (case k9 => k_is); (case a10 => k_is); (case l10 => k_is); (case c10 => k_is); (case k10 => k_is); (case a11 => k_is); (case l11 => k_is); (case c11 => k_is); (case k11 => k_is); (case a12 => k_is); (case l12 => k_is); (case c12 => k_is); (case k12 => k_is); (case a13 => k_is); (case l13 => k_is); (case c13 => k_is); (case k13 => k_is); (case a14 => k_is); (case l14 => k_is); (case c14 => k_is); (case k14 => k_is); (case a15 => k_is); (case l15 => k_is); (case c15 => k_is); (case k15 => k_is); (case a16 => k_is); (case l16 => k_is); (case c16 => k_is); (case k16 => k_is); (case z0 => k_is); (case z1 => k_is); (case z2 => k_is); (case z3 => k_is); (case z4 => k_is); (case z5 => k_is); (case z6 => k_is); (case z7 => k_is); (case z8 => k_is); (case z9 => k_is); (case z10 => k_is); (case z11 => k_is); (case z12 => k_is); (case z13 => k_is); (case zc => k_is); (case zl => k_is); (case zk => k_keys); (case zo => decide); (case y0 => k_is); (case y1 => k_is); (case y2 => k_is); (case y3 => k_is); (case y4 => k_is); (case y5 => k_is); (case y6 => k_is); (case y7 => k_is); (case y8 => k_is); (case y9 => k_is); (case y10 => k_is); (case y11 => k_is); (case y12 => k_is); (case y13 => k_is)

