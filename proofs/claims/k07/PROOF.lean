import PyProof.Rows.All
import Wide.All
import OpenK.AllK
import Wide.FinOn
import HandS.ForMost
import HandS.Evl
import HandS.Wide
import HandS.WideBits
import HandS.Style
import HandS.IsInst
import PyProof.P3Eq
import KE.GoesEnum
import HandS.Star
import HandS.Conv
import HandS.More
import HandS.Walk
import PySem.Challenge.RW_portolan_k07_formulas_made
set_option Elab.async false
set_option linter.all false
set_option maxRecDepth 100000
set_option maxHeartbeats 4000000
/-! Own rules over the layer: what a reading evaluates to, for texts that change nothing. -/
namespace Cm
open PySem PySem.Spec PyProof.Rows L2 Evl

theorem ex_app {H H' : Hp} (e : Ex H H') {p : Addr} {o : HO} (h : H p = some o) : H' p = some o := e p o h
/-- a new tuple comes back -/
def RetU (xs : List V) (H : Hp) (Q : VK) : Prop := ∀ p H2, H p = none → Ex H H2 → H2 p = some (.tup xs) → Q (.ref p) H2
def SpU (sp : Sp) (vs : List V) (H : Hp) (xs : List V) : Prop := ∀ H1, Ex H H1 → ∀ Q : VK, (∀ p H2, H1 p = none → Ex H1 H2 → H2 p = some (.tup xs) → Q (.ref p) H2) → ∀ E : XK, sp vs H1 Q E
section
variable {K : PySem.W.Frag} {σ : L2.St} {H H' : Hp} {ta tb tc te tx : TE} {t u : TT} {x y z v w : V} {r r' : R2} {D : Ends} {tz : TS}
/-- the slots written out anew -/
theorem st_is {σ' : L2.St} {ts : TS} (e : σ = σ') (h : ts D σ' H) : ts D σ H := by
  rw [e]
  exact h
theorem RetU.go {xs : List V} {Q : VK} (k : RetU xs H Q) (e : Ex H H') {p : Addr} {H2 : Hp} (hp : H' p = none) (e2 : Ex H' H2) (h : H2 p = some (.tup xs)) : Q (.ref p) H2 := k p H2 (fresh_back e hp) (e.trans e2) h
theorem eu_call {sp : Sp} {dvs vs xs : List V} {E : XK} {ta : TA} (h : EvA ta σ H vs) (hs : SpU sp (vs ++ dvs) H xs) : EvU (tCall sp dvs E ta) σ H xs := fun H1 e Q q =>
  h H1 e _ fun H2 e2 => hs H2 (e.trans e2) Q (fun p H3 hp e3 h3 => q p H3 (fresh_back e2 hp) (e2.trans e3) h3) E
theorem eu_is {xs ys : List V} (h : EvU te σ H xs) (e : xs = ys) : EvU te σ H ys := by
  rw [← e]
  exact h
/-- a call whose first argument is a new tuple -/
theorem ev_callU {sp : Sp} {dvs vs xs : List V} {E : XK} {tr : TA} (h1 : EvU te σ H xs) (h2 : EvA tr σ H vs) (hs : ∀ p H1, Ex H H1 → H1 p = some (.tup xs) → SpV sp (.ref p :: vs ++ dvs) H1 z) : Ev (tCall sp dvs E (tCons te tr)) σ H z := fun H1 e Q q =>
  h1 H1 e _ fun p H2 np e2 hp => h2 H2 (e.trans e2) _ fun H3 e3 => hs p H3 ((e.trans e2).trans e3) (e3 _ _ hp) H3 (Ex.refl H3) Q (fun H4 e4 => q H4 ((e2.trans e3).trans e4)) E
/-- .. whose second argument is a new tuple -/
theorem ev_callVU {sp : Sp} {dvs vs xs : List V} {E : XK} {tr : TA} (h0 : Ev ta σ H x) (h1 : EvU te σ H xs) (h2 : EvA tr σ H vs) (hs : ∀ p H1, Ex H H1 → H1 p = some (.tup xs) → SpV sp (x :: .ref p :: vs ++ dvs) H1 z) : Ev (tCall sp dvs E (tCons ta (tCons te tr))) σ H z := fun H1 e Q q =>
  h0 H1 e _ fun H2 e2 => h1 H2 (e.trans e2) _ fun p H3 np e3 hp => h2 H3 ((e.trans e2).trans e3) _ fun H4 e4 => hs p H4 (((e.trans e2).trans e3).trans e4) (e4 _ _ hp) H4 (Ex.refl H4) Q (fun H5 e5 => q H5 (((e2.trans e3).trans e4).trans e5)) E
theorem ev_chain {b c : Bool} (ha : Ev ta σ H x) (hb : Ev tb σ H y) (hc : Ev tc σ H w) (h1 : RV r x y H (.bl b)) (h2 : RV r' y w H (.bl c)) : Ev (tChain r r' ta tb tc) σ H (.bl (b && c)) := fun H1 e Q q =>
  ha H1 e _ fun H2 e2 => hb H2 (e.trans e2) _ fun H3 e3 => h1 H3 ((e.trans e2).trans e3) _ fun H4 e4 => ⟨b, rfl, by
    cases b with
    | true =>
      show tc σ H4 _
      exact hc H4 (((e.trans e2).trans e3).trans e4) _ fun H5 e5 => h2 H5 ((((e.trans e2).trans e3).trans e4).trans e5) Q fun H6 e6 => q H6 ((((e2.trans e3).trans e4).trans e5).trans e6)
    | false =>
      show Q (.bl false) H4
      exact q H4 ((e2.trans e3).trans e4)⟩
theorem rv_shl {i : Int} {k : Nat} (h : CShl i (k : Int)) : RV (fun x y H Q => ∃ (i : Int) (k : Nat), x = .int i ∧ y = .int (k : Int) ∧ CShl i (k : Int) ∧ Q (.int (i * 2 ^ k)) H) (.int i) (.int (k : Int)) H (.int (i * 2 ^ k)) :=
  fun H1 _ _ q => ⟨i, k, rfl, rfl, h, q H1 (Ex.refl H1)⟩
theorem rv_shr {i : Int} {k : Nat} : RV (fun x y H Q => ∃ (i : Int) (k : Nat), x = .int i ∧ y = .int (k : Int) ∧ Q (.int (i / 2 ^ k)) H) (.int i) (.int (k : Int)) H (.int (i / 2 ^ k)) :=
  fun H1 _ _ q => ⟨i, k, rfl, rfl, q H1 (Ex.refl H1)⟩
theorem rv_isB {a b : Bool} : RV rIsB (.bl a) (.bl b) H (.bl (decide (a = b))) := fun H1 _ _ q => ⟨a, b, rfl, rfl, q H1 (Ex.refl H1)⟩
theorem rv_notB {a b : Bool} : RV rNotB (.bl a) (.bl b) H (.bl (!decide (a = b))) := fun H1 _ _ q => ⟨a, b, rfl, rfl, q H1 (Ex.refl H1)⟩
theorem rv_isN : RV (fun x y H Q => y = .non ∧ Q (.bl (decide (x = .non))) H) x .non H (.bl (decide (x = .non))) := fun H1 _ _ q => ⟨rfl, q H1 (Ex.refl H1)⟩
theorem rv_notN : RV (fun x y H Q => y = .non ∧ Q (.bl (!decide (x = .non))) H) x .non H (.bl (!decide (x = .non))) := fun H1 _ _ q => ⟨rfl, q H1 (Ex.refl H1)⟩
theorem rc_abs {i : Int} : RC (fun xs H Q => ∃ i, xs = [.int i] ∧ Q (.int (if i < 0 then -i else i)) H) [.int i] H (.int (i.natAbs : Int)) := fun H1 _ Q q => ⟨i, rfl, by
  have e : (if i < 0 then -i else i) = (i.natAbs : Int) := by split <;> omega
  rw [e]
  exact q H1 (Ex.refl H1)⟩
theorem rc_max2 {i j : Int} : RC (fun xs H Q => ∃ i j, xs = [.int i, .int j] ∧ Q (.int (if j > i then j else i)) H) [.int i, .int j] H (.int (max i j)) := fun H1 _ Q q => ⟨i, j, rfl, by
  have e : (if j > i then j else i) = max i j := by split <;> omega
  rw [e]
  exact q H1 (Ex.refl H1)⟩
theorem rc_min2 {i j : Int} : RC (fun xs H Q => ∃ i j, xs = [.int i, .int j] ∧ Q (.int (if j < i then j else i)) H) [.int i, .int j] H (.int (min i j)) := fun H1 _ Q q => ⟨i, j, rfl, by
  have e : (if j < i then j else i) = min i j := by split <;> omega
  rw [e]
  exact q H1 (Ex.refl H1)⟩
theorem rc_intB {k : Bool} : RC (fun xs H Q => (∃ i, xs = [.int i] ∧ Q (.int i) H) ∨ ∃ k, xs = [.bl k] ∧ Q (.int (if k then 1 else 0)) H) [.bl k] H (.int (if k then 1 else 0)) := fun H1 _ Q q => Or.inr ⟨k, rfl, q H1 (Ex.refl H1)⟩
theorem rc_intI {i : Int} : RC (fun xs H Q => (∃ i, xs = [.int i] ∧ Q (.int i) H) ∨ ∃ k, xs = [.bl k] ∧ Q (.int (if k then 1 else 0)) H) [.int i] H (.int i) := fun H1 _ Q q => Or.inl ⟨i, rfl, q H1 (Ex.refl H1)⟩
theorem rc_isiT {p : Addr} {xs : List V} (h : H p = some (.tup xs)) : RC (rIsi K) [.ref p, .ty "tuple"] H (.bl true) := fun H1 e _ q =>
  ⟨.ref p, .ty "tuple", .type "tuple", .type "tuple", true, rfl, .ty _, .base (.tup (e _ _ h)), kit_ty (by decide +kernel), q H1 (Ex.refl H1)⟩
theorem rc_isiS {x : Str} : RC (rIsi K) [.str x, .ty "str"] H (.bl true) := fun H1 e _ q =>
  ⟨.str x, .ty "str", .type "str", .type "str", true, rfl, .ty _, .base (.str x), kit_ty (by decide +kernel), q H1 (Ex.refl H1)⟩
theorem rc_lenL {p : Addr} {xs : List V} (h : SqL K H p xs) : RC (fun xs H Q => ∃ x n, xs = [x] ∧ LenV K x H n ∧ Q (.int n) H) [.ref p] H (.int (xs.length : Int)) := fun H1 e _ q =>
  ⟨.ref p, (xs.length : Nat), rfl, .inl ⟨_, ex_l e h, rfl⟩, q H1 (Ex.refl H1)⟩
/-! ### data -/
mutual
theorem dp_mono (e : Ex H H') : ∀ (d : PyData) (v : V), Dp K H v d → Dp K H' v d
  | _, _, .non => .non
  | _, _, .bl b => .bl b
  | _, _, .int i => .int i
  | _, _, .str x => .str x
  | _, _, .lst h a => .lst (ex_l e h) (dps_mono e _ _ a)
  | _, _, .tup h a => .tup (ex_t e h) (dps_mono e _ _ a)
theorem dps_mono (e : Ex H H') : ∀ (ds : List PyData) (vs : List V), DpAll K H vs ds → DpAll K H' vs ds
  | _, _, .nil => .nil
  | _, _, .cons h t => .cons (dp_mono e _ _ h) (dps_mono e _ _ t)
end
theorem dpInts : ∀ (is : List Int), DpAll K H (is.map V.int) (is.map PyData.int)
  | [] => .nil
  | i :: r => .cons (.int i) (dpInts r)
theorem eqvS {d : PyData} (h : SeqAt.shaped d = true) : PyData.eqv d d = true := by
  unfold SeqAt.shaped at h
  rw [Bool.and_eq_true] at h
  exact PySem.SeqAt.eqv_refl d h.1
/-- the same data on both sides -/
theorem rv_neS {d : PyData} (hx : Dp K H x d) (hy : Dp K H y d) (hs : SeqAt.shaped d = true) : RV (rNeD K) x y H (.bl false) := fun H1 e Q q =>
  ⟨d, d, dp_mono e _ _ hx, dp_mono e _ _ hy, hs, hs, by
    rw [eqvS hs]
    exact q H1 (Ex.refl H1)⟩
theorem rv_eqS {d : PyData} (hx : Dp K H x d) (hy : Dp K H y d) (hs : SeqAt.shaped d = true) : RV (rEqD K) x y H (.bl true) := fun H1 e Q q =>
  ⟨d, d, dp_mono e _ _ hx, dp_mono e _ _ hy, hs, hs, by
    rw [eqvS hs]
    exact q H1 (Ex.refl H1)⟩
/-- a pair of ints -/
theorem dp2 {p : Addr} {i j : Int} (h : SqT K H p [.int i, .int j]) : Dp K H (.ref p) (.tuple [.int i, .int j]) := .tup h (.cons (.int i) (.cons (.int j) .nil))
theorem sh2 {i j : Int} : SeqAt.shaped (.tuple [.int i, .int j]) = true := rfl
end
/-! ### numbers -/
/-- a bound that omega does not look into -/
def Bd (k : Nat) (x : Int) : Prop := x.natAbs < 2 ^ k
theorem pow_pos (n : Nat) : (0 : Int) < 2 ^ n := PySem.W.kbt_pos n
theorem pow_abs (n : Nat) : ((2 : Int) ^ n).natAbs = 2 ^ n := by
  rw [Int.natAbs_pow]
  rfl
theorem ab_mono {x : Int} {a b : Nat} (h : x.natAbs < 2 ^ a) (hab : a ≤ b) : x.natAbs < 2 ^ b := Nat.lt_of_lt_of_le h (Nat.pow_le_pow_right (by decide) hab)
theorem ab_pow {n k : Nat} (h : n < k) : ((2 : Int) ^ n).natAbs < 2 ^ k := by
  rw [pow_abs]
  exact Nat.pow_lt_pow_right (by decide) h
theorem ab_shl {x : Int} {a n : Nat} (h : x.natAbs < 2 ^ a) : (x * 2 ^ n).natAbs < 2 ^ (a + n) := by
  rw [Int.natAbs_mul, pow_abs, Nat.pow_add]
  exact Nat.mul_lt_mul_of_pos_right h (Nat.two_pow_pos n)
theorem ab_mul {x y : Int} {a b : Nat} (hx : x.natAbs < 2 ^ a) (hy : y.natAbs < 2 ^ b) : (x * y).natAbs < 2 ^ (a + b) := wide_lt hx hy
theorem ab_add {x y : Int} {a : Nat} (hx : x.natAbs < 2 ^ a) (hy : y.natAbs < 2 ^ a) : (x + y).natAbs < 2 ^ (a + 1) := by
  have e : 2 ^ (a + 1) = 2 ^ a + 2 ^ a := by rw [Nat.pow_succ]; omega
  omega
theorem ab_neg {x : Int} {a : Nat} (hx : x.natAbs < 2 ^ a) : (-x).natAbs < 2 ^ a := by omega
theorem ab_sm {x : Int} {a c : Nat} (h : x.natAbs ≤ c) (hc : c < 2 ^ a) : x.natAbs < 2 ^ a := Nat.lt_of_le_of_lt h hc
theorem fl_le {s q : Int} (hq : 0 < q) : s / q * q ≤ s := Int.ediv_mul_le s (by omega)
theorem fl_lt {s q : Int} (hq : 0 < q) : s < (s / q + 1) * q := by
  rw [Int.add_mul, Int.one_mul]
  exact Int.lt_ediv_add_one_mul_self s hq |> fun h => by rw [Int.add_mul, Int.one_mul] at h; exact h
theorem cl_ge {s q : Int} (hq : 0 < q) : s ≤ -(-s / q) * q := by
  have h := fl_le (s := -s) hq
  rw [Int.neg_mul]
  omega
theorem cl_lt {s q : Int} (hq : 0 < q) : (-(-s / q) - 1) * q < s := by
  have h := fl_lt (s := -s) hq
  rw [Int.sub_mul, Int.one_mul, Int.neg_mul]
  rw [Int.add_mul, Int.one_mul] at h
  omega
theorem ab_div {x q : Int} {a : Nat} (hq : 0 < q) (h : x.natAbs < 2 ^ a) : (x / q).natAbs < 2 ^ a := by
  have h1 : (x / q).natAbs ≤ x.natAbs := by
    by_cases hx : 0 ≤ x
    · have := Int.ediv_le_self q hx
      have := Int.ediv_nonneg hx (Int.le_of_lt hq)
      omega
    · have h2 : x / q < 0 := Int.ediv_neg_of_neg_of_pos (by omega) hq
      have h3 := fl_lt (s := x) hq
      have h4 : (x / q + 1) * q ≤ (x / q + 1) := by
        have h5 : (x / q + 1) * (q - 1) ≤ 0 := Int.mul_nonpos_of_nonpos_of_nonneg (by omega) (by omega)
        rw [Int.mul_sub, Int.mul_one] at h5
        omega
      omega
  omega
theorem mul_le_r {a b q : Int} (h : a ≤ b) (hq : 0 < q) : a * q ≤ b * q := Int.mul_le_mul_of_nonneg_right h (Int.le_of_lt hq)
/-- the ceiling, by one more where the floor is not exact -/
theorem ceil_eq {s q : Int} (hq : 0 < q) : -(-s / q) = s / q + (if (!decide (s / q * q = s)) = true then 1 else 0) := by
  have a1 := fl_le (s := s) hq
  have a2 := fl_lt (s := s) hq
  have b1 := cl_ge (s := s) hq
  have b2 := cl_lt (s := s) hq
  have lt_of : ∀ {u v : Int}, u * q < v * q → u < v := fun h => Int.lt_of_mul_lt_mul_right h (Int.le_of_lt hq)
  have c1 : -(-s / q) - 1 < s / q + 1 := lt_of (Int.lt_trans b2 a2)
  by_cases e : s / q * q = s
  · rw [decide_eq_true e]
    have c2 : -(-s / q) - 1 < s / q := lt_of (by rw [e]; exact b2)
    have c3 : s / q - 1 < -(-s / q) := lt_of (Int.lt_of_lt_of_le (by rw [Int.sub_mul, Int.one_mul, e]; omega) b1)
    show _ = s / q + 0
    omega
  · rw [decide_eq_false e]
    have c3 : s / q < -(-s / q) := lt_of (by omega)
    show _ = s / q + 1
    omega
end Cm

/-! Own rule: for i, x in enumerate(t), t a tuple. -/
namespace Et
open PySem PySem.Spec PyProof.Rows L2

theorem meets1 {v : Value} {o : Obj} {H : Heap → Prop} (B : Begins v o H) :
    Meets (Builtin.«enumerate.__new__» ⟨[.type "enumerate", v], []⟩) (fun _ R s => H s.heap ∧
      R (.ok (.ret (.ref (s.heap.push o).objs.size))) { s with heap := (s.heap.push o).push { cls := .type "enumerate", data := .fields #[.none, .bool false, .ref s.heap.objs.size, rawInt 0, .none, .none] } }) :=
  .of_wp fun prog w A R s h => by
    obtain ⟨hp, g, d, tk, os⟩ := s; obtain ⟨h1, h⟩ := h
    have hsub := sub_enumerate
    have q1 : ∀ {A' : Around} {E : Value → Shared → Prop} {Q : Value → Shared → Prop}, Q (.ref hp.objs.size) ⟨hp.push o, g, d, tk, os⟩ → wpAny (model prog w) A' (pyIter v) Q E ⟨hp, g, d, tk, os⟩ :=
      fun q => B.iter prog w _ _ ⟨hp, g, d, tk, os⟩ _ h1 q
    wp_walk using q1
    refine wpAny_stack_any fun st => wpAny_pure ?_
    split
    · rename_i c _ _ _ _ _
      cases (c == Value.type "enumerate")
      · wp_walk using q1
        exact ⟨_, rfl, h⟩
      · wp_walk using q1
        exact ⟨_, rfl, h⟩
    · wp_walk using q1
      exact ⟨_, rfl, h⟩
section
variable {prog : Program} {w : World} {A : Around} {E : Value → Shared → Prop} {s : Shared}
theorem begins1 {v : Value} {o : Obj} {H : Heap → Prop} {Q : Value → Shared → Prop} (B : Begins v o H) (h1 : H s.heap)
    (h : ∀ h', IsEnum h' (s.heap.objs.size + 1) s.heap.objs.size 0 .none → h'.get? s.heap.objs.size = some o → h'.objs.size = s.heap.objs.size + 2 →
      (∀ b o, s.heap.get? b = some o → h'.get? b = some o) → Q (.ref (s.heap.objs.size + 1)) { s with heap := h' }) :
    wpAny (model prog w) A (call (.type "enumerate") [v]) Q E s := by
  refine callType_new F.called_enumerate (by decide) (F.typeCall_enumerate_1 _) (F.newCall_enumerate_1 _) (fun obj => F.args_object_init_2 obj _) F.entry_enumerate_new
    (meets1 B) ⟨h1, ?_⟩
  have hz : (s.heap.push o).objs.size = s.heap.objs.size + 1 := Heap.size_push ..
  show _ ∧ _
  rw [hz]
  have he : IsEnum ((s.heap.push o).push { cls := .type "enumerate", data := .fields #[.none, .bool false, .ref s.heap.objs.size, rawInt 0, .none, .none] }) (s.heap.objs.size + 1) s.heap.objs.size 0 .none := by
    have := Heap.get?_push_size (s.heap.push o) (o := { cls := .type "enumerate", data := .fields #[.none, .bool false, .ref s.heap.objs.size, rawInt 0, .none, .none] }) rfl
    rw [hz] at this; exact this
  refine ⟨⟨_, he, rfl⟩, h _ he (Heap.get?_push_of_some _ (Heap.get?_push_size _ B.free)) (by rw [Heap.size_push, hz]) fun b o x => Heap.get?_push_of_some _ (Heap.get?_push_of_some _ x)⟩
end
section
variable {prog : Program} {w : World} {A : Around} {E : Value → Shared → Prop} {s : Shared}
theorem enum_endT {e it l : Addr} {i : Nat} {items : Array Value} {old : Value} {Q : Option Value → Shared → Prop} (hh : A.handled = none)
    (he : IsEnum s.heap e it i old) (hit : s.heap.IsTupleIter it l i) (hl : s.heap.IsTuple l items) (hx : items[i]? = none)
    (hQ : ∀ h', Heap.ExtBut it s.heap h' → Q none { s with heap := h' }) : wpAny (model prog w) A (pyNext (.ref e)) Q E s := by
  have hT : s.TypeIs (.ref e) "enumerate" := ⟨_, he, rfl⟩
  unfold pyNext
  refine wpAny_bind (wpAny_attempt (wpAny_callSpecial?_slot (name := Str.ofString "__next__") hT F.slot_enumerate_next
    (wpAny_call_entry F.slot_enumerate_next hT F.entry_enumerate_next ?_ (F.args_enumerate_next_1 _))))
  show wpAny _ _ (field (.ref e) 2 >>= _) _ _ _
  refine wpAny_bind (wpAny_field he rfl (x := .ref it) rfl ?_)
  refine wpAny_bind (wpAny_nextOf_tuple_end hh hit hl hx fun h' x he' hx' => ?_)
  obtain ⟨o, ho, hc⟩ := hx'
  refine wpAny_bind (wpAny_isInstance (T := "StopIteration") (b := true) ⟨o, ho, hc⟩ isSubtype_stop ?_)
  exact wpAny_pure (hQ _ he')
end
/-- the tuple at a as it stands at each turn, each item in a new pair -/
def Iet (K : PySem.W.Frag) (a : Addr) : It :=
  ⟨fun i H => ∃ (xs : List V) (x : V), SqT K H a xs ∧ xs[i]? = some x, fun i H v H' => ∃ T x, v = .ref T ∧ H T = none ∧ H' = upd H T (.tup [.int (i : Nat), x]) ∧ ∀ xs, SqT K H a xs → xs[i]? = some x, fun i H => ∃ xs : List V, SqT K H a xs ∧ xs.length ≤ i⟩
theorem turn_enumT {P : Program} {w : World} {K : PySem.W.Frag} {elts : List Expr} {kk : Nat} {tpos : Pos} (a e it : Addr) :
    Turn P w K (.Tuple elts kk tpos) (Iet K a) [e, it] e (fun i h => (∃ old, IsEnum h e it ((i : Nat) : Int) old) ∧ h.IsTupleIter it a i ∧ e ≠ it) where
  mem := by simp
  obj := fun i h st b hb => by
    obtain ⟨⟨old, he⟩, ⟨o, ho, hc, hd⟩, _⟩ := st
    have e' : b = e ∨ b = it := by simpa using hb
    rcases e' with z | z
    · rw [z]; exact ⟨_, he, fun v q => nomatch q⟩
    · rw [z]; exact ⟨o, ho, fun v q => by rw [hd] at q; cases q⟩
  keep := fun i h h' st k => let ⟨⟨old, he⟩, hi, hne⟩ := st; ⟨⟨old, k e (by simp) _ he⟩, hi.at fun o q => k it (by simp) o q, hne⟩
  item := by
    intro X hP hw hK hc i pins s σ H E I hf st hg
    subst hP hw hK
    obtain ⟨⟨old, he⟩, hit, hne⟩ := st
    obtain ⟨xs, x, hq, hx⟩ := hg
    obtain ⟨its, rv, p, hz⟩ := I.tuple hq
    obtain ⟨u, hu, ru⟩ := rv.get hx
    have hel : e < s.heap.objs.size := Heap.lt_size he
    have hil : it < s.heap.objs.size := by obtain ⟨_, q, _⟩ := hit; exact Heap.lt_size q
    have hat : a ≠ it := fun z => by
      subst z
      obtain ⟨o1, e1, c1, _⟩ := hit
      obtain ⟨o2, e2, c2, _⟩ := p
      rw [e1] at e2
      cases e2
      rw [c1] at c2
      exact absurd (Value.type.inj c2) (by decide)
    have hae : a ≠ e := fun z => by
      subst z
      obtain ⟨o2, e2, c2, _⟩ := p
      rw [he] at e2
      cases e2
      exact absurd (Value.type.inj c2) (by decide)
    have hlt : i < its.toArray.size := by
      rw [List.size_toArray]
      exact (List.getElem?_eq_some_iff.mp hu).1
    refine wpAny_pyNext_enum_itemD (Draws.tuple (A := X.A.in1) (I.ok.hd hc) it a hat its.toArray) he ⟨hit, p⟩ hlt hne (by simp; exact ⟨hne, Ne.symm hae⟩) fun y h' tk hy ho hst' hT hsz hk => ?_
    have eu : y = u := by
      have h1 : its.toArray[i]? = some u := by simpa using hu
      rw [h1] at hy
      exact (Option.some.inj hy).symm
    subst eu
    refine ⟨_, rfl, wpAny_letOwnedTupleGo_enum (s := { s with heap := h', toks := tk + 1 }) ho fun h'' he' sb => ?_⟩
    have hT2 : h''.get? s.heap.objs.size = some { cls := .type "tuple", data := .seq #[.int i tk, y] } := (sb.2 _ (Nat.ne_of_gt hel)).trans hT
    have new : ObjOk X.prog X.w (upd H s.heap.objs.size (.tup [.int (i : Nat), x])) h'' s.heap.objs.size (.tup [.int (i : Nat), x]) :=
      ⟨by show 2 ≤ sizeLine; decide, [.int i tk, y], .cons ⟨_, rfl⟩ (.cons ru .nil), ⟨_, hT2, rfl, _, rfl⟩⟩
    have I1 : Inv X pins σ (upd H s.heap.objs.size (.tup [.int (i : Nat), x])) { s with heap := h'', toks := tk + 1 } :=
      I.turnedNew (ch := [e, it]) (fun b ob hb q => (sb.2 b (fun z => hb (by simp [z]))).trans (hk b ob (fun z => hb (by simp [z])) (fun z => hb (by simp [z])) q)) hf (Nat.le_refl _) new
    refine ⟨.ref s.heap.objs.size, _, I1, rfl, ⟨_, x, rfl, I.hok.fresh (Nat.le_refl _), rfl, fun ys hy => by rw [I.tuple_inj hy hq]; exact hx⟩, ⟨⟨y, ?_⟩, hst'.1.at fun o q => (sb.2 it (Ne.symm hne)).trans q, hne⟩, fun b hb => ?_⟩
    · have e1 : ((i + 1 : Nat) : Int) = (i : Int) + 1 := by omega
      rw [e1]; exact he'
    · have hb' : b < s.heap.objs.size := by
        have e' : b = e ∨ b = it := by simpa using hb
        rcases e' with z | z
        · rw [z]; exact hel
        · rw [z]; exact hil
      rw [upd_ne (Nat.ne_of_lt hb')]
      exact (hf b hb).1
  done := by
    intro X hP hw hK hc i pins s σ H E I hf st hg
    subst hP hw hK
    obtain ⟨⟨old, he⟩, hit, hne⟩ := st
    obtain ⟨xs, hq, hx⟩ := hg
    obtain ⟨its, rv, p, hz⟩ := I.tuple hq
    obtain ⟨f0, f1, f2, f3, f4, f5⟩ := hf it (by simp)
    have hl := rv.length
    refine enum_endT (I.ok.hd hc) he hit p (by simp; omega) fun h' eb => ⟨rfl, I.turned (t' := s.toks) (fun b o hb q => eb b o hb q) f0 f1 f3 f4 f5⟩
  self := fun A i s Q E st h => let ⟨⟨_, he⟩, _⟩ := st; wpAny_pyIter_enum he h
def iEnumT (K : PySem.W.Frag) (ta : TA) : TI := fun σ H R => ta σ H fun vs H1 => ∃ a xs, vs = [.ref a] ∧ SqT K H1 a xs ∧ R (Iet K a) H1
theorem pi_enumT {X : Cx} {e : Expr} {ta : TA} {p pos tpos : Pos} {elts : List Expr} {kk : Nat} (hg : Gl X "enumerate") (hm : X.mg "enumerate" = none) (ha : PA X [e] ta) (hs : starEach [e] X.env = [(false, eval e X.env)] := by rfl) :
    PI X (.Tuple elts kk tpos) (.Call (.Name "enumerate" p) [e] [] pos) (iEnumT X.K ta) := by
  refine ⟨fun pins s σ H R I h => ?_⟩
  refine Call_ (ld_blt I hg hm boot_enumerate (PyProof.Rows.callWith_type1 (thn (ha.run pos pins s σ H _ I h) fun us s1 ⟨vs, H1, I1, r1, q1⟩ => ?_) hs rfl))
  obtain ⟨a, xs, ex, hq, q⟩ := q1
  subst ex
  cases r1 with
  | cons r rr =>
    cases rr
    cases r
    obtain ⟨its, rv, p', hz⟩ := I1.tuple hq
    refine begins1 (begins_tuple a its.toArray) p' fun h' he hit hsz hk => wpAny_pyIter_enum he ?_
    have I2 : Inv X pins σ H1 { s1 with heap := h' } := I1.kept (t' := s1.toks) hk
    refine ⟨s1.heap.objs.size + 1, [s1.heap.objs.size + 1, s1.heap.objs.size], _, _, H1, rfl, I2, turn_enumT a (s1.heap.objs.size + 1) s1.heap.objs.size, ⟨⟨.none, he⟩, ⟨_, hit, rfl, rfl⟩, Nat.succ_ne_self _⟩, fun b hb => ?_, q⟩
    have e' : b = s1.heap.objs.size + 1 ∨ b = s1.heap.objs.size := by simpa using hb
    have hle : s1.heap.objs.size ≤ b := by
      rcases e' with z | z
      · rw [z]; exact Nat.le_add_right _ _
      · rw [z]; exact Nat.le_refl _
    exact I1.fpOk hle (I1.hok.fresh hle)
end Et

/-! Own data: formulas as they stand in the heap. -/
namespace Fm
open PySem PySem.Spec PyProof.Rows L2 Evl Cm Et

abbrev FStep := Str × List Int
def stV (s : FStep) : List V := .str s.1 :: s.2.map V.int
def stD (s : FStep) : PyData := .tuple (.str s.1 :: s.2.map PyData.int)
def StepAt (H : Hp) (v : V) (s : FStep) : Prop := ∃ p, v = .ref p ∧ H p = some (.tup (stV s))
def StepsAt (H : Hp) (vs : List V) (ss : List FStep) : Prop := vs.length = ss.length ∧ ∀ (i : Nat) v s, vs[i]? = some v → ss[i]? = some s → StepAt H v s
section
variable {K : PySem.W.Frag} {σ : L2.St} {H H' : Hp} {ta tb tc te tx tl : TE} {t u : TT} {x y z v w : V} {r r' : R2} {D : Ends} {tu tz : TS} {vs ws : List V} {ss ts : List FStep} {s : FStep} {g : TG}
theorem StepAt.mono (e : Ex H H') (h : StepAt H v s) : StepAt H' v s := by
  obtain ⟨p, h1, h2⟩ := h
  exact ⟨p, h1, e _ _ h2⟩
theorem StepsAt.mono (e : Ex H H') (h : StepsAt H vs ss) : StepsAt H' vs ss := ⟨h.1, fun i v s a b => (h.2 i v s a b).mono e⟩
theorem StepsAt.nil : StepsAt H [] [] := ⟨rfl, fun i v s h _ => by simp at h⟩
theorem StepsAt.app (h1 : StepsAt H vs ss) (h2 : StepsAt H ws ts) : StepsAt H (vs ++ ws) (ss ++ ts) := by
  refine ⟨by rw [List.length_append, List.length_append, h1.1, h2.1], fun i v s a b => ?_⟩
  by_cases hi : i < vs.length
  · rw [List.getElem?_append_left hi] at a
    rw [List.getElem?_append_left (by rw [← h1.1]; exact hi)] at b
    exact h1.2 i v s a b
  · rw [List.getElem?_append_right (by omega)] at a
    rw [List.getElem?_append_right (by have := h1.1; omega)] at b
    rw [← h1.1] at b
    exact h2.2 _ v s a b
theorem StepsAt.one (h : StepAt H v s) : StepsAt H [v] [s] := ⟨rfl, fun i x y a b => by
  cases i with
  | zero =>
    cases Option.some.inj a
    cases Option.some.inj b
    exact h
  | succ i => simp at a⟩
theorem StepsAt.snoc (h1 : StepsAt H vs ss) (h : StepAt H v s) : StepsAt H (vs ++ [v]) (ss ++ [s]) := h1.app (.one h)
theorem StepsAt.get (h : StepsAt H vs ss) {i : Nat} (hi : vs[i]? = some v) : ∃ s, ss[i]? = some s ∧ StepAt H v s := by
  have h1 : i < ss.length := by
    rw [← h.1]
    exact (List.getElem?_eq_some_iff.mp hi).1
  exact ⟨ss[i], List.getElem?_eq_getElem h1, h.2 i v _ hi (List.getElem?_eq_getElem h1)⟩
theorem StepAt.dp (h : StepAt H v s) : Dp K H v (stD s) := by
  obtain ⟨p, rfl, h⟩ := h
  exact .tup (st_of h) (.cons (.str _) (dpInts _))
theorem StepsAt.dp : ∀ {vs : List V} {ss : List FStep}, StepsAt H vs ss → DpAll K H vs (ss.map stD)
  | [], [], _ => .nil
  | [], _ :: _, h => by simp [StepsAt] at h
  | _ :: _, [], h => by simp [StepsAt] at h
  | v :: vs, s :: ss, h => .cons (StepAt.dp (h.2 0 v s rfl rfl)) (StepsAt.dp ⟨by simpa using h.1, fun i x y a b => h.2 (i + 1) x y a b⟩)
theorem lay_ints : ∀ (is : List Int), PyData.canLayAll0 (is.map PyData.int) = true
  | [] => rfl
  | i :: r => by
    show (PyData.canLay0 (.int i) && PyData.canLayAll0 (r.map PyData.int)) = true
    rw [lay_ints r]
    rfl
theorem dep_ints : ∀ (is : List Int), PyData.depthAll (is.map PyData.int) = 0
  | [] => rfl
  | i :: r => by
    show max 0 (PyData.depthAll (r.map PyData.int)) = 0
    rw [dep_ints r]
    rfl
theorem dep_st (s : FStep) : PyData.depth (stD s) = 1 := by
  show max 0 (PyData.depthAll (s.2.map PyData.int)) + 1 = 1
  rw [dep_ints]
  rfl
theorem dep_sts : ∀ (ss : List FStep), PyData.depthAll (ss.map stD) ≤ 1
  | [] => Nat.zero_le _
  | s :: r => by
    show max (PyData.depth (stD s)) (PyData.depthAll (r.map stD)) ≤ 1
    rw [dep_st]
    have := dep_sts r
    omega
def OkS (s : FStep) : Prop := PyData.strOk s.1 = true
theorem lay_st {s : FStep} (h : OkS s) : PyData.canLay0 (stD s) = true := by
  show (PyData.canLay0 (.str s.1) && PyData.canLayAll0 (s.2.map PyData.int)) = true
  rw [lay_ints, Bool.and_true]
  exact h
theorem lay_sts : ∀ {ss : List FStep}, (∀ s ∈ ss, OkS s) → PyData.canLayAll0 (ss.map stD) = true
  | [], _ => rfl
  | s :: r, h => by
    show (PyData.canLay0 (stD s) && PyData.canLayAll0 (r.map stD)) = true
    rw [lay_st (h s (.head _)), lay_sts fun x hx => h x (.tail _ hx)]
    rfl
def foD (ss : List FStep) : PyData := .tuple (ss.map stD)
theorem sh_form (h : ∀ s ∈ ss, OkS s) : SeqAt.shaped (foD ss) = true := by
  unfold SeqAt.shaped
  rw [show PyData.canLay0 (foD ss) = PyData.canLayAll0 (ss.map stD) from rfl, lay_sts h, Bool.true_and]
  refine decide_eq_true ?_
  show PyData.depthAll (ss.map stD) + 1 ≤ 64
  have := dep_sts ss
  omega
theorem sh_list (h : ∀ s ∈ ss, OkS s) : SeqAt.shaped (.list (ss.map stD)) = true := sh_form h
/-! ### what is a formula -/
def W2 : List Str := ["add", "subtract", "times", "divide"]
def W1 : List Str := ["root", "sine", "cosine", "exp", "log", "arctan", "arcsine", "arccosine"]
def OkStep (k : Nat) (s : FStep) : Prop :=
  (∃ p q, s = (("number" : Str), [p, q]) ∧ 1 ≤ q) ∨ s = (("pi" : Str), []) ∨ (∃ w i j, w ∈ W2 ∧ s = (w, [i, j]) ∧ (0 ≤ i ∧ i < k) ∧ (0 ≤ j ∧ j < k)) ∨ (∃ w i, w ∈ W1 ∧ s = (w, [i]) ∧ (0 ≤ i ∧ i < k))
def OkForm (ss : List FStep) : Prop := ∀ k s, ss[k]? = some s → OkStep k s
theorem w2_all {P : Str → Prop} (h : P "add" ∧ P "subtract" ∧ P "times" ∧ P "divide") : ∀ w ∈ W2, P w := by
  intro w hw
  unfold W2 at hw
  simp only [List.mem_cons, List.not_mem_nil, or_false] at hw
  obtain ⟨h1, h2, h3, h4⟩ := h
  rcases hw with rfl | rfl | rfl | rfl <;> assumption
theorem w1_all {P : Str → Prop} (h : P "root" ∧ P "sine" ∧ P "cosine" ∧ P "exp" ∧ P "log" ∧ P "arctan" ∧ P "arcsine" ∧ P "arccosine") : ∀ w ∈ W1, P w := by
  intro w hw
  unfold W1 at hw
  simp only [List.mem_cons, List.not_mem_nil, or_false] at hw
  obtain ⟨h1, h2, h3, h4, h5, h6, h7, h8⟩ := h
  rcases hw with rfl | rfl | rfl | rfl | rfl | rfl | rfl | rfl <;> assumption
theorem w2_ok : ∀ w ∈ W2, PyData.strOk w = true := w2_all ⟨by decide +kernel, by decide +kernel, by decide +kernel, by decide +kernel⟩
theorem w1_ok : ∀ w ∈ W1, PyData.strOk w = true := w1_all ⟨by decide +kernel, by decide +kernel, by decide +kernel, by decide +kernel, by decide +kernel, by decide +kernel, by decide +kernel, by decide +kernel⟩
theorem w2_nn : ∀ w ∈ W2, w ≠ "number" := w2_all ⟨by decide +kernel, by decide +kernel, by decide +kernel, by decide +kernel⟩
theorem w2_np : ∀ w ∈ W2, w ≠ "pi" := w2_all ⟨by decide +kernel, by decide +kernel, by decide +kernel, by decide +kernel⟩
theorem w1_nn : ∀ w ∈ W1, w ≠ "number" := w1_all ⟨by decide +kernel, by decide +kernel, by decide +kernel, by decide +kernel, by decide +kernel, by decide +kernel, by decide +kernel, by decide +kernel⟩
theorem w1_np : ∀ w ∈ W1, w ≠ "pi" := w1_all ⟨by decide +kernel, by decide +kernel, by decide +kernel, by decide +kernel, by decide +kernel, by decide +kernel, by decide +kernel, by decide +kernel⟩
theorem pi_nn : ("pi" : Str) ≠ "number" := by decide +kernel
theorem ok_num : PyData.strOk "number" = true := by decide +kernel
theorem ok_pi : PyData.strOk "pi" = true := by decide +kernel
theorem OkStep.oks {k : Nat} (h : OkStep k s) : OkS s := by
  rcases h with ⟨p, q, rfl, _⟩ | rfl | ⟨w, i, j, hw, rfl, _⟩ | ⟨w, i, hw, rfl, _⟩
  · exact ok_num
  · exact ok_pi
  · exact w2_ok w hw
  · exact w1_ok w hw
theorem OkStep.mono {k m : Nat} (hk : k ≤ m) (h : OkStep k s) : OkStep m s := by
  rcases h with h | h | ⟨w, i, j, hw, rfl, h1, h2⟩ | ⟨w, i, hw, rfl, h1⟩
  · exact .inl h
  · exact .inr (.inl h)
  · exact .inr (.inr (.inl ⟨w, i, j, hw, rfl, ⟨h1.1, by omega⟩, ⟨h2.1, by omega⟩⟩))
  · exact .inr (.inr (.inr ⟨w, i, hw, rfl, ⟨h1.1, by omega⟩⟩))
theorem OkForm.oks (h : OkForm ss) : ∀ s ∈ ss, OkS s := fun s hs => by
  obtain ⟨k, hk⟩ := List.getElem?_of_mem hs
  exact (h k s hk).oks
theorem OkForm.nil : OkForm [] := fun k s h => by simp at h
theorem OkForm.snoc (h : OkForm ss) (hs : OkStep ss.length s) : OkForm (ss ++ [s]) := fun k x hk => by
  by_cases hi : k < ss.length
  · rw [List.getElem?_append_left hi] at hk
    exact h k x hk
  · rw [List.getElem?_append_right (by omega)] at hk
    have e : k - ss.length = 0 := by
      have := (List.getElem?_eq_some_iff.mp hk).1
      simp at this
      omega
    rw [e] at hk
    cases Option.some.inj hk
    exact hs.mono (by omega)
def shiftS (m : Nat) (s : FStep) : FStep := if s.1 = "number" then s else (s.1, s.2.map fun i => (m : Int) + i)
theorem OkStep.shift {k m : Nat} (h : OkStep k s) : OkStep (m + k) (shiftS m s) := by
  rcases h with ⟨p, q, rfl, hq⟩ | rfl | ⟨w, i, j, hw, rfl, h1, h2⟩ | ⟨w, i, hw, rfl, h1⟩
  · unfold shiftS
    rw [if_pos rfl]
    exact .inl ⟨p, q, rfl, hq⟩
  · unfold shiftS
    rw [if_neg pi_nn]
    exact .inr (.inl rfl)
  · unfold shiftS
    rw [if_neg (w2_nn w hw)]
    exact .inr (.inr (.inl ⟨w, (m : Int) + i, (m : Int) + j, hw, rfl, ⟨by omega, by omega⟩, ⟨by omega, by omega⟩⟩))
  · unfold shiftS
    rw [if_neg (w1_nn w hw)]
    exact .inr (.inr (.inr ⟨w, (m : Int) + i, hw, rfl, ⟨by omega, by omega⟩⟩))
def joinS (w : Str) (f g : List FStep) : List FStep := f ++ g.map (shiftS f.length) ++ [(w, [(f.length : Int) - 1, (f.length : Int) + (g.length : Int) - 1])]
theorem OkForm.app_shift {f gg : List FStep} (hf : OkForm f) (hg : OkForm gg) : OkForm (f ++ gg.map (shiftS f.length)) := fun k x hk => by
  by_cases hi : k < f.length
  · rw [List.getElem?_append_left hi] at hk
    exact hf k x hk
  · rw [List.getElem?_append_right (by omega), List.getElem?_map] at hk
    obtain ⟨s, h1, rfl⟩ := Option.map_eq_some_iff.mp hk
    have h2 := (hg _ s h1).shift (m := f.length)
    rw [show f.length + (k - f.length) = k by omega] at h2
    exact h2
theorem OkForm.join {f gg : List FStep} {w : Str} (hf : OkForm f) (hg : OkForm gg) (hw : w ∈ W2) (h1 : f ≠ []) (h2 : gg ≠ []) : OkForm (joinS w f gg) := by
  have l1 : 0 < f.length := List.length_pos_iff.mpr h1
  have l2 : 0 < gg.length := List.length_pos_iff.mpr h2
  refine OkForm.snoc (hf.app_shift hg) (.inr (.inr (.inl ⟨w, _, _, hw, rfl, ⟨by omega, ?_⟩, ⟨by omega, ?_⟩⟩)))
  · rw [List.length_append, List.length_map]
    omega
  · rw [List.length_append, List.length_map]
    omega
theorem OkForm.app1 {f : List FStep} {w : Str} (hf : OkForm f) (hw : w ∈ W1) (h1 : f ≠ []) : OkForm (f ++ [(w, [(f.length : Int) - 1])]) := by
  have l1 : 0 < f.length := List.length_pos_iff.mpr h1
  exact hf.snoc (.inr (.inr (.inr ⟨w, _, hw, rfl, by omega, by omega⟩)))
/-! ### what comes back -/
def RetF (ss : List FStep) (H : Hp) (Q : VK) : Prop := ∀ a H2 vs, H a = none → Ex H H2 → H2 a = some (.tup vs) → StepsAt H2 vs ss → Q (.ref a) H2
def RetS (s : FStep) (H : Hp) (Q : VK) : Prop := ∀ v H2, Ex H H2 → StepAt H2 v s → Q v H2
def EvF (te : TE) (σ : L2.St) (H : Hp) (ss : List FStep) : Prop := ∀ H1, Ex H H1 → ∀ Q : VK, RetF ss H1 Q → te σ H1 Q
def SpF (sp : Sp) (vs : List V) (H : Hp) (ss : List FStep) : Prop := ∀ H1, Ex H H1 → ∀ Q : VK, RetF ss H1 Q → ∀ E : XK, sp vs H1 Q E
theorem RetF.go {Q : VK} (k : RetF ss H Q) (e : Ex H H') {a : Addr} {H2 : Hp} (ha : H' a = none) (e2 : Ex H' H2) (h : H2 a = some (.tup vs)) (h2 : StepsAt H2 vs ss) : Q (.ref a) H2 := k a H2 vs (fresh_back e ha) (e.trans e2) h h2
theorem ef_call {sp : Sp} {dvs ws : List V} {E : XK} {ta : TA} (h : EvA ta σ H ws) (hs : SpF sp (ws ++ dvs) H ss) : EvF (tCall sp dvs E ta) σ H ss := fun H1 e Q q =>
  h H1 e _ fun H2 e2 => hs H2 (e.trans e2) Q (fun a H3 vs ha e3 h3 hs3 => q a H3 vs (fresh_back e2 ha) (e2.trans e3) h3 hs3) E
theorem q_asgF {i : Nat} (h : EvF te σ H ss) (k : ∀ a H1 vs, Ex H H1 → H1 a = some (.tup vs) → StepsAt H1 vs ss → tz D (σ.set i (some (.ref a))) H1) : tSeq (tAsg te (gName i)) tz D σ H :=
  h H (Ex.refl H) _ fun a H1 vs _ e h1 h2 => k a H1 vs e h1 h2
theorem q_asgP {i : Nat} (P : V → Hp → Prop) (h : ∀ Q : VK, (∀ v H1, Ex H H1 → P v H1 → Q v H1) → te σ H Q) (k : ∀ v H1, Ex H H1 → P v H1 → tz D (σ.set i (some v)) H1) : tSeq (tAsg te (gName i)) tz D σ H := h _ k
theorem s_retF (h : EvF te σ H ss) (k : RetF ss H D.rt) : tRet te D σ H := h H (Ex.refl H) _ k
theorem ev_neFF (ha : EvF ta σ H ss) (hb : EvF tb σ H ss) (hs : ∀ s ∈ ss, OkS s) : Ev (tOp (rNeD K) ta tb) σ H (.bl false) := fun H1 e Q q =>
  ha H1 e _ fun p H2 vs _ e2 hp hv => hb H2 (e.trans e2) _ fun p2 H3 ws _ e3 hp2 hw =>
    rv_neS (H := H3) (d := foD ss) (.tup (st_of (e3 _ _ hp)) (hv.mono e3).dp) (.tup (st_of hp2) hw.dp) (sh_form hs) H3 (Ex.refl _) Q fun H4 e4 => q H4 ((e2.trans e3).trans e4)
theorem ev_eqF {p : Addr} (h : H p = some (.tup vs)) (hv : StepsAt H vs ss) (ha : Ev ta σ H (.ref p)) (hb : EvF tb σ H ss) (hs : ∀ s ∈ ss, OkS s) : Ev (tOp (rEqD K) ta tb) σ H (.bl true) := fun H1 e Q q =>
  ha H1 e _ fun H2 e2 => hb H2 (e.trans e2) _ fun p2 H3 ws _ e3 hp2 hw =>
    rv_eqS (H := H3) (d := foD ss) (.tup (st_of (((e.trans e2).trans e3) _ _ h)) (hv.mono ((e.trans e2).trans e3)).dp) (.tup (st_of hp2) hw.dp) (sh_form hs) H3 (Ex.refl _) Q fun H4 e4 => q H4 ((e2.trans e3).trans e4)
/-- a call whose argument is a new formula -/
theorem ev_callF {sp : Sp} {dvs ws : List V} {E : XK} {tr : TA} (h1 : EvF te σ H ss) (h2 : EvA tr σ H ws) (hs : ∀ p H1 us, Ex H H1 → H1 p = some (.tup us) → StepsAt H1 us ss → SpV sp (.ref p :: ws ++ dvs) H1 z) : Ev (tCall sp dvs E (tCons te tr)) σ H z := fun H1 e Q q =>
  h1 H1 e _ fun p H2 us np e2 hp hu => h2 H2 (e.trans e2) _ fun H3 e3 => hs p H3 us ((e.trans e2).trans e3) (e3 _ _ hp) (hu.mono e3) H3 (Ex.refl H3) Q (fun H4 e4 => q H4 ((e2.trans e3).trans e4)) E
theorem rc_isiI {i : Int} : RC (rIsi K) [.int i, .ty "int"] H (.bl true) := fun H1 e _ q =>
  ⟨.int i, .ty "int", .type "int", .type "int", true, rfl, .ty _, .base (.int i), kit_ty (by decide +kernel), q H1 (Ex.refl H1)⟩
theorem rc_isiIB {i : Int} : RC (rIsi K) [.int i, .ty "bool"] H (.bl false) := fun H1 e _ q =>
  ⟨.int i, .ty "bool", .type "int", .type "bool", false, rfl, .ty _, .base (.int i), kit_ty (by decide +kernel), q H1 (Ex.refl H1)⟩
theorem rc_lenT {p : Addr} {xs : List V} (h : SqT K H p xs) : RC (fun xs H Q => ∃ x n, xs = [x] ∧ LenV K x H n ∧ Q (.int n) H) [.ref p] H (.int (xs.length : Int)) := fun H1 e _ q =>
  ⟨.ref p, (xs.length : Nat), rfl, .inr ⟨_, ex_t e h, rfl⟩, q H1 (Ex.refl H1)⟩
theorem cut1 (xs : List V) : cutV xs (some 1) none = xs.drop 1 := by
  unfold cutV
  rw [show HT.sIx xs.length 0 (some 1) = min 1 xs.length from HT.sIx_nat xs.length 0 1, HT.sIx_none]
  cases xs with
  | nil => rfl
  | cons x r =>
    rw [show min 1 (x :: r).length = 1 by
      rw [List.length_cons]
      omega]
    show (List.take ((x :: r).length - 1) r) = r
    rw [List.length_cons, Nat.add_sub_cancel]
    exact List.take_length
/-- t[1:] of a tuple that is not empty -/
theorem eu_tail {a : Addr} {xs : List V} (h : Ev te σ H (.ref a)) (hx : SqT K H a (y :: xs)) : EvU (tSl (rSlT K) te (tPart (tC (.int 1))) tNoPart) σ H xs := fun H1 e Q q =>
  h H1 e _ fun H2 e2 => ⟨1, rfl, a, y :: xs, rfl, ex_t (e.trans e2) hx, fun z => by
    have z1 : HT.sIx (y :: xs).length 0 (some 1) = min 1 (y :: xs).length := HT.sIx_nat (y :: xs).length 0 1
    have z2 := z.1
    rw [z1, List.length_cons] at z2
    omega, fun p hp => by
    have e3 : cutV (y :: xs) (some 1) none = xs := cut1 (y :: xs)
    rw [e3]
    exact q p _ (fresh_back e2 hp) (e2.trans (Ex.new hp)) upd_same⟩
/-- for over a new tuple -/
theorem s_forNT {xs : List V} (h : EvU tl σ H xs) (Pv : Addr → Nat → L2.St → Hp → Prop) (h0 : ∀ p H1, H p = none → Ex H H1 → H1 p = some (.tup xs) → Pv p 0 σ H1) (hl : ∀ p i σ' H', i ≤ xs.length → Pv p i σ' H' → SqT K H' p xs)
    (hs : ∀ p i x σ' H', xs[i]? = some x → Pv p i σ' H' → g x σ' H' fun σ2 H2 => tu { D with nx := Pv p (i + 1), ct := Pv p (i + 1), bk := D.nx } σ2 H2) (hd : ∀ p σ' H', Pv p xs.length σ' H' → D.nx σ' H') : tFor (iTup K tl) g tu D σ H :=
  h H (Ex.refl H) _ fun p H1 hp e h1 => ⟨p, rfl, ⟨xs, st_of h1⟩, for_tup (Pv p) (h0 p H1 hp e h1) (hl p) (hs p) (hd p)⟩
theorem q_forNT {xs : List V} (h : EvU tl σ H xs) (Pv : Addr → Nat → L2.St → Hp → Prop) (h0 : ∀ p H1, H p = none → Ex H H1 → H1 p = some (.tup xs) → Pv p 0 σ H1) (hl : ∀ p i σ' H', i ≤ xs.length → Pv p i σ' H' → SqT K H' p xs)
    (hs : ∀ p i x σ' H', xs[i]? = some x → Pv p i σ' H' → g x σ' H' fun σ2 H2 => tu { D with nx := Pv p (i + 1), ct := Pv p (i + 1), bk := tz D } σ2 H2) (hd : ∀ p σ' H', Pv p xs.length σ' H' → tz D σ' H') : tSeq (tFor (iTup K tl) g tu) tz D σ H :=
  s_forNT (D := { D with nx := tz D }) h Pv h0 hl hs hd
/-- for i, x in enumerate(t) -/
theorem q_forET {a : Addr} {xs : List V} {ta : TA} (h : EvA ta σ H [.ref a]) (hx : SqT K H a xs) (Pv : Nat → L2.St → Hp → Prop) (h0 : ∀ H1, Ex H H1 → Pv 0 σ H1) (hG : ∀ i σ' H', i ≤ xs.length → Pv i σ' H' → SqT K H' a xs)
    (hs : ∀ i x σ' H' T, xs[i]? = some x → Pv i σ' H' → H' T = none → g (.ref T) σ' (upd H' T (.tup [.int (i : Nat), x])) fun σ2 H2 => tu { D with nx := Pv (i + 1), ct := Pv (i + 1), bk := tz D } σ2 H2) (hd : ∀ σ' H', Pv xs.length σ' H' → tz D σ' H') :
    tSeq (tFor (iEnumT K ta) g tu) tz D σ H := h H (Ex.refl H) _ fun H1 e => by
  have wk : Walk (Iet K a) xs.length (fun H => SqT K H a xs) (YPair (fun i => some (.int (i : Nat))) (fun i => xs[i]?)) := by
    refine ⟨fun i _ hi q => ⟨xs, xs[i], q, by simp [hi]⟩, fun _ q => ⟨xs, q, Nat.le_refl _⟩, fun i H v H' _ q y => ?_⟩
    obtain ⟨T, x, h1, h2, h3, h4⟩ := y
    exact ⟨T, .int (i : Nat), x, h1, h2, h3, rfl, h4 xs q⟩
  refine ⟨a, xs, rfl, ex_t e hx, for_it (D := { D with nx := tz D }) wk Pv (h0 H1 e) hG (fun i x σ' H' H'' hi p y => ?_) hd⟩
  obtain ⟨T, x1, x2, rfl, hT, rfl, e1, e2⟩ := y
  cases Option.some.inj e1
  exact hs i x2 σ' H' T e2 p hT
/-- [e for x in a new tuple], e told -/
theorem el_mapNT {xs : List V} {j : Nat} {vs : List Nat} (fv : Nat → V) (h : EvU tl σ H xs) (hz : xs.length ≤ 40000) (hw : ∀ x, wipe ((wipe σ vs).set j (some x)) vs = wipe σ vs)
    (he : ∀ (i : Nat) (x : V) H1, Ex H H1 → xs[i]? = some x → Ev te ((wipe σ vs).set j (some x)) H1 (fv i)) :
    EvL (tLc (iTup K tl) (gName j) tYes te vs) σ H (given xs.length (fun _ => true) fv) := fun H0 e Q q => h H0 e _ fun a H1 ha e1 hx => ⟨a, rfl, ⟨xs, st_of hx⟩, fun Dl hD =>
  lc_tup (xs := xs) (Cw H1 (fun _ => true) fv Dl) ⟨hD, Ex.new hD, upd_same⟩ (fun i H' _ p => st_of (p.2.1 a _ hx)) (fun i x H' hi p => ⟨hw x, cw_turn p (by have := (List.getElem?_eq_some_iff.mp hi).1; omega) (fun H3 _ Q3 q3 => q3 H3 (Ex.refl H3)) (fun hf => he i x H1 (e.trans e1) hi)⟩)
    (fun H' p => q Dl H' (fresh_back e1 p.1) (e1.trans p.2.1) p.2.2)⟩
theorem given_all (n : Nat) (fv : Nat → V) : given n (fun _ => true) fv = (List.range n).map fv := by
  unfold given
  rw [List.filter_eq_self.mpr (fun _ _ => rfl)]
/-- a formula that grows in a list -/
structure FoAt (H H' : Hp) (l : Addr) (us : List V) (ss : List FStep) : Prop where
  ex : Ex H H'
  at_ : H' l = some (.lst us)
  st : StepsAt H' us ss
theorem FoAt.mono {H H1 H2 : Hp} {l : Addr} {us : List V} (F : FoAt H H1 l us ss) (e : Ex H1 H2) : FoAt H H2 l us ss := ⟨F.ex.trans e, e _ _ F.at_, F.st.mono e⟩
theorem steps_upd {l : Addr} {us zs : List V} {xs : List V} (hl : H l = some (.lst xs)) (h : StepsAt H us ss) : StepsAt (upd H l (.lst zs)) us ss := ⟨h.1, fun i v s a b => by
  obtain ⟨p, r1, r2⟩ := h.2 i v s a b
  refine ⟨p, r1, ?_⟩
  rw [upd_ne (fun z => by rw [z, hl] at r2; cases r2)]
  exact r2⟩
theorem step_upd {l : Addr} {zs : List V} {xs : List V} (hl : H l = some (.lst xs)) (h : StepAt H v s) : StepAt (upd H l (.lst zs)) v s := by
  obtain ⟨p, r1, r2⟩ := h
  refine ⟨p, r1, ?_⟩
  rw [upd_ne (fun z => by rw [z, hl] at r2; cases r2)]
  exact r2
theorem FoAt.push {H H1 H2 : Hp} {l : Addr} {us : List V} (hn : H l = none) (F : FoAt H H1 l us ss) (e : Ex H1 H2) (hs : StepAt H2 v s) : FoAt H (upd H2 l (.lst (us ++ [v]))) l (us ++ [v]) (ss ++ [s]) :=
  ⟨Ex.mut (F.ex.trans e) hn, upd_same, (steps_upd (e _ _ F.at_) (F.st.mono e)).snoc (step_upd (e _ _ F.at_) hs)⟩
/-- steps == [] -/
theorem ev_isEmpty {l : Addr} {us : List V} (hl : H l = some (.lst us)) (hs : StepsAt H us ss) (ho : ∀ s ∈ ss, OkS s) (ha : Ev ta σ H (.ref l)) : Ev (tOp (rEqD K) ta (tLst tNil)) σ H (.bl ss.isEmpty) :=
  ev_opL ha (el_lst ea_nil (show 0 ≤ 100000 by decide)) fun p H1 hp e H2 e2 Q q => ⟨.list (ss.map stD), .list [], .lst (sq_of ((e.trans e2) _ _ hl)) (hs.mono (e.trans e2)).dp, .lst (sq_of (e2 _ _ hp)) .nil, sh_list ho, rfl, by
    have e3 : PyData.eqv (.list (ss.map stD)) (.list []) = ss.isEmpty := by cases ss <;> rfl
    rw [e3]
    exact q H2 (Ex.refl _)⟩
theorem cut_take (xs : List V) (m : Nat) : cutV xs none (some (m : Int)) = xs.take m := by
  unfold cutV
  rw [HT.sIx_none, HT.sIx_nat, List.drop_zero, Nat.sub_zero]
  by_cases h : m ≤ xs.length
  · rw [Nat.min_eq_left h]
  · rw [Nat.min_eq_right (by omega), List.take_length, List.take_of_length_le (by omega)]
/-- f + (step,) -/
theorem ef_cat1 {a : Addr} {us : List V} {tt : TA} (ha : H a = some (.tup us)) (hs : StepsAt H us ss) (hne : ss ≠ []) (hl : ss.length ≤ 1000) (h : Ev ta σ H (.ref a)) (ht : EvA tt σ H (stV s)) (hz : s.2.length ≤ 100) : EvF (tOp (rCatT K) ta (tTup (tCons (tTup tt) tNil))) σ H (ss ++ [s]) := fun H1 e Q q =>
  h H1 e _ fun H2 e2 => ht H2 (e.trans e2) _ fun H3 e3 => ⟨by show (stV s).length ≤ sizeLine; exact sz_of (by simp [stV]; omega), fun p hp => ⟨by show 1 ≤ sizeLine; decide, fun r hr => by
    have e4 : Ex H3 (upd H3 p (.tup (stV s))) := Ex.new hp
    have e5 := e4.trans (Ex.new (o := .tup [V.ref p]) hr)
    have e6 := ((e.trans e2).trans e3).trans e5
    refine ⟨a, r, us, [.ref p], rfl, rfl, st_of (e6 _ _ ha), st_of upd_same, fun z => ?_, ?_, (fun z => nomatch z), fun _ c hc => ?_⟩
    · rw [z] at hs
      have := hs.1
      exact hne (List.eq_nil_of_length_eq_zero this.symm)
    · rw [hs.1]
      exact sz_of (by simp; omega)
    · refine q c _ _ (fresh_back ((e2.trans e3).trans e5) hc) (((e2.trans e3).trans e5).trans (Ex.new hc)) upd_same ?_
      exact ((hs.mono e6).snoc ⟨p, rfl, ex_app (Ex.new hr) upd_same⟩).mono (Ex.new hc)⟩⟩
/-- (step,) -/
theorem ef_one {tt : TA} (ht : EvA tt σ H (stV s)) (hz : s.2.length ≤ 100) : EvF (tTup (tCons (tTup tt) tNil)) σ H [s] := fun H1 e Q q =>
  ht H1 e _ fun H3 e3 => ⟨by show (stV s).length ≤ sizeLine; exact sz_of (by simp [stV]; omega), fun p hp => ⟨by show 1 ≤ sizeLine; decide, fun r hr => by
    have e4 : Ex H3 (upd H3 p (.tup (stV s))) := Ex.new hp
    exact q r _ _ (fresh_back (e3.trans e4) hr) ((e3.trans e4).trans (Ex.new hr)) upd_same (.one ⟨p, rfl, ex_app (Ex.new hr) upd_same⟩)⟩⟩
theorem ev_cbF {r : List V → Hp → VK → Prop} {tr : TA} {ws : List V} (h1 : EvF te σ H ss) (h2 : EvA tr σ H ws) (hr : ∀ p H1 us, H1 p = some (.tup us) → Ex H H1 → RC r (.ref p :: ws) H1 z) : Ev (tCB r (tCons te tr)) σ H z := fun H1 e Q q =>
  h1 H1 e _ fun p H2 us np e2 hp hu => h2 H2 (e.trans e2) _ fun H3 e3 => hr p H3 us (e3 _ _ hp) ((e.trans e2).trans e3) H3 (Ex.refl _) Q fun H4 e4 => q H4 ((e2.trans e3).trans e4)
theorem yes_go {A B : Hp → Prop} (h : A H) : tYes σ H fun b H3 => if b = true then A H3 else B H3 := by
  show (if true = true then A H else B H)
  rw [if_pos rfl]
  exact h
theorem at0 (st : FStep) : atI (stV st) 0 = some (.str st.1) := atI_nat (j := 0) rfl
end
end Fm


namespace K07
open PySem PySem.Spec PyProof.Rows L2 Evl Cm Et Fm
def topS (i : Nat) : Stmt := PySem.Challenge.pw_portolan_k07_formulas_made.main.body.getD i (.Pass ⟨0, 0, 0, 0⟩)
abbrev s_is_integer : Stmt := topS 1
theorem sc_is_integer : FnScope ["value"] ["value"] (defScope s_is_integer) := ⟨rfl, rfl, rfl, by decide +kernel, rfl, by decide +kernel, by decide +kernel⟩
abbrev s_are_integers : Stmt := topS 2
theorem sc_are_integers : FnScope ["values", "value"] ["values"] (defScope s_are_integers) := ⟨rfl, rfl, rfl, by decide +kernel, rfl, by decide +kernel, by decide +kernel⟩
abbrev s_is_formula : Stmt := topS 5
theorem sc_is_formula : FnScope ["value", "place", "step"] ["value"] (defScope s_is_formula) := ⟨rfl, rfl, rfl, by decide +kernel, rfl, by decide +kernel, by decide +kernel⟩
abbrev s_number : Stmt := topS 6
theorem sc_number : FnScope ["p", "q"] ["p", "q"] (defScope s_number) := ⟨rfl, rfl, rfl, by decide +kernel, rfl, by decide +kernel, by decide +kernel⟩
abbrev s_pi_formula : Stmt := topS 7
theorem sc_pi_formula : FnScope [] [] (defScope s_pi_formula) := ⟨rfl, rfl, rfl, by decide +kernel, rfl, by decide +kernel, by decide +kernel⟩
abbrev s_plus : Stmt := topS 8
theorem sc_plus : FnScope ["f", "g"] ["f", "g"] (defScope s_plus) := ⟨rfl, rfl, rfl, by decide +kernel, rfl, by decide +kernel, by decide +kernel⟩
abbrev s_minus : Stmt := topS 9
theorem sc_minus : FnScope ["f", "g"] ["f", "g"] (defScope s_minus) := ⟨rfl, rfl, rfl, by decide +kernel, rfl, by decide +kernel, by decide +kernel⟩
abbrev s_times : Stmt := topS 10
theorem sc_times : FnScope ["f", "g"] ["f", "g"] (defScope s_times) := ⟨rfl, rfl, rfl, by decide +kernel, rfl, by decide +kernel, by decide +kernel⟩
abbrev s_over : Stmt := topS 11
theorem sc_over : FnScope ["f", "g"] ["f", "g"] (defScope s_over) := ⟨rfl, rfl, rfl, by decide +kernel, rfl, by decide +kernel, by decide +kernel⟩
abbrev s_applied : Stmt := topS 12
theorem sc_applied : FnScope ["word", "f"] ["word", "f"] (defScope s_applied) := ⟨rfl, rfl, rfl, by decide +kernel, rfl, by decide +kernel, by decide +kernel⟩
abbrev s_is_step : Stmt := topS 13
theorem sc_is_step : FnScope ["step", "place", "word", "index"] ["step", "place"] (defScope s_is_step) := ⟨rfl, rfl, rfl, by decide +kernel, rfl, by decide +kernel, by decide +kernel⟩
abbrev s_moved : Stmt := topS 14
theorem sc_moved : FnScope ["step", "places"] ["step", "places"] (defScope s_moved) := ⟨rfl, rfl, rfl, by decide +kernel, rfl, by decide +kernel, by decide +kernel⟩
abbrev s_combined : Stmt := topS 15
theorem sc_combined : FnScope ["word", "f", "g", "places", "behind", "step"] ["word", "f", "g"] (defScope s_combined) := ⟨rfl, rfl, rfl, by decide +kernel, rfl, by decide +kernel, by decide +kernel⟩
abbrev s_law_cell : Stmt := topS 17
theorem sc_law_cell : FnScope ["script", "k"] ["script", "k"] (defScope s_law_cell) := ⟨rfl, rfl, rfl, by decide +kernel, rfl, by decide +kernel, by decide +kernel⟩
abbrev s_law_numbers : Stmt := topS 18
theorem sc_law_numbers : FnScope ["script", "first", "most", "found", "at", "cell", "k", "mixed"] ["script", "first", "most"] (defScope s_law_numbers) := ⟨rfl, rfl, rfl, by decide +kernel, rfl, by decide +kernel, by decide +kernel⟩
abbrev s_law_formula : Stmt := topS 19
theorem sc_law_formula : FnScope ["numbers", "most", "steps", "figure", "kind", "a", "i", "j"] ["numbers", "most"] (defScope s_law_formula) := ⟨rfl, rfl, rfl, by decide +kernel, rfl, by decide +kernel, by decide +kernel⟩
abbrev s_law_joined : Stmt := topS 20
theorem sc_law_joined : FnScope ["word", "f", "g", "steps", "step"] ["word", "f", "g"] (defScope s_law_joined) := ⟨rfl, rfl, rfl, by decide +kernel, rfl, by decide +kernel, by decide +kernel⟩
abbrev s_law : Stmt := topS 21
theorem sc_law : FnScope ["script", "digit", "f", "g", "word", "p", "q"] ["script"] (defScope s_law) := ⟨rfl, rfl, rfl, by decide +kernel, rfl, by decide +kernel, by decide +kernel⟩
section
variable {P : Program} {w : World} {K : PySem.W.Frag} {mg : Str → Option Value} {base : Heap}
/-! ### the program: is_formula of formulas -/
def spInteger : Sp := fun vs H Q _ => ∃ i : Int, vs = [.int i] ∧ RetV (.bl true) H Q
theorem ok_integer {f : Addr} {fd : FuncData} (F : Fun K "is_integer" "is_integer" s_is_integer f fd) (m_isinstance : mg "isinstance" = none) (m_int : mg "int" = none) (m_bool : mg "bool" = none) : FnOk P w K mg base CX0 1 f fd ["value"] spInteger := by
  refine F.ok sc_is_integer (fun vs H Q E h => ?_) (fun cdv A outer s H vs Q E hr h => ?_)
  · obtain ⟨i, rfl, _⟩ := h
    rfl
  · obtain ⟨i, rfl, q⟩ := h
    refine ⟨_, (pss_one (ps_ret (pe_and (pe_callB call_isi (by rfl) m_isinstance (by decide +kernel) (pa_cons (pv 0) (pa_cons (pe_bltn (by rfl) m_int (by decide +kernel) (show RelV (.ty "int") _ from rfl)) pa_nil))) (pe_one (pe_not (pe_callB call_isi (by rfl) m_isinstance (by decide +kernel) (pa_cons (pv 0) (pa_cons (pe_bltn (by rfl) m_bool (by decide +kernel) (show RelV (.ty "bool") _ from rfl)) pa_nil)))))))), ?_⟩
    exact s_ret (ev_is (ev_andV (ev_cb (ea_cons (ev_var rfl) (ea_cons ev_c ea_nil)) (rc_isiI (K := K))) fun _ => ev_notV (ev_cb (ea_cons (ev_var rfl) (ea_cons ev_c ea_nil)) (rc_isiIB (K := K)))) rfl) q
def spInts (K : PySem.W.Frag) : Sp := fun vs H Q _ => ∃ (a : Addr) (is : List Int), vs = [.ref a] ∧ SqT K H a (is.map V.int) ∧ RetV (.bl true) H Q
theorem ok_ints {f f0 : Addr} {fd fd0 : FuncData} (F : Fun K "are_integers" "are_integers" s_are_integers f fd) (F_is_integer : Fun K "is_integer" "is_integer" s_is_integer f0 fd0) (b_is_integer : Binds K fd0 ["value"] []) (g_is_integer : mg "is_integer" = some (.ref f0))
    (m_isinstance : mg "isinstance" = none) (m_int : mg "int" = none) (m_bool : mg "bool" = none) : FnOk P w K mg base CX0 2 f fd ["values"] (spInts K) := by
  have G_is_integer : FnOk P w K mg base CX0 1 f0 fd0 _ spInteger := ok_integer F_is_integer m_isinstance m_int m_bool
  refine F.ok sc_are_integers (fun vs H Q E h => ?_) (fun cdv A outer s H vs Q E hr h => ?_)
  · obtain ⟨a, is, rfl, _⟩ := h
    rfl
  · obtain ⟨a, is, rfl, ht, q⟩ := h
    refine ⟨_, (pss_cons (ps_for PassesOwn.never rfl (pi_tup (pv 0)) (pg_name (i := 1) sc_are_integers.nd rfl (.inl rfl)) (pss_one (ps_if (pt_not (pt_val (pe_call G_is_integer (hr.mono (by decide)) (by rfl) g_is_integer F_is_integer.kp b_is_integer .nil pass0 (pa_cons (pv 1) pa_nil)))) (pss_one (ps_ret pe_bl)) pss_nil)))
        (pss_one (ps_ret pe_bl))), ?_⟩
    refine q_forT (ev_var rfl) ht (fun i σ' H' => ∃ x, σ' = [some (.ref a), x] ∧ Ex H H') (fun H1 e1 => ⟨_, rfl, e1⟩) (fun i σ' H' _ p => ?_) (fun i x σ' H' hx p => ?_) (fun σ' H' p => ?_)
    · obtain ⟨x, rfl, e⟩ := p
      exact ex_t e ht
    · obtain ⟨x1, rfl, e⟩ := p
      obtain ⟨n, hn, rfl⟩ : ∃ n, is[i]? = some n ∧ x = V.int n := by
        rw [List.getElem?_map] at hx
        obtain ⟨n, h1, h2⟩ := Option.map_eq_some_iff.mp hx
        exact ⟨n, h1, h2.symm⟩
      show tIfS _ _ tNext _ [some (.ref a), some (.int n)] H'
      exact s_when (b := false) (et_is (et_not (et_B (ev_call (z := .bl true) (ea_cons (ev_var rfl) ea_nil) (fun H1 e1 Q1 q1 E1 => ⟨n, rfl, q1⟩)))) rfl) (fun hb => nomatch hb) fun _ H1 e1 => ⟨_, rfl, e.trans e1⟩
    · obtain ⟨x, rfl, e⟩ := p
      exact s_ret ev_c fun H1 e1 => q H1 (e.trans e1)
/-- the counts behind the words, as the top has written them -/
structure Counts (K : PySem.W.Frag) (w : World) (d : Addr) : Prop where
  dict : ∃ es n, KDict K w d es n
  cnum : ∃ t, PySem.W.nsIn K d "number" = some (some (.int 2 t))
  cpi : ∃ t, PySem.W.nsIn K d "pi" = some (some (.int 0 t))
  c2 : ∀ x ∈ W2, ∃ t, PySem.W.nsIn K d x = some (some (.int 2 t))
  c1 : ∀ x ∈ W1, ∃ t, PySem.W.nsIn K d x = some (some (.int 1 t))
theorem Counts.of {d : Addr} (C : Counts K w d) {k : Nat} {st : FStep} (h : OkStep k st) : ∃ t, PySem.W.nsIn K d st.1 = some (some (.int (st.2.length : Nat) t)) := by
  rcases h with ⟨p, q, rfl, _⟩ | rfl | ⟨x, i, j, hx, rfl, _⟩ | ⟨x, i, hx, rfl, _⟩
  · exact C.cnum
  · exact C.cpi
  · exact C.c2 x hx
  · exact C.c1 x hx
def spIsStep : Sp := fun vs H Q _ => ∃ (v : V) (st : FStep) (k : Nat), vs = [v, .int (k : Int)] ∧ StepAt H v st ∧ OkStep k st ∧ RetV (.bl true) H Q
theorem ok_isstep {f f0 f1 d : Addr} {fd fd0 fd1 : FuncData} (F : Fun K "is_step" "is_step" s_is_step f fd) (F_is_integer : Fun K "is_integer" "is_integer" s_is_integer f0 fd0) (b_is_integer : Binds K fd0 ["value"] []) (g_is_integer : mg "is_integer" = some (.ref f0))
    (F_are_integers : Fun K "are_integers" "are_integers" s_are_integers f1 fd1) (b_are_integers : Binds K fd1 ["values"] []) (g_are_integers : mg "are_integers" = some (.ref f1)) (g_COUNTS : mg "COUNTS" = some (.ref d)) (C : Counts K w d)
    (m_isinstance : mg "isinstance" = none) (m_int : mg "int" = none) (m_bool : mg "bool" = none) (m_len : mg "len" = none) (m_tuple : mg "tuple" = none) (m_str : mg "str" = none) : FnOk P w K mg base CX0 3 f fd ["step", "place"] spIsStep := by
  have G_are_integers : FnOk P w K mg base CX0 2 f1 fd1 _ (spInts K) := ok_ints F_are_integers F_is_integer b_is_integer g_is_integer m_isinstance m_int m_bool
  obtain ⟨es, nn, D_COUNTS⟩ := C.dict
  refine F.ok sc_is_step (fun vs H Q E h => ?_) (fun cdv A outer s H vs Q E hr h => ?_)
  · obtain ⟨v, st, k, rfl, _⟩ := h
    rfl
  · obtain ⟨v, st, k, rfl, hst, hok, q⟩ := h
    obtain ⟨p, rfl, hp⟩ := hst
    obtain ⟨t, hc⟩ := C.of hok
    refine ⟨_, (pss_cons (ps_if (PW.pt (pw_or (pt_not (pt_val (pe_callB call_isi (by rfl) m_isinstance (by decide +kernel) (pa_cons (pv 0) (pa_cons (pe_bltn (by rfl) m_tuple (by decide +kernel) (show RelV (.ty "tuple") _ from rfl)) pa_nil))))) (pw_or (pt_cmpR op_eq (pe_callB call_len (by rfl) m_len (by decide +kernel) (pa_cons (pv 0) pa_nil)) pe_int (nomark _)) (pw_or1 (pt_not (pt_val (pe_callB call_isi (by rfl) m_isinstance (by decide +kernel) (pa_cons (pe_ix ix_tup (pv 0) pe_int (fun _ _ => rfl)) (pa_cons (pe_bltn (by rfl) m_str (by decide +kernel) (show RelV (.ty "str") _ from rfl)) pa_nil))))))))) (pss_one (ps_ret pe_bl)) pss_nil)
        (pss_cons (ps_set (i := 2) sc_is_step.nd rfl (.inl rfl) (pe_ix ix_tup (pv 0) pe_int (fun _ _ => rfl)))
        (pss_cons (ps_if (PW.pt (pw_or (pt_cmpR (op_notIn_kd D_COUNTS) (pv 2) (pe_glob (by rfl) g_COUNTS (show RelV (.ref _) _ from rfl)) (by rfl)) (pw_or (pt_cmpR op_ne (pe_callB call_len (by rfl) m_len (by decide +kernel) (pa_cons (pv 0) pa_nil)) (pe_op op_add (pe_ix ix_kdict (pe_glob (by rfl) g_COUNTS (show RelV (.ref _) _ from rfl)) (pv 2) (fun _ _ => rfl)) pe_int) (nomark _)) (pw_or1 (pt_not (pt_val (pe_call G_are_integers (hr.mono (by decide)) (by rfl) g_are_integers F_are_integers.kp b_are_integers .nil pass0 (pa_cons (pe_slice sl_tup (pv 0) (po_some pe_int) po_none) pa_nil)))))))) (pss_one (ps_ret pe_bl)) pss_nil)
        (pss_cons (ps_if (pt_cmpR op_eq (pv 2) pe_str (nomark _)) (pss_one (ps_ret (pe_cmpR op_ge (pe_ix ix_tup (pv 0) pe_int (fun _ _ => rfl)) pe_int (nomark _)))) pss_nil)
        (pss_cons (ps_for PassesOwn.never rfl (pi_tup (pe_slice sl_tup (pv 0) (po_some pe_int) po_none)) (pg_name (i := 3) sc_is_step.nd rfl (.inl rfl)) (pss_one (ps_if (PW.pt (pw_or (pt_cmpR op_lt (pv 3) pe_int (nomark _)) (pw_or1 (pt_cmpR op_ge (pv 3) (pv 1) (nomark _))))) (pss_one (ps_ret pe_bl)) pss_nil)))
        (pss_one (ps_ret pe_bl))))))), ?_⟩
    have t_step : SqT K H p (stV st) := st_of hp
    -- the kinds
    refine q_when (b := false) (et_is (et_or (a := false) (et_is (et_not (et_B (ev_cb (ea_cons (ev_var rfl) (ea_cons ev_c ea_nil)) (rc_isiT (K := K) hp)))) rfl)
      fun _ => (et_or (a := false) (et_is (et_test (ev_op (ev_cb (ea_cons (ev_var rfl) ea_nil) (rc_lenT (K := K) t_step)) ev_c (rv_eq rfl))) (decide_eq_false fun z => by
          have := V.int.inj z
          rw [show (stV st).length = st.2.length + 1 by simp [stV]] at this
          omega))
      fun _ => (et_is (et_not (et_B (ev_cb (ea_cons (ev_op (ev_var rfl) ev_c (rv_ixT t_step (at0 st))) (ea_cons ev_c ea_nil)) (rc_isiS (K := K))))) (b := false) rfl))) rfl) (fun hb => nomatch hb) fun _ H1 e1 => ?_
    replace hp := ex_app e1 hp
    replace t_step : SqT K H1 p (stV st) := st_of hp
    -- word
    refine q_asg (ev_op (ev_var rfl) ev_c (rv_ixT t_step (at0 st))) fun H2 e2 => ?_
    refine st_is (σ' := [_, _, _, _]) rfl ?_
    replace hp := ex_app e2 hp
    replace t_step : SqT K H2 p (stV st) := st_of hp
    have kd : KDct K w d st.1 (.int (st.2.length : Nat)) := ⟨es, nn, _, D_COUNTS.at_, D_COUNTS.lit, hc, ⟨_, rfl⟩⟩
    refine q_when (b := false) (et_is (et_or (a := false) (et_is (et_test (ev_op (ev_var rfl) ev_c (show RV _ _ _ _ (.bl false) from fun H3 _ Q3 q3 => ⟨st.1, _, rfl, rfl, hc, q3 H3 (Ex.refl H3)⟩))) rfl)
      fun _ => (et_or (a := false) (et_is (et_test (ev_op (ev_cb (ea_cons (ev_var rfl) ea_nil) (rc_lenT (K := K) t_step)) (ev_op (ev_op ev_c (ev_var rfl) (show RV (rIxD K w) _ _ _ (.int (st.2.length : Nat)) from fun H3 _ Q3 q3 => ⟨d, st.1, _, rfl, rfl, kd, q3 H3 (Ex.refl H3)⟩)) ev_c rv_I0) (rv_ne rfl))) (by
          rw [show (stV st).length = st.2.length + 1 by simp [stV]]
          exact congrArg (fun b => !b) (decide_eq_true (congrArg V.int (by omega)))))
      fun _ => (et_is (et_not (et_B (ev_callU (z := .bl true) (eu_tail (ev_var rfl) t_step) ea_nil (fun p1 H3 e3 h3 H4 e4 Q4 q4 E4 => ⟨p1, st.2, rfl, st_of (ex_app e4 h3), q4⟩)))) (b := false) rfl))) rfl) (fun hb => nomatch hb) fun _ H3 e3 => ?_
    replace hp := ex_app e3 hp
    replace t_step : SqT K H3 p (stV st) := st_of hp
    have eall := (e1.trans e2).trans e3
    have qq : ∀ H', Ex H3 H' → Q (.bl true) H' := fun H' e' => q H' (eall.trans e')
    -- number, or the indexes
    by_cases hnum : st.1 = "number"
    · refine q_when (b := true) (et_is (et_test (ev_op (ev_var rfl) ev_c (rv_eq rfl))) (decide_eq_true (congrArg V.str hnum))) (fun _ H4 e4 => ?_) (fun hb => nomatch hb)
      have h2 : ∃ p0 q0, st.2 = [p0, q0] ∧ 1 ≤ q0 := by
        rcases hok with ⟨p0, q0, rfl, h⟩ | rfl | ⟨x, i, j, hx, rfl, _⟩ | ⟨x, i, hx, rfl, _⟩
        · exact ⟨p0, q0, rfl, h⟩
        · exact absurd hnum pi_nn
        · exact absurd hnum (w2_nn x hx)
        · exact absurd hnum (w1_nn x hx)
      obtain ⟨p0, q0, h2, h3⟩ := h2
      have t4 : SqT K H4 p [.str st.1, .int p0, .int q0] := by
        have := ex_t e4 t_step
        unfold stV at this
        rw [h2] at this
        exact this
      exact s_ret (ev_is (ev_op (ev_op (ev_var rfl) ev_c (rv_ixT t4 rfl)) ev_c rv_I0) (w := .bl true) (congrArg V.bl (decide_eq_true h3))) fun H5 e5 => qq H5 (e4.trans e5)
    · refine q_when (b := false) (et_is (et_test (ev_op (ev_var rfl) ev_c (rv_eq rfl))) (decide_eq_false fun z => hnum (V.str.inj z))) (fun hb => nomatch hb) (fun _ H4 e4 => ?_)
      have hin : ∀ i ∈ st.2, 0 ≤ i ∧ i < (k : Int) := by
        rcases hok with ⟨p0, q0, rfl, h⟩ | rfl | ⟨x, i, j, hx, rfl, h1, h2⟩ | ⟨x, i, hx, rfl, h1⟩
        · exact absurd rfl hnum
        · intro i hi
          simp at hi
        · intro y hy
          simp only [List.mem_cons, List.not_mem_nil, or_false] at hy
          rcases hy with rfl | rfl
          · exact h1
          · exact h2
        · intro y hy
          simp only [List.mem_cons, List.not_mem_nil, or_false] at hy
          subst hy
          exact h1
      refine q_forNT (eu_tail (ev_var rfl) (ex_t e4 t_step)) (fun p1 i σ' H' => ∃ x, σ' = [some (.ref p), some (.int (k : Int)), some (.str st.1), x] ∧ Ex H4 H' ∧ H' p1 = some (.tup (st.2.map V.int))) (fun p1 H5 _ e5 h5 => ⟨_, rfl, e5, h5⟩) (fun p1 i σ' H' _ pp => ?_) (fun p1 i x σ' H' hx pp => ?_) (fun p1 σ' H' pp => ?_)
      · obtain ⟨x, _, _, h5⟩ := pp
        exact st_of h5
      · obtain ⟨x1, rfl, e5, h5⟩ := pp
        obtain ⟨n, hn, rfl⟩ : ∃ n, st.2[i]? = some n ∧ x = V.int n := by
          rw [List.getElem?_map] at hx
          obtain ⟨n, h1, h2⟩ := Option.map_eq_some_iff.mp hx
          exact ⟨n, h1, h2.symm⟩
        obtain ⟨g1, g2⟩ := hin n (List.mem_of_getElem? hn)
        show tIfS _ _ tNext _ [some (.ref p), some (.int (k : Int)), some (.str st.1), some (.int n)] H'
        exact s_when (b := false) (et_is (et_or (a := false) (et_is (et_test (ev_op (ev_var rfl) ev_c rv_I0)) (decide_eq_false (by omega))) fun _ => (et_is (et_test (ev_op (ev_var rfl) (ev_var rfl) rv_I0)) (b := false) (decide_eq_false (by omega)))) rfl) (fun hb => nomatch hb) fun _ H6 e6 => ⟨_, rfl, e5.trans e6, ex_app e6 h5⟩
      · obtain ⟨x1, rfl, e5, h5⟩ := pp
        exact s_ret ev_c fun H6 e6 => qq H6 ((e4.trans e5).trans e6)
def spIsForm : Sp := fun vs H Q _ => ∃ (a : Addr) (us : List V) (ss : List FStep), vs = [.ref a] ∧ H a = some (.tup us) ∧ StepsAt H us ss ∧ OkForm ss ∧ ss ≠ [] ∧ RetV (.bl true) H Q
theorem ok_isform {f f2 : Addr} {fd fd2 : FuncData} (F : Fun K "is_formula" "is_formula" s_is_formula f fd) (F_is_step : Fun K "is_step" "is_step" s_is_step f2 fd2) (G_is_step : FnOk P w K mg base CX0 3 f2 fd2 ["step", "place"] spIsStep) (b_is_step : Binds K fd2 ["step", "place"] []) (g_is_step : mg "is_step" = some (.ref f2))
    (m_isinstance : mg "isinstance" = none) (m_len : mg "len" = none) (m_tuple : mg "tuple" = none) (m_enumerate : mg "enumerate" = none) : FnOk P w K mg base CX0 4 f fd ["value"] spIsForm := by
  refine F.ok sc_is_formula (fun vs H Q E h => ?_) (fun cdv A outer s H vs Q E hr h => ?_)
  · obtain ⟨a, us, ss, rfl, _⟩ := h
    rfl
  · obtain ⟨a, us, ss, rfl, ha, hs, hok, hne, q⟩ := h
    refine ⟨_, (pss_cons (ps_if (PW.pt (pw_or (pt_not (pt_val (pe_callB call_isi (by rfl) m_isinstance (by decide +kernel) (pa_cons (pv 0) (pa_cons (pe_bltn (by rfl) m_tuple (by decide +kernel) (show RelV (.ty "tuple") _ from rfl)) pa_nil))))) (pw_or1 (pt_cmpR op_eq (pe_callB call_len (by rfl) m_len (by decide +kernel) (pa_cons (pv 0) pa_nil)) pe_int (nomark _))))) (pss_one (ps_ret pe_bl)) pss_nil)
        (pss_cons (ps_for PassesOwn.never rfl (pi_enumT (by rfl) m_enumerate (pa_cons (pv 0) pa_nil)) (pg_tup rfl (pgs_cons (pg_name (i := 1) sc_is_formula.nd rfl (.inl rfl)) (pgs_cons (pg_name (i := 2) sc_is_formula.nd rfl (.inl rfl)) pgs_nil))) (pss_one (ps_if (pt_not (pt_val (pe_call G_is_step (hr.mono (by decide)) (by rfl) g_is_step F_is_step.kp b_is_step .nil pass0 (pa_cons (pv 2) (pa_cons (pv 1) pa_nil))))) (pss_one (ps_ret pe_bl)) pss_nil)))
        (pss_one (ps_ret pe_bl)))), ?_⟩
    have hl : 0 < us.length := by
      rw [hs.1]
      exact List.length_pos_iff.mpr hne
    refine q_when (b := false) (et_is (et_or (a := false) (et_is (et_not (et_B (ev_cb (ea_cons (ev_var rfl) (ea_cons ev_c ea_nil)) (rc_isiT (K := K) ha)))) rfl)
      fun _ => (et_is (et_test (ev_op (ev_cb (ea_cons (ev_var rfl) ea_nil) (rc_lenT (K := K) (st_of ha))) ev_c (rv_eq rfl))) (b := false) (decide_eq_false fun z => by
          have := V.int.inj z
          omega))) rfl) (fun hb => nomatch hb) fun _ H1 e1 => ?_
    replace ha := ex_app e1 ha
    replace hs := hs.mono e1
    refine q_forET (ea_cons (ev_var rfl) ea_nil) (st_of ha) (fun i σ' H' => ∃ x y, σ' = [some (.ref a), x, y] ∧ Ex H1 H') (fun H2 e2 => ⟨_, _, rfl, e2⟩) (fun i σ' H' _ pp => ?_) (fun i x σ' H' T hx pp hT => ?_) (fun σ' H' pp => ?_)
    · obtain ⟨x, y, _, e2⟩ := pp
      exact st_of (ex_app e2 ha)
    · obtain ⟨x1, y1, rfl, e2⟩ := pp
      obtain ⟨st, hst, sat⟩ := hs.get hx
      have e3 : Ex H1 (upd H' T (.tup [.int (i : Nat), x])) := e2.trans (Ex.new hT)
      refine ⟨T, [.int (i : Nat), x], rfl, .inl (.inl upd_same), rfl, _, _, rfl, _, _, rfl, rfl, ?_⟩
      show tIfS _ _ tNext _ [some (.ref a), some (.int (i : Nat)), some x] _
      exact s_when (b := false) (et_is (et_not (et_B (ev_call (z := .bl true) (ea_cons (ev_var rfl) (ea_cons (ev_var rfl) ea_nil)) (fun H5 e5 Q5 q5 E5 => ⟨x, st, i, rfl, sat.mono (e3.trans e5), hok i st hst, q5⟩)))) rfl) (fun hb => nomatch hb) fun _ H6 e6 => ⟨_, _, rfl, e3.trans e6⟩
    · obtain ⟨x1, y1, rfl, e2⟩ := pp
      exact s_ret ev_c fun H6 e6 => q H6 ((e1.trans e2).trans e6)
/-! ### the program: formulas made -/
def spNumber : Sp := fun vs H Q _ => ∃ p q : Int, vs = [.int p, .int q] ∧ RetF [(("number" : Str), [p, q])] H Q
theorem step_new {H H' : Hp} {p a : Addr} {st : FStep} (h1 : H p = none) (h2 : (upd H p (.tup (stV st))) a = none) : StepsAt (upd (upd H p (.tup (stV st))) a (.tup [.ref p])) [.ref p] [st] :=
  .one ⟨p, rfl, ex_app (Ex.new h2) upd_same⟩
theorem ok_number {f : Addr} {fd : FuncData} (F : Fun K "number" "number" s_number f fd) : FnOk P w K mg base CX0 1 f fd ["p", "q"] spNumber := by
  refine F.ok sc_number (fun vs H Q E h => ?_) (fun cdv A outer s H vs Q E hr h => ?_)
  · obtain ⟨p, q, rfl, _⟩ := h
    rfl
  · obtain ⟨p, q, rfl, k⟩ := h
    refine ⟨_, (pss_one (ps_ret (pe_tup (pa_cons (pe_tup (pa_cons pe_str (pa_cons (pv 0) (pa_cons (pv 1) pa_nil)))) pa_nil)))), ?_⟩
    refine ⟨_, rfl, _, rfl, (by show 3 ≤ sizeLine; decide), fun b hb => ⟨(by show 1 ≤ sizeLine; decide), fun a ha => ?_⟩⟩
    exact k a _ [.ref b] (fresh_back (Ex.new hb) ha) ((Ex.new hb).trans (Ex.new ha)) upd_same (step_new (st := (("number" : Str), [p, q])) (H' := H) hb ha)
def spPi : Sp := fun vs H Q _ => vs = [] ∧ RetF [(("pi" : Str), [])] H Q
theorem ok_piform {f : Addr} {fd : FuncData} (F : Fun K "pi_formula" "pi_formula" s_pi_formula f fd) : FnOk P w K mg base CX0 1 f fd [] spPi := by
  refine F.ok sc_pi_formula (fun vs H Q E h => ?_) (fun cdv A outer s H vs Q E hr h => ?_)
  · obtain ⟨rfl, _⟩ := h
    rfl
  · obtain ⟨rfl, k⟩ := h
    refine ⟨_, (pss_one (ps_ret (pe_tup (pa_cons (pe_tup (pa_cons pe_str pa_nil)) pa_nil)))), ?_⟩
    refine ⟨(by show 1 ≤ sizeLine; decide), fun b hb => ⟨(by show 1 ≤ sizeLine; decide), fun a ha => ?_⟩⟩
    exact k a _ [.ref b] (fresh_back (Ex.new hb) ha) ((Ex.new hb).trans (Ex.new ha)) upd_same (step_new (st := (("pi" : Str), [])) (H' := H) hb ha)
def spMoved (K : PySem.W.Frag) : Sp := fun vs H Q _ => ∃ (v : V) (st : FStep) (pl : Addr) (m n : Nat), vs = [v, .ref pl] ∧ StepAt H v st ∧ OkStep n st ∧ SqL K H pl (rgV (m : Int) ((m : Int) + (n : Int))) ∧ RetS (shiftS m st) H Q
theorem rgV_at {m n : Nat} {i : Int} (h0 : 0 ≤ i) (h1 : i < (n : Int)) : atI (rgV (m : Int) ((m : Int) + (n : Int))) i = some (.int ((m : Int) + i)) := by
  obtain ⟨j, rfl⟩ := Int.eq_ofNat_of_zero_le h0
  refine atI_nat ?_
  unfold rgV
  rw [List.getElem?_map, List.getElem?_range (by omega)]
  rfl
theorem rgV_last {m n : Nat} (h : 0 < n) : atI (rgV (m : Int) ((m : Int) + (n : Int))) (-1) = some (.int ((m : Int) + (n : Int) - 1)) := by
  obtain ⟨k, rfl⟩ : ∃ k, n = k + 1 := ⟨n - 1, by omega⟩
  unfold rgV
  rw [show ((m : Int) + ((k + 1 : Nat) : Int) - (m : Int)).toNat = k + 1 by omega, List.range_succ, List.map_append]
  refine (atI_last _ _).trans ?_
  exact congrArg some (congrArg V.int (by omega))
theorem ok_moved {f : Addr} {fd : FuncData} (F : Fun K "moved" "moved" s_moved f fd) (m_len : mg "len" = none) : FnOk P w K mg base CX0 1 f fd ["step", "places"] (spMoved K) := by
  refine F.ok sc_moved (fun vs H Q E h => ?_) (fun cdv A outer s H vs Q E hr h => ?_)
  · obtain ⟨v, st, pl, m, n, rfl, _⟩ := h
    rfl
  · obtain ⟨v, st, pl, m, n, rfl, hst, hok, hpl, q⟩ := h
    obtain ⟨p, rfl, hp⟩ := hst
    refine ⟨_, (pss_cons (ps_if (PW.pt (pw_or (pt_cmpR op_eq (pe_ix ix_tup (pv 0) pe_int (fun _ _ => rfl)) pe_str (nomark _)) (pw_or1 (pt_cmpR op_eq (pe_callB call_len (by rfl) m_len (by decide +kernel) (pa_cons (pv 0) pa_nil)) pe_int (nomark _))))) (pss_one (ps_ret (pv 0))) pss_nil)
        (pss_cons (ps_if (pt_cmpR op_eq (pe_callB call_len (by rfl) m_len (by decide +kernel) (pa_cons (pv 0) pa_nil)) pe_int (nomark _)) (pss_one (ps_ret (pe_tup (pa_cons (pe_ix ix_tup (pv 0) pe_int (fun _ _ => rfl)) (pa_cons (pe_ix ix_list (pv 1) (pe_ix ix_tup (pv 0) pe_int (fun _ _ => rfl)) (fun _ _ => rfl)) pa_nil))))) pss_nil)
        (pss_one (ps_ret (pe_tup (pa_cons (pe_ix ix_tup (pv 0) pe_int (fun _ _ => rfl)) (pa_cons (pe_ix ix_list (pv 1) (pe_ix ix_tup (pv 0) pe_int (fun _ _ => rfl)) (fun _ _ => rfl)) (pa_cons (pe_ix ix_list (pv 1) (pe_ix ix_tup (pv 0) pe_int (fun _ _ => rfl)) (fun _ _ => rfl)) pa_nil)))))))), ?_⟩
    have t_step : SqT K H p (stV st) := st_of hp
    have lenT : ∀ {Hh : Hp} {xs : List V}, SqT K Hh p xs → RC (fun xs H Q => ∃ x n, xs = [x] ∧ LenV K x H n ∧ Q (.int n) H) [.ref p] Hh (.int (xs.length : Int)) := fun h H1 e _ q => ⟨.ref p, (_ : Nat), rfl, .inr ⟨_, ex_t e h, rfl⟩, q H1 (Ex.refl H1)⟩
    rcases hok with ⟨p0, q0, rfl, h⟩ | rfl | ⟨x, i, j, hx, rfl, h1, h2⟩ | ⟨x, i, hx, rfl, h1⟩
    · refine q_when (b := true) (et_is (et_or (a := true) (b := true) (et_is (et_test (ev_op (ev_op (ev_var rfl) ev_c (rv_ixT t_step rfl)) ev_c (rv_eq rfl))) (decide_eq_true rfl)) (fun z => nomatch z)) rfl) (fun _ H4 e4 => ?_) (fun hb => nomatch hb)
      exact s_ret (ev_var rfl) fun H5 e5 => q _ _ (e4.trans e5) ⟨p, rfl, (e4.trans e5) _ _ hp⟩
    · refine q_when (b := true) (et_is (et_or (a := false) (b := true) (et_is (et_test (ev_op (ev_op (ev_var rfl) ev_c (rv_ixT t_step rfl)) ev_c (rv_eq rfl))) (by decide +kernel)) (fun _ => (et_is (et_test (ev_op (ev_cb (ea_cons (ev_var rfl) ea_nil) (lenT t_step)) ev_c (rv_eq rfl))) rfl))) rfl) (fun _ H4 e4 => ?_) (fun hb => nomatch hb)
      exact s_ret (ev_var rfl) fun H5 e5 => q _ _ (e4.trans e5) ⟨p, rfl, (e4.trans e5) _ _ hp⟩
    · have hnum : x ≠ "number" := fun z => absurd hx (by rw [z]; decide +kernel)
      refine q_when (b := false) (et_is (et_or (a := false) (b := false) (et_is (et_test (ev_op (ev_op (ev_var rfl) ev_c (rv_ixT t_step rfl)) ev_c (rv_eq rfl))) (decide_eq_false fun z => hnum (V.str.inj z))) (fun _ => (et_is (et_test (ev_op (ev_cb (ea_cons (ev_var rfl) ea_nil) (lenT t_step)) ev_c (rv_eq rfl))) rfl))) rfl) (fun hb => nomatch hb) (fun _ H4 e4 => ?_)
      replace t_step := ex_t e4 t_step
      refine q_when (b := false) (et_is (et_test (ev_op (ev_cb (ea_cons (ev_var rfl) ea_nil) (lenT t_step)) ev_c (rv_eq rfl))) rfl) (fun hb => nomatch hb) (fun _ H5 e5 => ?_)
      replace t_step := ex_t e5 t_step
      replace hpl := ex_l (e4.trans e5) hpl
      refine s_retU (eu_tup (ea_cons (ev_op (ev_var rfl) ev_c (rv_ixT t_step rfl)) (ea_cons (ev_op (ev_var rfl) (ev_op (ev_var rfl) ev_c (rv_ixT t_step rfl)) (rv_ixL hpl (rgV_at h1.1 h1.2))) (ea_cons (ev_op (ev_var rfl) (ev_op (ev_var rfl) ev_c (rv_ixT t_step rfl)) (rv_ixL hpl (rgV_at h2.1 h2.2))) ea_nil))) (show 3 ≤ 100000 by decide)) fun a H6 na e6 ha => q _ _ ((e4.trans e5).trans e6) ⟨a, rfl, ?_⟩
      rw [ha]
      unfold shiftS stV
      rw [if_neg hnum]
      rfl
    · have hnum : x ≠ "number" := fun z => absurd hx (by rw [z]; decide +kernel)
      refine q_when (b := false) (et_is (et_or (a := false) (b := false) (et_is (et_test (ev_op (ev_op (ev_var rfl) ev_c (rv_ixT t_step rfl)) ev_c (rv_eq rfl))) (decide_eq_false fun z => hnum (V.str.inj z))) (fun _ => (et_is (et_test (ev_op (ev_cb (ea_cons (ev_var rfl) ea_nil) (lenT t_step)) ev_c (rv_eq rfl))) rfl))) rfl) (fun hb => nomatch hb) (fun _ H4 e4 => ?_)
      replace t_step := ex_t e4 t_step
      refine q_when (b := true) (et_is (et_test (ev_op (ev_cb (ea_cons (ev_var rfl) ea_nil) (lenT t_step)) ev_c (rv_eq rfl))) rfl) (fun _ H5 e5 => ?_) (fun hb => nomatch hb)
      replace t_step := ex_t e5 t_step
      replace hpl := ex_l (e4.trans e5) hpl
      refine s_retU (eu_tup (ea_cons (ev_op (ev_var rfl) ev_c (rv_ixT t_step rfl)) (ea_cons (ev_op (ev_var rfl) (ev_op (ev_var rfl) ev_c (rv_ixT t_step rfl)) (rv_ixL hpl (rgV_at h1.1 h1.2))) ea_nil)) (show 2 ≤ 100000 by decide)) fun a H6 na e6 ha => q _ _ ((e4.trans e5).trans e6) ⟨a, rfl, ?_⟩
      rw [ha]
      unfold shiftS stV
      rw [if_neg hnum]
      rfl
def spCombined : Sp := fun vs H Q _ => ∃ (x : Str) (a b : Addr) (us ws : List V) (ff gg : List FStep), vs = [.str x, .ref a, .ref b] ∧ H a = some (.tup us) ∧ StepsAt H us ff ∧ H b = some (.tup ws) ∧ StepsAt H ws gg ∧ OkForm gg ∧ ff ≠ [] ∧ gg ≠ [] ∧ ff.length ≤ 1000 ∧ gg.length ≤ 1000 ∧ RetF (joinS x ff gg) H Q
theorem ok_combined {f f3 : Addr} {fd fd3 : FuncData} (F : Fun K "combined" "combined" s_combined f fd) (F_moved : Fun K "moved" "moved" s_moved f3 fd3) (b_moved : Binds K fd3 ["step", "places"] []) (g_moved : mg "moved" = some (.ref f3))
    (m_len : mg "len" = none) (m_range : mg "range" = none) (m_list : mg "list" = none) : FnOk P w K mg base CX0 2 f fd ["word", "f", "g"] spCombined := by
  have G_moved : FnOk P w K mg base CX0 1 f3 fd3 _ (spMoved K) := ok_moved F_moved m_len
  refine F.ok sc_combined (fun vs H Q E h => ?_) (fun cdv A outer s H vs Q E hr h => ?_)
  · obtain ⟨x, a, b, us, ws, ff, gg, rfl, _⟩ := h
    rfl
  · obtain ⟨x, a, b, us, ws, ff, gg, rfl, ha, hf, hb, hg, hok, hfn, hgn, hl1, hl2, q⟩ := h
    have l1 : 0 < ff.length := List.length_pos_iff.mpr hfn
    have l2 : 0 < gg.length := List.length_pos_iff.mpr hgn
    refine ⟨_, (pss_cons (ps_set (i := 3) sc_combined.nd rfl (.inr rfl) (pe_listRg rfl (by rfl) m_list (prg_2 (by rfl) m_range (pe_callB call_len (by rfl) m_len (by decide +kernel) (pa_cons (pv 1) pa_nil)) (pe_op op_add (pe_callB call_len (by rfl) m_len (by decide +kernel) (pa_cons (pv 1) pa_nil)) (pe_callB call_len (by rfl) m_len (by decide +kernel) (pa_cons (pv 2) pa_nil))))))
        (pss_cons (ps_setLc (i := 4) (own := [("step", 5)]) (g := gName 5) rfl sc_combined.nd rfl rfl (sw_true rfl rfl rfl (by decide +kernel)) (pi_tup (pv 2)) (blkOk_by (own := [("step", 5)]) (N := ["word", "f", "g", "places", "behind", "step"]) (sc := defScope s_combined) (by decide +kernel)) (fun _ _ _ _ _ => (pg_name (i := 5) sc_combined.nd rfl (.inl rfl))) (fun _ _ _ _ _ => pts_nil) (fun _ _ _ _ _ => (pe_call G_moved (hr.mono (by decide)) (by rfl) g_moved F_moved.kp b_moved .nil pass0 (pa_cons (pv 5) (pa_cons (pv 3) pa_nil)))))
        (pss_one (ps_ret (pe_tup (StX.pa_star (pv 1) (StX.pa_star (pv 4) (pa_cons (pe_tup (pa_cons (pv 0) (pa_cons (pe_op op_sub (pe_callB call_len (by rfl) m_len (by decide +kernel) (pa_cons (pv 1) pa_nil)) pe_int) (pa_cons (pe_ix ix_list (pv 3) (pe_un un_neg pe_int) (fun _ _ => rfl)) pa_nil)))) pa_nil)))))))), ?_⟩
    -- places = list(range(..))
    refine q_asgP (fun v H1 => ∃ l, v = .ref l ∧ H1 l = some (.lst (rgV (ff.length : Int) ((ff.length : Int) + (gg.length : Int))))) (fun Q1 k1 => ?_) fun v H1 e1 hP => ?_
    · refine ⟨_, rfl, .ref a, us.length, rfl, .inr ⟨_, st_of ha, rfl⟩, _, rfl, .ref a, us.length, rfl, .inr ⟨_, st_of ha, rfl⟩, _, rfl, .ref b, ws.length, rfl, .inr ⟨_, st_of hb, rfl⟩, _, _, rfl, rfl, _, _, rfl, rfl, ?_, fun l hl => ?_⟩
      · have := hf.1
        have := hg.1
        exact RgOk.of_le (by omega) (by omega) (by omega) (by omega)
      · refine k1 _ _ (Ex.new hl) ⟨l, rfl, ?_⟩
        rw [hf.1, hg.1]
        exact upd_same
    obtain ⟨l, rfl, hl3⟩ := hP
    have hpl : SqL K H1 l (rgV (ff.length : Int) ((ff.length : Int) + (gg.length : Int))) := sq_of hl3
    refine st_is (σ' := [_, _, _, _, _, _]) rfl ?_
    -- behind = [moved(step, places) for step in g]
    refine q_asgP (fun v H2 => ∃ dl zs, v = .ref dl ∧ H2 dl = some (.lst zs) ∧ StepsAt H2 zs (gg.map (shiftS ff.length))) (fun Q1 k1 => ?_) fun v H2 e2 hP => ?_
    · refine ⟨_, rfl, b, rfl, ⟨ws, st_of (ex_app e1 hb)⟩, fun dl hdl => ?_⟩
      refine lc_tup (xs := ws) (fun i H' => Ex H1 H' ∧ ∃ zs, H' dl = some (.lst zs) ∧ StepsAt H' zs ((gg.take i).map (shiftS ff.length))) ⟨Ex.new hdl, [], upd_same, .nil⟩ (fun i H' _ p => st_of (ex_app p.1 (ex_app e1 hb))) (fun i y H' hy p => ?_) (fun H' p => ?_)
      · obtain ⟨e3, zs, h3, h4⟩ := p
        obtain ⟨st, hst, sat⟩ := hg.get hy
        refine ⟨rfl, ?_⟩
        refine yes_go ?_
        refine ⟨_, rfl, _, rfl, y, st, l, ff.length, gg.length, rfl, sat.mono (e1.trans e3), (hok i st hst).mono (Nat.le_of_lt (List.getElem?_eq_some_iff.mp hst).1), ex_l e3 hpl, fun z H5 e5 hz => ?_⟩
        refine ⟨zs, e5 _ _ h3, ?_, Ex.mut (e3.trans e5) hdl, zs ++ [z], upd_same, ?_⟩
        · have h5 := h4.1
          rw [List.length_map, List.length_take] at h5
          exact sz_lt (by omega)
        · have h6 : StepsAt (upd H5 dl (.lst (zs ++ [z]))) (zs ++ [z]) ((gg.take i).map (shiftS ff.length) ++ [shiftS ff.length st]) := by
            refine StepsAt.snoc ?_ ?_
            · exact ⟨h4.1, fun j v' s' hv hs' => by
                obtain ⟨p1, r1, r2⟩ := h4.2 j v' s' hv hs'
                refine ⟨p1, r1, ?_⟩
                rw [upd_ne (fun zz => by rw [zz, h3] at r2; cases r2)]
                exact e5 _ _ r2⟩
            · obtain ⟨p1, r1, r2⟩ := hz
              refine ⟨p1, r1, ?_⟩
              rw [upd_ne (fun zz => by rw [zz, e5 _ _ h3] at r2; cases r2)]
              exact r2
          rw [List.take_add_one, hst, List.map_append]
          exact h6
      · obtain ⟨e3, zs, h3, h4⟩ := p
        have ew : ws.length = gg.length := hg.1
        rw [ew, List.take_length] at h4
        exact k1 _ _ e3 ⟨dl, zs, rfl, h3, h4⟩
    obtain ⟨dl, zs, rfl, h3, h4⟩ := hP
    refine st_is (σ' := [_, _, _, _, _, _]) rfl ?_
    -- the result
    have e12 := e1.trans e2
    refine ⟨_, rfl, a, us, rfl, .inl (st_of (ex_app e12 ha)), _, rfl, dl, zs, rfl, .inr (sq_of h3), _, rfl, _, rfl, .ref a, us.length, rfl, .inr ⟨_, st_of (ex_app e12 ha), rfl⟩, _, _, rfl, rfl, _, rfl, _, rfl, l, _, -1, _, rfl, rfl, ex_l e2 hpl, rgV_last l2, ?_, fun c hc => ⟨?_, fun r hr2 => ?_⟩⟩
    · show 3 ≤ sizeLine
      decide
    · show (us ++ (zs ++ [V.ref c])).length ≤ sizeLine
      rw [List.length_append, List.length_append, hf.1, h4.1, List.length_map]
      exact sz_of (by simp; omega)
    · have e3 : Ex H2 (upd H2 c (.tup (stV (x, [(ff.length : Int) - 1, (ff.length : Int) + (gg.length : Int) - 1])))) := Ex.new hc
      rw [hf.1] at hr2 ⊢
      refine q.go e12 (fresh_back e3 hr2) (e3.trans (Ex.new hr2)) upd_same ?_
      unfold joinS
      rw [List.append_assoc]
      refine StepsAt.app ((hf.mono e12).mono (e3.trans (Ex.new hr2))) (StepsAt.app (h4.mono (e3.trans (Ex.new hr2))) (.one ⟨c, rfl, ex_app (Ex.new hr2) upd_same⟩))
def spPlus (x : Str) : Sp := fun vs H Q _ => ∃ (a b : Addr) (us ws : List V) (ff gg : List FStep), vs = [.ref a, .ref b] ∧ H a = some (.tup us) ∧ StepsAt H us ff ∧ H b = some (.tup ws) ∧ StepsAt H ws gg ∧ OkForm gg ∧ ff ≠ [] ∧ gg ≠ [] ∧ ff.length ≤ 1000 ∧ gg.length ≤ 1000 ∧ RetF (joinS x ff gg) H Q
theorem ok_plus {f f4 : Addr} {fd fd4 : FuncData} (F : Fun K "plus" "plus" s_plus f fd) (F_combined : Fun K "combined" "combined" s_combined f4 fd4) (G_combined : FnOk P w K mg base CX0 2 f4 fd4 ["word", "f", "g"] spCombined) (b_combined : Binds K fd4 ["word", "f", "g"] []) (g_combined : mg "combined" = some (.ref f4)) : FnOk P w K mg base CX0 3 f fd ["f", "g"] (spPlus "add") := by
  refine F.ok sc_plus (fun vs H Q E h => ?_) (fun cdv A outer s H vs Q E hr h => ?_)
  · obtain ⟨a, b, us, ws, ff, gg, rfl, _⟩ := h
    rfl
  · obtain ⟨a, b, us, ws, ff, gg, rfl, h⟩ := h
    refine ⟨_, (pss_one (ps_ret (pe_call G_combined (hr.mono (by decide)) (by rfl) g_combined F_combined.kp b_combined .nil pass0 (pa_cons pe_str (pa_cons (pv 0) (pa_cons (pv 1) pa_nil)))))), ?_⟩
    exact ⟨_, rfl, _, rfl, "add", a, b, us, ws, ff, gg, rfl, h⟩
theorem ok_minus {f f4 : Addr} {fd fd4 : FuncData} (F : Fun K "minus" "minus" s_minus f fd) (F_combined : Fun K "combined" "combined" s_combined f4 fd4) (G_combined : FnOk P w K mg base CX0 2 f4 fd4 ["word", "f", "g"] spCombined) (b_combined : Binds K fd4 ["word", "f", "g"] []) (g_combined : mg "combined" = some (.ref f4)) : FnOk P w K mg base CX0 3 f fd ["f", "g"] (spPlus "subtract") := by
  refine F.ok sc_minus (fun vs H Q E h => ?_) (fun cdv A outer s H vs Q E hr h => ?_)
  · obtain ⟨a, b, us, ws, ff, gg, rfl, _⟩ := h
    rfl
  · obtain ⟨a, b, us, ws, ff, gg, rfl, h⟩ := h
    refine ⟨_, (pss_one (ps_ret (pe_call G_combined (hr.mono (by decide)) (by rfl) g_combined F_combined.kp b_combined .nil pass0 (pa_cons pe_str (pa_cons (pv 0) (pa_cons (pv 1) pa_nil)))))), ?_⟩
    exact ⟨_, rfl, _, rfl, "subtract", a, b, us, ws, ff, gg, rfl, h⟩
theorem ok_times {f f4 : Addr} {fd fd4 : FuncData} (F : Fun K "times" "times" s_times f fd) (F_combined : Fun K "combined" "combined" s_combined f4 fd4) (G_combined : FnOk P w K mg base CX0 2 f4 fd4 ["word", "f", "g"] spCombined) (b_combined : Binds K fd4 ["word", "f", "g"] []) (g_combined : mg "combined" = some (.ref f4)) : FnOk P w K mg base CX0 3 f fd ["f", "g"] (spPlus "times") := by
  refine F.ok sc_times (fun vs H Q E h => ?_) (fun cdv A outer s H vs Q E hr h => ?_)
  · obtain ⟨a, b, us, ws, ff, gg, rfl, _⟩ := h
    rfl
  · obtain ⟨a, b, us, ws, ff, gg, rfl, h⟩ := h
    refine ⟨_, (pss_one (ps_ret (pe_call G_combined (hr.mono (by decide)) (by rfl) g_combined F_combined.kp b_combined .nil pass0 (pa_cons pe_str (pa_cons (pv 0) (pa_cons (pv 1) pa_nil)))))), ?_⟩
    exact ⟨_, rfl, _, rfl, "times", a, b, us, ws, ff, gg, rfl, h⟩
theorem ok_over {f f4 : Addr} {fd fd4 : FuncData} (F : Fun K "over" "over" s_over f fd) (F_combined : Fun K "combined" "combined" s_combined f4 fd4) (G_combined : FnOk P w K mg base CX0 2 f4 fd4 ["word", "f", "g"] spCombined) (b_combined : Binds K fd4 ["word", "f", "g"] []) (g_combined : mg "combined" = some (.ref f4)) : FnOk P w K mg base CX0 3 f fd ["f", "g"] (spPlus "divide") := by
  refine F.ok sc_over (fun vs H Q E h => ?_) (fun cdv A outer s H vs Q E hr h => ?_)
  · obtain ⟨a, b, us, ws, ff, gg, rfl, _⟩ := h
    rfl
  · obtain ⟨a, b, us, ws, ff, gg, rfl, h⟩ := h
    refine ⟨_, (pss_one (ps_ret (pe_call G_combined (hr.mono (by decide)) (by rfl) g_combined F_combined.kp b_combined .nil pass0 (pa_cons pe_str (pa_cons (pv 0) (pa_cons (pv 1) pa_nil)))))), ?_⟩
    exact ⟨_, rfl, _, rfl, "divide", a, b, us, ws, ff, gg, rfl, h⟩
def spApplied : Sp := fun vs H Q _ => ∃ (x : Str) (a : Addr) (us : List V) (ff : List FStep), vs = [.str x, .ref a] ∧ H a = some (.tup us) ∧ StepsAt H us ff ∧ ff.length ≤ 1000 ∧ RetF (ff ++ [(x, [(ff.length : Int) - 1])]) H Q
theorem ok_applied {f : Addr} {fd : FuncData} (F : Fun K "applied" "applied" s_applied f fd) (m_len : mg "len" = none) : FnOk P w K mg base CX0 1 f fd ["word", "f"] spApplied := by
  refine F.ok sc_applied (fun vs H Q E h => ?_) (fun cdv A outer s H vs Q E hr h => ?_)
  · obtain ⟨x, a, us, ff, rfl, _⟩ := h
    rfl
  · obtain ⟨x, a, us, ff, rfl, ha, hf, hl, q⟩ := h
    refine ⟨_, (pss_one (ps_ret (pe_tup (StX.pa_star (pv 1) (pa_cons (pe_tup (pa_cons (pv 0) (pa_cons (pe_op op_sub (pe_callB call_len (by rfl) m_len (by decide +kernel) (pa_cons (pv 1) pa_nil)) pe_int) pa_nil))) pa_nil))))), ?_⟩
    refine ⟨_, rfl, a, us, rfl, .inl (st_of ha), _, rfl, _, rfl, .ref a, us.length, rfl, .inr ⟨_, st_of ha, rfl⟩, _, _, rfl, rfl, (by show 2 ≤ sizeLine; decide), fun c hc => ⟨?_, fun r hr2 => ?_⟩⟩
    · show (us ++ [V.ref c]).length ≤ sizeLine
      rw [List.length_append, hf.1]
      exact sz_of (by simp; omega)
    · rw [hf.1] at hr2 ⊢
      have e3 : Ex H (upd H c (.tup (stV (x, [(ff.length : Int) - 1])))) := Ex.new hc
      refine q r _ _ (fresh_back e3 hr2) (e3.trans (Ex.new hr2)) upd_same ?_
      exact StepsAt.app (hf.mono (e3.trans (Ex.new hr2))) (.one ⟨c, rfl, ex_app (Ex.new hr2) upd_same⟩)
/-! ### the law's own defs -/
theorem ok_cell {f : Addr} {fd : FuncData} (F : Fun K "_law_cell" "_law_cell" s_law_cell f fd) (m_len : mg "len" = none) : FnOk P w K mg base CX0 1 f fd ["script", "k"] (spCell K) := by
  refine F.ok sc_law_cell (fun vs H Q E h => ?_) (fun cdv A outer s H vs Q E hr h => ?_)
  · obtain ⟨l, ns, j, rfl, _⟩ := h
    rfl
  · obtain ⟨l, ns, j, rfl, hs, q⟩ := h
    refine ⟨_, (pss_cons (ps_if (pt_cmpR op_lt (pv 1) (pe_callB call_len (by rfl) m_len (by decide +kernel) (pa_cons (pv 0) pa_nil)) (nomark _)) (pss_one (ps_ret (pe_ix ix_list (pv 0) (pv 1) (fun _ _ => rfl)))) pss_nil)
        (pss_one (ps_ret pe_int))), ?_⟩
    refine ⟨_, rfl, _, rfl, .ref l, ((ns.map V.int).length : Nat), rfl, .inl ⟨_, hs, rfl⟩, _, _, rfl, rfl, _, rfl, ite2 (fun e => ?_) (fun e => ?_)⟩
    · have hj : j < ns.length := by
        have := of_decide_eq_true e
        rw [List.length_map] at this
        omega
      exact ⟨_, rfl, _, rfl, l, _, _, _, rfl, rfl, hs, atI_cell hj, q⟩
    · have hj : ¬ j < ns.length := fun z => e (decide_eq_true (by rw [List.length_map]; omega))
      rw [cell_out hj] at q
      exact q
def spNumbers (K : PySem.W.Frag) : Sp := fun vs H Q _ => ∃ (sa : Addr) (ns : List Int) (first most : Nat), vs = [.ref sa, .int (first : Int), .int (most : Int)] ∧ SqL K H sa (ns.map V.int) ∧ ns.length ≤ 63 ∧ first ≤ 10 ∧ most ≤ 100 ∧
  ∀ p H2 (xs : List Int), H p = none → Ex H H2 → H2 p = some (.lst (xs.map V.int)) → (∀ x ∈ xs, 0 ≤ x ∧ x < 4096) → xs.length ≤ most → Q (.ref p) H2
/-- what a turn keeps -/
structure NumAt (H H' : Hp) (l : Addr) (most : Nat) (xs : List Int) : Prop where
  ex : Ex H H'
  at_ : H' l = some (.lst (xs.map V.int))
  all : ∀ x ∈ xs, 0 ≤ x ∧ x < 4096
  len : xs.length ≤ most
theorem NumAt.push {H H1 H2 : Hp} {l : Addr} {most : Nat} {xs : List Int} (hn : H l = none) (N : NumAt H H1 l most xs) (e : Ex H1 H2) {x : Int} (h0 : 0 ≤ x) (h1 : x < 4096) (hl : xs.length < most) : NumAt H (upd H2 l (.lst (xs.map V.int ++ [V.int x]))) l most (xs ++ [x]) :=
  ⟨Ex.mut (N.ex.trans e) hn, by rw [upd_same, List.map_append]; rfl, fun y hy => by
    rcases List.mem_append.mp hy with h | h
    · exact N.all y h
    · rw [List.mem_singleton] at h
      subst h
      exact ⟨h0, h1⟩, by rw [List.length_append]; exact hl⟩
theorem NumAt.mono {H H1 H2 : Hp} {l : Addr} {most : Nat} {xs : List Int} (N : NumAt H H1 l most xs) (e : Ex H1 H2) : NumAt H H2 l most xs := ⟨N.ex.trans e, e _ _ N.at_, N.all, N.len⟩
theorem ok_numbers {f : Addr} {fd : FuncData} (F : Fun K "_law_numbers" "_law_numbers" s_law_numbers f fd) (m_len : mg "len" = none) (m_abs : mg "abs" = none) (m_int : mg "int" = none) (m_range : mg "range" = none) : FnOk P w K mg base CX0 1 f fd ["script", "first", "most"] (spNumbers K) := by
  refine F.ok sc_law_numbers (fun vs H Q E h => ?_) (fun cdv A outer s H vs Q E hr h => ?_)
  · obtain ⟨sa, ns, first, most, rfl, _⟩ := h
    rfl
  · obtain ⟨sa, ns, first, most, rfl, hS, hl, hf, hm, q⟩ := h
    refine ⟨_, (pss_cons (ps_set (i := 3) sc_law_numbers.nd rfl (.inl rfl) (pe_lst pa_nil))
        (pss_cons (ps_for PassesOwn.never rfl (pi_range2 (by rfl) m_range (pa_cons (pv 1) (pa_cons (pe_callB call_len (by rfl) m_len (by decide +kernel) (pa_cons (pv 0) pa_nil)) pa_nil))) (pg_name (i := 4) sc_law_numbers.nd rfl (.inl rfl)) (pss_cons (ps_set (i := 5) sc_law_numbers.nd rfl (.inl rfl) (pe_callB call_abs (by rfl) m_abs (by decide +kernel) (pa_cons (pe_ix ix_list (pv 0) (pv 4) (fun _ _ => rfl)) pa_nil)))
        (pss_one (ps_if (pt_cmpR op_ge (pv 5) pe_int (nomark _)) (pss_one (ps_for PassesOwn.never rfl (pi_range1 (by rfl) m_range (pa_cons pe_int pa_nil)) (pg_name (i := 6) sc_law_numbers.nd rfl (.inl rfl)) (pss_one (ps_if (PW.pt (pw_and (pt_cmpR op_gt (pv 5) pe_int (nomark _)) (pw_and1 (pt_cmpR op_lt (pe_callB call_len (by rfl) m_len (by decide +kernel) (pa_cons (pv 3) pa_nil)) (pv 2) (nomark _))))) (pss_cons (ps_expr (pe_bm PySem.F.plainAttrs_list PySem.F.slot_list_append PySem.F.type_list_append mt_append (pv 3) (pa_cons (pe_op op_mod (pe_callTy call_int1 (by rfl) m_int (by decide +kernel) (pa_cons (pv 5) pa_nil)) pe_int) pa_nil)))
        (pss_one (ps_set (i := 5) sc_law_numbers.nd rfl (.inl rfl) (pe_op op_fdiv (pv 5) pe_int)))) pss_nil)))) (pss_one (ps_if (pt_cmpR op_lt (pe_callB call_len (by rfl) m_len (by decide +kernel) (pa_cons (pv 3) pa_nil)) (pv 2) (nomark _)) (pss_cons (ps_set (i := 7) sc_law_numbers.nd rfl (.inl rfl) (pe_op op_mod (pe_callTy call_int1 (by rfl) m_int (by decide +kernel) (pa_cons (pe_op op_add (pe_op op_add (pe_op op_mulX (pv 5) pe_int) (pe_op op_mulX (pv 4) pe_int)) pe_int) pa_nil)) pe_int))
        (pss_cons (ps_set (i := 7) sc_law_numbers.nd rfl (.inl rfl) (pe_op op_mod (pe_callTy call_int1 (by rfl) m_int (by decide +kernel) (pa_cons (pe_op op_add (pe_op op_mulX (pv 7) pe_int) (pe_op op_fdiv (pv 7) pe_int)) pa_nil)) pe_int))
        (pss_one (ps_expr (pe_bm PySem.F.plainAttrs_list PySem.F.slot_list_append PySem.F.type_list_append mt_append (pv 3) (pa_cons (pe_op op_mod (pe_callTy call_int1 (by rfl) m_int (by decide +kernel) (pa_cons (pv 7) pa_nil)) pe_int) pa_nil)))))) pss_nil))))))
        (pss_one (ps_ret (pv 3))))), ?_⟩
    refine q_asgL (el_lst ea_nil (show 0 ≤ 100000 by decide)) fun l H1 nl e1 hl1 => ?_
    refine st_is (σ' := [_, _, _, _, _, _, _, _]) rfl ?_
    have nl0 : H l = none := nl
    have lenS : ∀ {H' : Hp}, Ex H H' → EvA (tCons (tVar 0) tNil) [some (.ref sa), some (.int (first : Int)), some (.int (most : Int)), some (.ref l), none, none, none, none] H' [.ref sa] := fun _ => ea_cons (ev_var rfl) ea_nil
    refine q_forR2 (lo := (first : Int)) (n := (ns.length : Int)) (ea_cons (ev_var rfl) (ea_cons (ev_is (ev_cb (ea_cons (ev_var rfl) ea_nil) (rc_lenL (ex_l e1 hS))) (congrArg V.int (by rw [List.length_map]))) ea_nil)) ⟨by omega, by omega, by omega, by omega⟩
      (fun i σ' H' => ∃ (x4 x5 x6 x7 : Option V) (xs : List Int), σ' = [some (.ref sa), some (.int (first : Int)), some (.int (most : Int)), some (.ref l), x4, x5, x6, x7] ∧ NumAt H H' l most xs) (fun H2 e2 => ⟨_, _, _, _, [], rfl, ⟨e1.trans e2, e2 _ _ hl1, fun x hx => by simp at hx, Nat.zero_le _⟩⟩) (fun i σ' H' hi pp => ?_) (fun σ' H' pp => ?_)
    · obtain ⟨x4, x5, x6, x7, xs, rfl, N⟩ := pp
      refine st_is (σ' := [_, _, _, _, _, _, _, _]) rfl ?_
      -- cell
      have hix : first + i < ns.length := by omega
      have hat : atI (ns.map V.int) ((first : Int) + (i : Int)) = some (.int (ns.getD (first + i) 0)) := by
        have := atI_cell (ns := ns) (j := first + i) hix
        rw [show ((first + i : Nat) : Int) = (first : Int) + (i : Int) by omega] at this
        exact this
      refine q_asg (ev_cb (ea_cons (ev_op (ev_var rfl) (ev_var rfl) (rv_ixL (ex_l N.ex hS) hat)) ea_nil) rc_abs) fun H2 e2 => ?_
      refine st_is (σ' := [_, _, _, _, _, _, _, _]) rfl ?_
      replace N := N.mono e2
      obtain ⟨c, hc⟩ : ∃ c : Nat, (ns.getD (first + i) 0).natAbs = c := ⟨_, rfl⟩
      rw [hc]
      refine s_if (b := decide ((1000000000000000000 : Int) ≤ (c : Int))) (et_test (ev_op (ev_var rfl) ev_c rv_I0)) (fun hb H3 e3 => ?_) (fun hb H3 e3 => ?_)
      · replace N := N.mono e3
        refine s_forR1 (n := 60) (ea_cons ev_c ea_nil) ⟨by decide, by decide⟩ (fun j σ' H' => ∃ (c5 : Nat) (x6 x7 : Option V) (xs : List Int), σ' = [some (.ref sa), some (.int (first : Int)), some (.int (most : Int)), some (.ref l), some (.int ((first : Int) + (i : Int))), some (.int (c5 : Int)), x6, x7] ∧ NumAt H H' l most xs) (fun H4 e4 => ⟨c, _, _, xs, rfl, N.mono e4⟩) (fun j σ' H' hj pp => ?_) (fun σ' H' pp => ?_)
        · obtain ⟨c5, x6, x7, xs, rfl, N⟩ := pp
          refine st_is (σ' := [_, _, _, _, _, _, _, _]) rfl ?_
          refine s_when (b := decide ((0 : Int) < (c5 : Int)) && decide ((xs.length : Int) < (most : Int))) (et_and (et_test (ev_op (ev_var rfl) ev_c rv_I0)) fun _ => (et_test (ev_op (ev_is (ev_cb (ea_cons (ev_var rfl) ea_nil) (rc_lenL (sq_of N.at_))) (congrArg V.int (by rw [List.length_map]))) (ev_var rfl) rv_I0))) (fun hb H4 e4 => ?_) (fun hb H4 e4 => ⟨c5, _, _, xs, rfl, N.mono e4⟩)
          rw [Bool.and_eq_true] at hb
          have hlt := of_decide_eq_true hb.2
          replace N := N.mono e4
          refine q_app N.at_ (ev_var rfl) (v := .int ((c5 : Int) % 4096)) (ev_op (ev_cb (ea_cons (ev_var rfl) ea_nil) rc_intI) ev_c (rv_I (by decide))) (by rw [List.length_map]; omega) fun H5 e5 => ?_
          have N2 := N.push nl0 e5 (x := (c5 : Int) % 4096) (by omega) (by omega) (by omega)
          refine s_asg (ev_is (ev_op (ev_var rfl) ev_c (rv_I ⟨by decide, by decide⟩)) (congrArg V.int (show (c5 : Int) / 4096 = ((c5 / 4096 : Nat) : Int) by omega))) fun H6 e6 => ⟨c5 / 4096, _, _, _, rfl, N2.mono e6⟩
        · obtain ⟨c5, x6, x7, xs, rfl, N⟩ := pp
          exact ⟨_, _, _, _, xs, rfl, N⟩
      · replace N := N.mono e3
        have hcb : c < 1000000000000000000 := by
          have := of_decide_eq_false hb
          omega
        refine s_when (b := decide ((xs.length : Int) < (most : Int))) (et_test (ev_op (ev_is (ev_cb (ea_cons (ev_var rfl) ea_nil) (rc_lenL (sq_of N.at_))) (congrArg V.int (by rw [List.length_map]))) (ev_var rfl) rv_I0)) (fun hb H4 e4 => ?_) (fun hb H4 e4 => ⟨_, _, _, _, xs, rfl, N.mono e4⟩)
        have hlt := of_decide_eq_true hb
        replace N := N.mono e4
        obtain ⟨m1, hm1, hm2⟩ : ∃ m : Int, ((c : Int) * 48271 + ((first : Int) + (i : Int)) * 69621 + 12345) % 2147483647 = m ∧ (0 ≤ m ∧ m < 2147483647) := ⟨_, rfl, by omega, by omega⟩
        refine q_asg (ev_is (ev_op (ev_cb (ea_cons (ev_op (ev_op (ev_op (ev_var rfl) ev_c (rv_I (mulx_ok (a := 60) (b := 16) (by omega) (by decide) (by decide)))) (ev_op (ev_var rfl) ev_c (rv_I (mulx_ok (a := 10) (b := 17) (by omega) (by decide) (by decide)))) rv_I0) ev_c rv_I0) ea_nil) rc_intI) ev_c (rv_I (by decide))) (congrArg V.int hm1)) fun H5 e5 => ?_
        refine st_is (σ' := [_, _, _, _, _, _, _, _]) rfl ?_
        obtain ⟨m2, hm3, hm4⟩ : ∃ m : Int, (m1 * 69621 + m1 / 1009) % 1000003 = m ∧ (0 ≤ m ∧ m < 1000003) := ⟨_, rfl, by omega, by omega⟩
        refine q_asg (ev_is (ev_op (ev_cb (ea_cons (ev_op (ev_op (ev_var rfl) ev_c (rv_I (mulx_ok (a := 31) (b := 17) (by omega) (by decide) (by decide)))) (ev_op (ev_var rfl) ev_c (rv_I ⟨by decide, by decide⟩)) rv_I0) ea_nil) rc_intI) ev_c (rv_I (by decide))) (congrArg V.int hm3)) fun H6 e6 => ?_
        refine st_is (σ' := [_, _, _, _, _, _, _, _]) rfl ?_
        replace N := N.mono (e5.trans e6)
        refine s_app N.at_ (ev_var rfl) (v := .int (m2 % 4096)) (ev_op (ev_cb (ea_cons (ev_var rfl) ea_nil) rc_intI) ev_c (rv_I (by decide))) (by rw [List.length_map]; omega) fun H7 e7 => ⟨_, _, _, _, _, rfl, N.push nl0 e7 (x := m2 % 4096) (by omega) (by omega) (by omega)⟩
    · obtain ⟨x4, x5, x6, x7, xs, rfl, N⟩ := pp
      refine s_ret (ev_var rfl) fun H3 e3 => q l H3 xs nl0 (N.ex.trans e3) (e3 _ _ N.at_) N.all N.len
def spFormula (K : PySem.W.Frag) : Sp := fun vs H Q _ => ∃ (na : Addr) (nums : List Int) (most : Nat), vs = [.ref na, .int (most : Int)] ∧ SqL K H na (nums.map V.int) ∧ (∀ x ∈ nums, 0 ≤ x ∧ Bd 2000000 x) ∧ nums ≠ [] ∧ 1 ≤ most ∧ most ≤ 100 ∧
  ∀ ss, OkForm ss → ss ≠ [] → ss.length ≤ most → RetF ss H Q
theorem item4 {x y : Int} {i : Int} (h : 0 ≤ i ∧ i < 4) (hx : 1 ≤ x) (hy : 1 ≤ y) : ∃ c : Int, atI [V.int 1, V.int 1, V.int x, V.int y] i = some (.int c) ∧ 1 ≤ c := by
  have h3 : i = 0 ∨ i = 1 ∨ i = 2 ∨ i = 3 := by omega
  rcases h3 with rfl | rfl | rfl | rfl
  · exact ⟨1, rfl, by decide⟩
  · exact ⟨1, rfl, by decide⟩
  · exact ⟨x, rfl, hx⟩
  · exact ⟨y, rfl, hy⟩
theorem itemW2 {i : Int} (h : 0 ≤ i ∧ i < 4) : ∃ x : Str, atI [V.str "add", V.str "subtract", V.str "times", V.str "divide"] i = some (.str x) ∧ x ∈ W2 := by
  have h3 : i = 0 ∨ i = 1 ∨ i = 2 ∨ i = 3 := by omega
  rcases h3 with rfl | rfl | rfl | rfl
  · exact ⟨_, rfl, by simp [W2]⟩
  · exact ⟨_, rfl, by simp [W2]⟩
  · exact ⟨_, rfl, by simp [W2]⟩
  · exact ⟨_, rfl, by simp [W2]⟩
theorem itemW1 {i : Int} (h : 0 ≤ i ∧ i < 8) : ∃ x : Str, atI [V.str "root", V.str "sine", V.str "cosine", V.str "exp", V.str "log", V.str "arctan", V.str "arcsine", V.str "arccosine"] i = some (.str x) ∧ x ∈ W1 := by
  have h3 : i = 0 ∨ i = 1 ∨ i = 2 ∨ i = 3 ∨ i = 4 ∨ i = 5 ∨ i = 6 ∨ i = 7 := by omega
  rcases h3 with rfl | rfl | rfl | rfl | rfl | rfl | rfl | rfl
  · exact ⟨_, rfl, by simp [W1]⟩
  · exact ⟨_, rfl, by simp [W1]⟩
  · exact ⟨_, rfl, by simp [W1]⟩
  · exact ⟨_, rfl, by simp [W1]⟩
  · exact ⟨_, rfl, by simp [W1]⟩
  · exact ⟨_, rfl, by simp [W1]⟩
  · exact ⟨_, rfl, by simp [W1]⟩
  · exact ⟨_, rfl, by simp [W1]⟩
theorem ok_formula {f : Addr} {fd : FuncData} (F : Fun K "_law_formula" "_law_formula" s_law_formula f fd) (m_len : mg "len" = none) (m_max : mg "max" = none) (m_int : mg "int" = none) (m_tuple : mg "tuple" = none) : FnOk P w K mg base CX0 1 f fd ["numbers", "most"] (spFormula K) := by
  refine F.ok sc_law_formula (fun vs H Q E h => ?_) (fun cdv A outer s H vs Q E hr h => ?_)
  · obtain ⟨na, nums, most, rfl, _⟩ := h
    rfl
  · obtain ⟨na, nums, most, rfl, hN, hall, hne, hm1, hm2, q⟩ := h
    refine ⟨_, (pss_cons (ps_set (i := 2) sc_law_formula.nd rfl (.inl rfl) (pe_lst pa_nil))
        (pss_cons (ps_for PassesOwn.never rfl (pi_list (pe_slice sl_list (pv 0) po_none (po_some (pv 1)))) (pg_name (i := 3) sc_law_formula.nd rfl (.inl rfl)) (pss_cons (ps_set (i := 4) sc_law_formula.nd rfl (.inl rfl) (pe_op op_mod (pe_callTy call_int1 (by rfl) m_int (by decide +kernel) (pa_cons (pv 3) pa_nil)) pe_int))
        (pss_cons (ps_set (i := 5) sc_law_formula.nd rfl (.inl rfl) (pe_op op_fdiv (pe_callTy call_int1 (by rfl) m_int (by decide +kernel) (pa_cons (pv 3) pa_nil)) pe_int))
        (pss_cons (ps_set (i := 6) sc_law_formula.nd rfl (.inl rfl) (pe_op op_mod (pe_callTy call_int1 (by rfl) m_int (by decide +kernel) (pa_cons (pv 5) pa_nil)) (pe_callB (call_max2 rfl) (by rfl) m_max (by decide +kernel) (pa_cons pe_int (pa_cons (pe_callB call_len (by rfl) m_len (by decide +kernel) (pa_cons (pv 2) pa_nil)) pa_nil)))))
        (pss_cons (ps_set (i := 7) sc_law_formula.nd rfl (.inl rfl) (pe_op op_mod (pe_op op_fdiv (pv 5) pe_int) (pe_callB (call_max2 rfl) (by rfl) m_max (by decide +kernel) (pa_cons pe_int (pa_cons (pe_callB call_len (by rfl) m_len (by decide +kernel) (pa_cons (pv 2) pa_nil)) pa_nil)))))
        (pss_one (ps_if (PW.pt (pw_or (pt_cmpR op_lt (pv 4) pe_int (nomark _)) (pw_or1 (pt_cmpR (op_eqD hr.units) (pv 2) (pe_lst pa_nil) (nomark _))))) (pss_one (ps_expr (pe_bm PySem.F.plainAttrs_list PySem.F.slot_list_append PySem.F.type_list_append mt_append (pv 2) (pa_cons (pe_tup (pa_cons pe_str (pa_cons (pe_op op_sub (pe_op op_mod (pe_op op_mulX (pe_callTy call_int1 (by rfl) m_int (by decide +kernel) (pa_cons (pv 5) pa_nil)) pe_int) pe_int) pe_int) (pa_cons (pe_ix ix_list (pe_lst (pa_cons pe_int (pa_cons pe_int (pa_cons (pe_op op_add pe_int (pe_op op_mod (pe_op op_fdiv (pv 5) pe_int) pe_int)) (pa_cons (pe_op op_add pe_int (pe_op op_mod (pe_op op_mulX (pe_callTy call_int1 (by rfl) m_int (by decide +kernel) (pa_cons (pv 5) pa_nil)) pe_int) pe_int)) pa_nil))))) (pe_op op_mod (pe_op op_fdiv (pv 5) pe_int) pe_int) (fun _ _ => rfl)) pa_nil)))) pa_nil)))) (pss_one (ps_if (pt_cmpR op_eq (pv 4) pe_int (nomark _)) (pss_one (ps_expr (pe_bm PySem.F.plainAttrs_list PySem.F.slot_list_append PySem.F.type_list_append mt_append (pv 2) (pa_cons (pe_tup (pa_cons pe_str pa_nil)) pa_nil)))) (pss_one (ps_if (pt_cmpR op_lt (pv 4) pe_int (nomark _)) (pss_one (ps_expr (pe_bm PySem.F.plainAttrs_list PySem.F.slot_list_append PySem.F.type_list_append mt_append (pv 2) (pa_cons (pe_tup (pa_cons (pe_ix ix_list (pe_lst (pa_cons pe_str (pa_cons pe_str (pa_cons pe_str (pa_cons pe_str pa_nil))))) (pe_op op_sub (pv 4) pe_int) (fun _ _ => rfl)) (pa_cons (pv 6) (pa_cons (pv 7) pa_nil)))) pa_nil)))) (pss_one (ps_expr (pe_bm PySem.F.plainAttrs_list PySem.F.slot_list_append PySem.F.type_list_append mt_append (pv 2) (pa_cons (pe_tup (pa_cons (pe_ix ix_list (pe_lst (pa_cons pe_str (pa_cons pe_str (pa_cons pe_str (pa_cons pe_str (pa_cons pe_str (pa_cons pe_str (pa_cons pe_str (pa_cons pe_str pa_nil))))))))) (pe_op op_sub (pv 4) pe_int) (fun _ _ => rfl)) (pa_cons (pv 6) pa_nil))) pa_nil)))))))))))))))
        (pss_one (ps_ret (pe_callTy call_tuple_of (by rfl) m_tuple (by decide +kernel) (pa_cons (pv 2) pa_nil)))))), ?_⟩
    refine q_asgL (el_lst ea_nil (show 0 ≤ 100000 by decide)) fun l H1 nl e1 hl1 => ?_
    refine st_is (σ' := [_, _, _, _, _, _, _, _]) rfl ?_
    have hsl := el_sl (σ := [some (.ref na), some (.int (most : Int)), some (.ref l), none, none, none, none, none]) (te := tVar 0) (th := tPart (tVar 1)) (ev_var rfl) eo_none (eo_some (ev_var rfl)) (ex_l e1 hN)
    rw [cut_take, ← List.map_take] at hsl
    have hall2 : ∀ x ∈ nums.take most, 0 ≤ x ∧ Bd 2000000 x := fun x hx => hall x (List.mem_of_mem_take hx)
    have hlen : (nums.take most).length ≤ most := by
      rw [List.length_take]
      omega
    have hlen2 : 0 < (nums.take most).length := by
      have := List.length_pos_iff.mpr hne
      rw [List.length_take]
      omega
    generalize nums.take most = nus at *
    refine q_forNLn hsl (fun p i σ' H' => p ≠ l ∧ H' p = some (.lst (nus.map V.int)) ∧ ∃ (x3 x4 x5 x6 x7 : Option V) (us : List V) (ss : List FStep), σ' = [some (.ref na), some (.int (most : Int)), some (.ref l), x3, x4, x5, x6, x7] ∧ FoAt H H' l us ss ∧ OkForm ss ∧ ss.length = i)
      (fun p H2 hp e2 h2 => ⟨(fun z => by rw [z, hl1] at hp; cases hp), h2, _, _, _, _, _, [], [], rfl, ⟨e1.trans e2, e2 _ _ hl1, .nil⟩, OkForm.nil, rfl⟩) (fun p i σ' H' _ pp => sq_of pp.2.1) (fun p i x σ' H' hx pp => ?_) (fun p σ' H' pp => ?_)
    · obtain ⟨hpl, hp, x3, x4, x5, x6, x7, us, ss, rfl, F, hok, hsl2⟩ := pp
      obtain ⟨n, hn, rfl⟩ : ∃ n, nus[i]? = some n ∧ x = V.int n := by
        rw [List.getElem?_map] at hx
        obtain ⟨n, h1, h2⟩ := Option.map_eq_some_iff.mp hx
        exact ⟨n, h1, h2.symm⟩
      obtain ⟨n0, nb⟩ := hall2 n (List.mem_of_getElem? hn)
      have hi100 : ss.length ≤ 100 := by
        have := (List.getElem?_eq_some_iff.mp hn).1
        omega
      refine st_is (σ' := [_, _, _, _, _, _, _, _]) rfl ?_
      -- kind, a, i, j
      obtain ⟨kd, hkd, hkd2⟩ : ∃ k : Int, n % 16 = k ∧ 0 ≤ k ∧ k < 16 := ⟨_, rfl, by omega, by omega⟩
      refine q_asg (ev_is (ev_op (ev_cb (ea_cons (ev_var rfl) ea_nil) rc_intI) ev_c (rv_I (by decide))) (congrArg V.int hkd)) fun H2 e2 => ?_
      refine st_is (σ' := [_, _, _, _, _, _, _, _]) rfl ?_
      have hab : Bd 2000000 (n / 16) := ab_div (by decide) nb
      obtain ⟨a, ha, ha0⟩ : ∃ a : Int, n / 16 = a ∧ 0 ≤ a := ⟨_, rfl, by omega⟩
      rw [ha] at hab
      refine q_asg (ev_is (ev_op (ev_cb (ea_cons (ev_var rfl) ea_nil) rc_intI) ev_c (rv_I ⟨by decide, by decide⟩)) (congrArg V.int ha)) fun H3 e3 => ?_
      refine st_is (σ' := [_, _, _, _, _, _, _, _]) rfl ?_
      replace F := F.mono (e2.trans e3)
      replace hp := (e2.trans e3) _ _ hp
      obtain ⟨M, hM, hM0, hM1⟩ : ∃ M : Int, max 1 (us.length : Int) = M ∧ 0 < M ∧ (0 < ss.length → M = (ss.length : Int)) := ⟨_, rfl, by omega, by have := F.st.1; omega⟩
      have evM : ∀ {σ : L2.St} {H' : Hp}, σ[2]? = some (some (.ref l)) → Ex H3 H' → Ev (tCB (fun xs H Q => ∃ i j, xs = [.int i, .int j] ∧ Q (.int (if j > i then j else i)) H) (tCons (tC (.int 1)) (tCons (tCB (fun xs H Q => ∃ x n, xs = [x] ∧ LenV K x H n ∧ Q (.int n) H) (tCons (tVar 2) tNil)) tNil))) σ H' (.int M) := fun h e => by
        rw [← hM]
        exact ev_cb (ea_cons ev_c (ea_cons (ev_cb (ea_cons (ev_var h) ea_nil) (rc_lenL (sq_of (e _ _ F.at_)))) ea_nil)) rc_max2
      obtain ⟨ii, hii, hi0, hi1⟩ : ∃ k : Int, a % M = k ∧ 0 ≤ k ∧ k < M := ⟨_, rfl, Int.emod_nonneg _ (by omega), Int.emod_lt_of_pos _ hM0⟩
      refine q_asg (ev_is (ev_op (ev_cb (ea_cons (ev_var rfl) ea_nil) rc_intI) (evM rfl (Ex.refl _)) (rv_I hM0)) (congrArg V.int hii)) fun H4 e4 => ?_
      refine st_is (σ' := [_, _, _, _, _, _, _, _]) rfl ?_
      obtain ⟨jj, hjj, hj0, hj1⟩ : ∃ k : Int, a / 16 % M = k ∧ 0 ≤ k ∧ k < M := ⟨_, rfl, Int.emod_nonneg _ (by omega), Int.emod_lt_of_pos _ hM0⟩
      refine q_asg (ev_is (ev_op (ev_op (ev_var rfl) ev_c (rv_I ⟨by decide, by decide⟩)) (evM rfl e4) (rv_I hM0)) (congrArg V.int hjj)) fun H5 e5 => ?_
      refine st_is (σ' := [_, _, _, _, _, _, _, _]) rfl ?_
      replace F := F.mono (e4.trans e5)
      replace hp := (e4.trans e5) _ _ hp
      clear evM
      have hus : us.length < 100000 := by
        have := F.st.1
        omega
      -- what each way ends in
      have done : ∀ {q : Addr} {H6 : Hp} {st : FStep}, Ex H5 H6 → H6 q = some (.tup (stV st)) → OkStep ss.length st → (p ≠ l ∧ (upd H6 l (.lst (us ++ [.ref q]))) p = some (.lst (nus.map V.int)) ∧ ∃ (x3 x4 x5 x6 x7 : Option V) (us' : List V) (ss' : List FStep), [some (V.ref na), some (.int (most : Int)), some (.ref l), some (.int n), some (.int kd), some (.int a), some (.int ii), some (.int jj)] = [some (.ref na), some (.int (most : Int)), some (.ref l), x3, x4, x5, x6, x7] ∧ FoAt H (upd H6 l (.lst (us ++ [.ref q]))) l us' ss' ∧ OkForm ss' ∧ ss'.length = i + 1) := fun {q H6 st} e6 h6 hs => by
        refine ⟨hpl, ?_, _, _, _, _, _, _, _, rfl, F.push nl e6 ⟨q, rfl, h6⟩, hok.snoc hs, ?_⟩
        · rw [upd_ne hpl]
          exact e6 _ _ hp
        · rw [List.length_append, hsl2]
          rfl
      by_cases hA : kd < 3 ∨ ss = []
      · refine s_if (b := true) (et_is (et_or (et_test (ev_op (ev_var rfl) ev_c rv_I0)) fun _ => (et_test (ev_isEmpty F.at_ F.st hok.oks (ev_var rfl)))) (by
          rcases hA with h | h
          · rw [decide_eq_true h]
            rfl
          · rw [h]
            exact Bool.or_true _)) (fun _ H6 e6 => ?_) (fun hb => nomatch hb)
        obtain ⟨c, hc, hc1⟩ := item4 (x := 1 + a / 512 % 60) (y := 1 + a * 7 % 60) (i := a / 4 % 4) ⟨by omega, by omega⟩ (by omega) (by omega)
        replace F := F.mono e6
        refine s_appU (ys := stV (("number" : Str), [a * 41 % 401 - 200, c])) F.at_ (ev_var rfl) (eu_tup (ea_cons ev_c (ea_cons (ev_op (ev_op (ev_op (ev_cb (ea_cons (ev_var rfl) ea_nil) rc_intI) ev_c (rv_I (mulx_ok (b := 6) hab (by decide) (by decide)))) ev_c (rv_I (by decide))) ev_c rv_I0)
          (ea_cons (ev_opL1 (el_lst (ea_cons ev_c (ea_cons ev_c (ea_cons (ev_op ev_c (ev_op (ev_op (ev_var rfl) ev_c (rv_I ⟨by decide, by decide⟩)) ev_c (rv_I (by decide))) rv_I0) (ea_cons (ev_op ev_c (ev_op (ev_op (ev_cb (ea_cons (ev_var rfl) ea_nil) rc_intI) ev_c (rv_I (mulx_ok (b := 6) hab (by decide) (by decide)))) ev_c (rv_I (by decide))) rv_I0) ea_nil)))) (show 4 ≤ 100000 by decide))
            (fun _ _ => ev_op (ev_op (ev_var rfl) ev_c (rv_I ⟨by decide, by decide⟩)) ev_c (rv_I (by decide))) (fun _ _ hp _ => rv_ixL (sq_of hp) hc)) ea_nil))) (show 3 ≤ 100000 by decide)) hus fun q H7 _ e7 h7 => ?_
        exact done (e6.trans e7) h7 (.inl ⟨_, c, rfl, hc1⟩)
      · have hA1 : ¬ kd < 3 := fun z => hA (.inl z)
        have hA2 : ss ≠ [] := fun z => hA (.inr z)
        have hss : 0 < ss.length := List.length_pos_iff.mpr hA2
        have hMs := hM1 hss
        refine s_if (b := false) (et_is (et_or (et_test (ev_op (ev_var rfl) ev_c rv_I0)) fun _ => (et_test (ev_isEmpty F.at_ F.st hok.oks (ev_var rfl)))) (by
          rw [decide_eq_false hA1, Bool.false_or]
          cases ss with
          | nil => exact absurd rfl hA2
          | cons x r => rfl)) (fun hb => nomatch hb) (fun _ H6 e6 => ?_)
        replace F := F.mono e6
        by_cases hB : kd = 3
        · refine s_if (b := true) (et_is (et_test (ev_op (ev_var rfl) ev_c (rv_eq rfl))) (decide_eq_true (congrArg V.int hB))) (fun _ H7 e7 => ?_) (fun hb => nomatch hb)
          replace F := F.mono e7
          refine s_appU (ys := stV (("pi" : Str), [])) F.at_ (ev_var rfl) (eu_tup (ea_cons ev_c ea_nil) (show 1 ≤ 100000 by decide)) hus fun q H8 _ e8 h8 => ?_
          exact done ((e6.trans e7).trans e8) h8 (.inr (.inl rfl))
        · refine s_if (b := false) (et_is (et_test (ev_op (ev_var rfl) ev_c (rv_eq rfl))) (decide_eq_false fun z => hB (V.int.inj z))) (fun hb => nomatch hb) (fun _ H7 e7 => ?_)
          replace F := F.mono e7
          by_cases hC : kd < 8
          · refine s_if (b := true) (et_is (et_test (ev_op (ev_var rfl) ev_c rv_I0)) (decide_eq_true hC)) (fun _ H8 e8 => ?_) (fun hb => nomatch hb)
            replace F := F.mono e8
            obtain ⟨x, hx2, hxw⟩ := itemW2 (i := kd - 4) ⟨by omega, by omega⟩
            refine s_appU (ys := stV (x, [ii, jj])) F.at_ (ev_var rfl) (eu_tup (ea_cons (ev_opL1 (el_lst (ea_cons ev_c (ea_cons ev_c (ea_cons ev_c (ea_cons ev_c ea_nil)))) (show 4 ≤ 100000 by decide)) (fun _ _ => ev_op (ev_var rfl) ev_c rv_I0) (fun _ _ hp _ => rv_ixL (sq_of hp) hx2)) (ea_cons (ev_var rfl) (ea_cons (ev_var rfl) ea_nil))) (show 3 ≤ 100000 by decide)) hus fun q H9 _ e9 h9 => ?_
            exact done (((e6.trans e7).trans e8).trans e9) h9 (.inr (.inr (.inl ⟨x, ii, jj, hxw, rfl, ⟨hi0, by omega⟩, ⟨hj0, by omega⟩⟩)))
          · refine s_if (b := false) (et_is (et_test (ev_op (ev_var rfl) ev_c rv_I0)) (decide_eq_false hC)) (fun hb => nomatch hb) (fun _ H8 e8 => ?_)
            replace F := F.mono e8
            obtain ⟨x, hx2, hxw⟩ := itemW1 (i := kd - 8) ⟨by omega, by omega⟩
            refine s_appU (ys := stV (x, [ii])) F.at_ (ev_var rfl) (eu_tup (ea_cons (ev_opL1 (el_lst (ea_cons ev_c (ea_cons ev_c (ea_cons ev_c (ea_cons ev_c (ea_cons ev_c (ea_cons ev_c (ea_cons ev_c (ea_cons ev_c ea_nil)))))))) (show 8 ≤ 100000 by decide)) (fun _ _ => ev_op (ev_var rfl) ev_c rv_I0) (fun _ _ hp _ => rv_ixL (sq_of hp) hx2)) (ea_cons (ev_var rfl) ea_nil)) (show 2 ≤ 100000 by decide)) hus fun q H9 _ e9 h9 => ?_
            exact done (((e6.trans e7).trans e8).trans e9) h9 (.inr (.inr (.inr ⟨x, ii, hxw, rfl, ⟨hi0, by omega⟩⟩)))
    · obtain ⟨hpl, hp, x3, x4, x5, x6, x7, us, ss, rfl, F, hok, hsl2⟩ := pp
      rw [List.length_map] at hsl2
      have hne2 : ss ≠ [] := fun z => by
        rw [z] at hsl2
        simp at hsl2
        omega
      refine ⟨_, rfl, l, us, rfl, .inl ⟨sq_of F.at_, fun r hr2 => ?_⟩⟩
      exact q ss hok hne2 (by omega) r _ us (fresh_back F.ex hr2) (F.ex.trans (Ex.new hr2)) upd_same (F.st.mono (Ex.new hr2))
def spJoined : Sp := fun vs H Q _ => ∃ (x : Str) (a b : Addr) (us ws : List V) (ff gg : List FStep), vs = [.str x, .ref a, .ref b] ∧ H a = some (.tup us) ∧ StepsAt H us ff ∧ H b = some (.tup ws) ∧ StepsAt H ws gg ∧ OkForm gg ∧ ff ≠ [] ∧ gg ≠ [] ∧ ff.length ≤ 1000 ∧ gg.length ≤ 1000 ∧ RetF (joinS x ff gg) H Q
theorem ok_joined {f : Addr} {fd : FuncData} (F : Fun K "_law_joined" "_law_joined" s_law_joined f fd) (m_len : mg "len" = none) (m_list : mg "list" = none) (m_tuple : mg "tuple" = none) : FnOk P w K mg base CX0 1 f fd ["word", "f", "g"] spJoined := by
  refine F.ok sc_law_joined (fun vs H Q E h => ?_) (fun cdv A outer s H vs Q E hr h => ?_)
  · obtain ⟨x, a, b, us, ws, ff, gg, rfl, _⟩ := h
    rfl
  · obtain ⟨x, a, b, us, ws, ff, gg, rfl, ha, hf, hb, hg, hok, hfn, hgn, hl1, hl2, q⟩ := h
    refine ⟨_, (pss_cons (ps_set (i := 3) sc_law_joined.nd rfl (.inl rfl) (pe_callTy call_list_of (by rfl) m_list (by decide +kernel) (pa_cons (pv 1) pa_nil)))
        (pss_cons (ps_for PassesOwn.never rfl (pi_tup (pv 2)) (pg_name (i := 4) sc_law_joined.nd rfl (.inl rfl)) (pss_one (ps_if (pt_cmpR op_in_seq (pe_ix ix_tup (pv 4) pe_int (fun _ _ => rfl)) (pe_tup (pa_cons pe_str (pa_cons pe_str pa_nil))) (by rfl)) (pss_one (ps_expr (pe_bm PySem.F.plainAttrs_list PySem.F.slot_list_append PySem.F.type_list_append mt_append (pv 3) (pa_cons (pv 4) pa_nil)))) (pss_one (ps_if (pt_cmpR op_eq (pe_callB call_len (by rfl) m_len (by decide +kernel) (pa_cons (pv 4) pa_nil)) pe_int (nomark _)) (pss_one (ps_expr (pe_bm PySem.F.plainAttrs_list PySem.F.slot_list_append PySem.F.type_list_append mt_append (pv 3) (pa_cons (pe_tup (pa_cons (pe_ix ix_tup (pv 4) pe_int (fun _ _ => rfl)) (pa_cons (pe_op op_add (pe_ix ix_tup (pv 4) pe_int (fun _ _ => rfl)) (pe_callB call_len (by rfl) m_len (by decide +kernel) (pa_cons (pv 1) pa_nil))) pa_nil))) pa_nil)))) (pss_one (ps_expr (pe_bm PySem.F.plainAttrs_list PySem.F.slot_list_append PySem.F.type_list_append mt_append (pv 3) (pa_cons (pe_tup (pa_cons (pe_ix ix_tup (pv 4) pe_int (fun _ _ => rfl)) (pa_cons (pe_op op_add (pe_ix ix_tup (pv 4) pe_int (fun _ _ => rfl)) (pe_callB call_len (by rfl) m_len (by decide +kernel) (pa_cons (pv 1) pa_nil))) (pa_cons (pe_op op_add (pe_ix ix_tup (pv 4) pe_int (fun _ _ => rfl)) (pe_callB call_len (by rfl) m_len (by decide +kernel) (pa_cons (pv 1) pa_nil))) pa_nil)))) pa_nil)))))))))
        (pss_one (ps_ret (pe_callTy call_tuple_of (by rfl) m_tuple (by decide +kernel) (pa_cons (pe_op op_cat (pv 3) (pe_lst (pa_cons (pe_tup (pa_cons (pv 0) (pa_cons (pe_op op_sub (pe_callB call_len (by rfl) m_len (by decide +kernel) (pa_cons (pv 1) pa_nil)) pe_int) (pa_cons (pe_op op_sub (pe_callB call_len (by rfl) m_len (by decide +kernel) (pa_cons (pv 3) pa_nil)) pe_int) pa_nil)))) pa_nil))) pa_nil)))))), ?_⟩
    refine q_asgL (xs := us) (el_cb (ea_cons (ev_var rfl) ea_nil) (fun H1 e1 Q1 q1 => ⟨a, us, rfl, .inr (st_of (e1 _ _ ha)), fun l hl => q1 l _ hl (Ex.new hl) upd_same⟩)) fun l H1 nl e1 hl3 => ?_
    refine st_is (σ' := [_, _, _, _, _]) rfl ?_
    refine q_forT (ev_var rfl) (st_of (e1 _ _ hb)) (fun i σ' H' => ∃ (x4 : Option V) (zs : List V), σ' = [some (.str x), some (.ref a), some (.ref b), some (.ref l), x4] ∧ FoAt H H' l zs (ff ++ (gg.take i).map (shiftS ff.length))) (fun H2 e2 => ⟨_, us, rfl, e1.trans e2, e2 _ _ hl3, by
        rw [List.take_zero, List.map_nil, List.append_nil]
        exact hf.mono (e1.trans e2)⟩) (fun i σ' H' _ pp => ?_) (fun i y σ' H' hy pp => ?_) (fun σ' H' pp => ?_)
    · obtain ⟨x4, zs, _, F⟩ := pp
      exact st_of (F.ex _ _ hb)
    · obtain ⟨x4, zs, rfl, F⟩ := pp
      obtain ⟨st, hst, sat⟩ := hg.get hy
      have hig : i < gg.length := (List.getElem?_eq_some_iff.mp hst).1
      have hzl : zs.length < 100000 := by
        rw [F.st.1, List.length_append, List.length_map, List.length_take]
        omega
      have hnext : ff ++ (gg.take (i + 1)).map (shiftS ff.length) = (ff ++ (gg.take i).map (shiftS ff.length)) ++ [shiftS ff.length st] := by
        rw [List.take_add_one, hst, List.map_append, List.append_assoc]
        rfl
      have hOk := hok i st hst
      obtain ⟨p, rfl, hp0⟩ := sat
      have hp := F.ex _ _ hp0
      show tIfS _ _ _ _ [some (.str x), some (.ref a), some (.ref b), some (.ref l), some (.ref p)] H'
      have t_step : SqT K H' p (stV st) := st_of hp
      have done : ∀ {v : V} {H2 H3 : Hp}, Ex H' H2 → Ex H2 H3 → StepAt H3 v (shiftS ff.length st) → ∃ (x4 : Option V) (zs' : List V), [some (V.str x), some (.ref a), some (.ref b), some (.ref l), some (.ref p)] = [some (.str x), some (.ref a), some (.ref b), some (.ref l), x4] ∧ FoAt H (upd H3 l (.lst (zs ++ [v]))) l zs' (ff ++ (gg.take (i + 1)).map (shiftS ff.length)) := fun {v H2 H3} e2 e3 hv => by
        rw [hnext]
        exact ⟨_, _, rfl, F.push nl (e2.trans e3) hv⟩
      have evIn : ∀ (wd : Str), st.1 = wd → EvT (tTest (tOp (rIn K false) (tOp (rIxT K) (tVar 4) (tC (.int 0))) (tTup (tCons (tC (.str "number")) (tCons (tC (.str "pi")) tNil))))) [some (.str x), some (.ref a), some (.ref b), some (.ref l), some (.ref p)] H' (inV (.str wd) [.str "number", .str "pi"]) := fun wd hwd => by
        rw [← hwd]
        exact et_test (ev_inU (ev_op (ev_var rfl) ev_c (rv_ixT t_step (at0 st))) (eu_tup (ea_cons ev_c (ea_cons ev_c ea_nil)) (show 2 ≤ 100000 by decide)) rfl rfl)
      have stay : shiftS ff.length st = st → ∀ H2, Ex H' H2 → StepAt H2 (.ref p) (shiftS ff.length st) := fun h H2 e2 => by
        rw [h]
        exact ⟨p, rfl, e2 _ _ hp⟩
      rcases hOk with ⟨p0, q0, rfl, h⟩ | rfl | ⟨wd, ii, jj, hx, rfl, h1, h2⟩ | ⟨wd, ii, hx, rfl, h1⟩
      · refine s_if (b := true) (et_is (evIn "number" rfl) (by decide +kernel)) (fun _ H2 e2 => ?_) (fun hb => nomatch hb)
        refine s_app (v := .ref p) (e2 _ _ F.at_) (ev_var rfl) (ev_var rfl) hzl fun H3 e3 => done e2 e3 (stay (by unfold shiftS; rw [if_pos rfl]) _ (e2.trans e3))
      · refine s_if (b := true) (et_is (evIn "pi" rfl) (by decide +kernel)) (fun _ H2 e2 => ?_) (fun hb => nomatch hb)
        refine s_app (v := .ref p) (e2 _ _ F.at_) (ev_var rfl) (ev_var rfl) hzl fun H3 e3 => done e2 e3 (stay (by unfold shiftS; rw [if_neg pi_nn]; rfl) _ (e2.trans e3))
      · have hno : inV (.str wd) [.str "number", .str "pi"] = false := w2_all (P := fun wd => inV (.str wd) [.str "number", .str "pi"] = false) ⟨by decide +kernel, by decide +kernel, by decide +kernel, by decide +kernel⟩ wd hx
        refine s_if (b := false) (et_is (evIn wd rfl) hno) (fun hb => nomatch hb) (fun _ H2 e2 => ?_)
        refine s_if (b := false) (et_is (et_test (ev_op (ev_cb (ea_cons (ev_var rfl) ea_nil) (rc_lenT (K := K) (ex_t e2 t_step))) ev_c (rv_eq rfl))) (show decide (V.int 3 = V.int 2) = false by decide)) (fun hb => nomatch hb) (fun _ H3 e3 => ?_)
        have t3 : SqT K H3 p [.str wd, .int ii, .int jj] := ex_t (e2.trans e3) t_step
        have a3 := (e2.trans e3) _ _ (F.ex _ _ ha)
        have ml : ∀ {H4 : Hp}, Ex H3 H4 → Ev (tCB (fun xs H Q => ∃ x n, xs = [x] ∧ LenV K x H n ∧ Q (.int n) H) (tCons (tVar 1) tNil)) [some (.str x), some (.ref a), some (.ref b), some (.ref l), some (.ref p)] H4 (.int (ff.length : Int)) := fun e => by
          rw [← hf.1]
          exact ev_cb (ea_cons (ev_var rfl) ea_nil) (rc_lenT (K := K) (st_of (e _ _ a3)))
        refine s_appU (ys := [.str wd, .int (ii + (ff.length : Int)), .int (jj + (ff.length : Int))]) ((e2.trans e3) _ _ F.at_) (ev_var rfl) (eu_tup (ea_cons (ev_op (ev_var rfl) ev_c (rv_ixT t3 rfl)) (ea_cons (ev_op (ev_op (ev_var rfl) ev_c (rv_ixT t3 rfl)) (ml (Ex.refl _)) rv_I0) (ea_cons (ev_op (ev_op (ev_var rfl) ev_c (rv_ixT t3 rfl)) (ml (Ex.refl _)) rv_I0) ea_nil))) (show 3 ≤ 100000 by decide)) hzl fun q2 H4 _ e4 h4 => ?_
        refine done (e2.trans e3) e4 ⟨q2, rfl, h4.trans ?_⟩
        unfold shiftS stV
        rw [if_neg (w2_nn wd hx), Int.add_comm ii, Int.add_comm jj]
        rfl
      · have hno : inV (.str wd) [.str "number", .str "pi"] = false := w1_all (P := fun wd => inV (.str wd) [.str "number", .str "pi"] = false) ⟨by decide +kernel, by decide +kernel, by decide +kernel, by decide +kernel, by decide +kernel, by decide +kernel, by decide +kernel, by decide +kernel⟩ wd hx
        refine s_if (b := false) (et_is (evIn wd rfl) hno) (fun hb => nomatch hb) (fun _ H2 e2 => ?_)
        refine s_if (b := true) (et_is (et_test (ev_op (ev_cb (ea_cons (ev_var rfl) ea_nil) (rc_lenT (K := K) (ex_t e2 t_step))) ev_c (rv_eq rfl))) (show decide (V.int 2 = V.int 2) = true by decide)) (fun _ H3 e3 => ?_) (fun hb => nomatch hb)
        have t3 : SqT K H3 p [.str wd, .int ii] := ex_t (e2.trans e3) t_step
        have a3 := (e2.trans e3) _ _ (F.ex _ _ ha)
        have ml : ∀ {H4 : Hp}, Ex H3 H4 → Ev (tCB (fun xs H Q => ∃ x n, xs = [x] ∧ LenV K x H n ∧ Q (.int n) H) (tCons (tVar 1) tNil)) [some (.str x), some (.ref a), some (.ref b), some (.ref l), some (.ref p)] H4 (.int (ff.length : Int)) := fun e => by
          rw [← hf.1]
          exact ev_cb (ea_cons (ev_var rfl) ea_nil) (rc_lenT (K := K) (st_of (e _ _ a3)))
        refine s_appU (ys := [.str wd, .int (ii + (ff.length : Int))]) ((e2.trans e3) _ _ F.at_) (ev_var rfl) (eu_tup (ea_cons (ev_op (ev_var rfl) ev_c (rv_ixT t3 rfl)) (ea_cons (ev_op (ev_op (ev_var rfl) ev_c (rv_ixT t3 rfl)) (ml (Ex.refl _)) rv_I0) ea_nil)) (show 2 ≤ 100000 by decide)) hzl fun q2 H4 _ e4 h4 => ?_
        refine done (e2.trans e3) e4 ⟨q2, rfl, h4.trans ?_⟩
        unfold shiftS stV
        rw [if_neg (w1_nn wd hx), Int.add_comm ii]
        rfl
    · obtain ⟨x4, zs, rfl, F⟩ := pp
      have ew : ws.length = gg.length := hg.1
      rw [ew, List.take_length] at F
      have hz := F.st.1
      rw [List.length_append, List.length_map] at hz
      -- tuple(steps + [(word, ..)])
      refine ⟨_, rfl, _, rfl, _, rfl, .ref a, us.length, rfl, .inr ⟨_, st_of (F.ex _ _ ha), rfl⟩, _, _, rfl, rfl, _, rfl, .ref l, zs.length, rfl, .inl ⟨_, sq_of F.at_, rfl⟩, _, _, rfl, rfl, (by show 3 ≤ sizeLine; decide), fun c hc => ⟨(by show 1 ≤ sizeLine; decide), fun d hd => ?_⟩⟩
      have e3 : Ex H' (upd H' c (.tup [.str x, .int ((us.length : Int) - 1), .int ((zs.length : Int) - 1)])) := Ex.new hc
      have e4 := e3.trans (Ex.new (o := .lst [V.ref c]) hd)
      refine ⟨l, d, zs, [.ref c], rfl, rfl, e4 _ _ F.at_, upd_same, ?_, fun r hr2 => ?_⟩
      · exact sz_of (by simp; omega)
      have e5 := e4.trans (Ex.new (o := .lst (zs ++ [V.ref c])) hr2)
      refine ⟨r, zs ++ [.ref c], rfl, .inl ⟨sq_of upd_same, fun t ht => ?_⟩⟩
      have e6 := e5.trans (Ex.new (o := .tup (zs ++ [V.ref c])) ht)
      refine q t _ (zs ++ [.ref c]) (fresh_back (F.ex.trans e5) ht) (F.ex.trans e6) upd_same ?_
      unfold joinS
      refine (F.st.mono e6).snoc ⟨c, rfl, ?_⟩
      have h7 : (upd H' c (.tup [.str x, .int ((us.length : Int) - 1), .int ((zs.length : Int) - 1)])) c = some (.tup (stV (x, [(ff.length : Int) - 1, (ff.length : Int) + (gg.length : Int) - 1]))) := by
        rw [upd_same, hf.1, hz, Int.natCast_add]
        rfl
      exact ex_app (Ex.new ht) (ex_app (Ex.new hr2) (ex_app (Ex.new hd) h7))

def spLaw (K : PySem.W.Frag) : Sp := fun vs H Q _ => ∃ (a : Addr) (ns : List Int), vs = [.ref a] ∧ SqL K H a (ns.map V.int) ∧ ns.length ≤ 63 ∧ ∀ H', Q (.bl true) H'
/-- the operand [c] behind a list of drawn numbers, and the count behind it -/
theorem run_form {ta tn te2 : TE} {E : XK} {σ : L2.St} {H : Hp} {sa : Addr} {ns : List Int} {m : Nat} {c : Int} {k : Nat} {Q : VK} (hS : SqL K H sa (ns.map V.int)) (hl : ns.length ≤ 63) (hm : m ≤ 10) (hσ : σ[0]? = some (some (.ref sa))) (hc : 0 ≤ c ∧ c < 4096) (hk : 1 ≤ k ∧ k ≤ 100)
    (h2 : Ev te2 σ H (.int (k : Int))) (q : ∀ fa H1 us ff, Ex H H1 → H1 fa = some (.tup us) → StepsAt H1 us ff → OkForm ff → ff ≠ [] → ff.length ≤ k → Q (.ref fa) H1) :
    tCall (spFormula K) [] E (tCons (tOp rCat (tCall (spNumbers K) [] E (tCons (tVar 0) (tCons (tC (.int (m : Int))) (tCons (tC (.int 8)) tNil)))) (tLst (tCons (tC (.int c)) tNil))) (tCons te2 tNil)) σ H Q := by
  refine ⟨_, hσ, sa, ns, m, 8, rfl, hS, hl, hm, by decide, fun p H2 xs np e2 hp hall hlen => ?_⟩
  refine ⟨by show 1 ≤ sizeLine; decide, fun b hb => ⟨p, b, xs.map V.int, [.int c], rfl, rfl, ex_app (Ex.new hb) hp, upd_same, ?_, fun d hd => ?_⟩⟩
  · rw [List.length_map]
    exact sz_of (by simp; omega)
  · have e3 : Ex H (upd (upd H2 b (.lst [.int c])) d (.lst (xs.map V.int ++ [.int c]))) := (e2.trans (Ex.new hb)).trans (Ex.new hd)
    refine (h2.mono e3) _ (Ex.refl _) _ fun H4 e4 => ?_
    refine ⟨d, xs ++ [c], k, rfl, ?_, fun x hx => ?_, by simp, hk.1, hk.2, fun ss ok ne hz a H5 us na e5 h5 s5 => q a H5 us ss ((e3.trans e4).trans e5) h5 s5 ok ne hz⟩
    · rw [List.map_append]
      exact sq_of (e4 _ _ upd_same)
    · have h6 : 0 ≤ x ∧ x < 4096 := by
        rcases List.mem_append.mp hx with h | h
        · exact hall x h
        · rw [List.mem_singleton] at h
          subst h
          exact hc
      exact ⟨h6.1, ab_mono (a := 12) (show x.natAbs < 2 ^ 12 by omega) (by decide)⟩
theorem ok_law {f f0 f1 f2 f3 f4 f5 f6 f7 f8 f9 f10 f11 f12 f13 f14 f15 d : Addr} {fd fd0 fd1 fd2 fd3 fd4 fd5 fd6 fd7 fd8 fd9 fd10 fd11 fd12 fd13 fd14 fd15 : FuncData} (F : Fun K "law" "law" s_law f fd)
    (F_is_integer : Fun K "is_integer" "is_integer" s_is_integer f0 fd0) (F_are_integers : Fun K "are_integers" "are_integers" s_are_integers f1 fd1) (F_is_formula : Fun K "is_formula" "is_formula" s_is_formula f2 fd2) (F_number : Fun K "number" "number" s_number f3 fd3) (F_pi_formula : Fun K "pi_formula" "pi_formula" s_pi_formula f4 fd4)
    (F_plus : Fun K "plus" "plus" s_plus f5 fd5) (F_minus : Fun K "minus" "minus" s_minus f6 fd6) (F_times : Fun K "times" "times" s_times f7 fd7) (F_over : Fun K "over" "over" s_over f8 fd8) (F_applied : Fun K "applied" "applied" s_applied f9 fd9) (F_is_step : Fun K "is_step" "is_step" s_is_step f10 fd10) (F_moved : Fun K "moved" "moved" s_moved f11 fd11) (F_combined : Fun K "combined" "combined" s_combined f12 fd12)
    (F_law_cell : Fun K "_law_cell" "_law_cell" s_law_cell f13 fd13) (F_law_numbers : Fun K "_law_numbers" "_law_numbers" s_law_numbers f14 fd14) (F_law_formula : Fun K "_law_formula" "_law_formula" s_law_formula f15 fd15) {f16 : Addr} {fd16 : FuncData} (F_law_joined : Fun K "_law_joined" "_law_joined" s_law_joined f16 fd16)
    (b_is_integer : Binds K fd0 ["value"] []) (b_are_integers : Binds K fd1 ["values"] []) (b_is_formula : Binds K fd2 ["value"] []) (b_number : Binds K fd3 ["p", "q"] []) (b_pi_formula : Binds K fd4 [] []) (b_plus : Binds K fd5 ["f", "g"] []) (b_minus : Binds K fd6 ["f", "g"] []) (b_times : Binds K fd7 ["f", "g"] []) (b_over : Binds K fd8 ["f", "g"] [])
    (b_applied : Binds K fd9 ["word", "f"] []) (b_is_step : Binds K fd10 ["step", "place"] []) (b_moved : Binds K fd11 ["step", "places"] []) (b_combined : Binds K fd12 ["word", "f", "g"] []) (b_law_cell : Binds K fd13 ["script", "k"] []) (b_law_numbers : Binds K fd14 ["script", "first", "most"] []) (b_law_formula : Binds K fd15 ["numbers", "most"] []) (b_law_joined : Binds K fd16 ["word", "f", "g"] [])
    (g_is_integer : mg "is_integer" = some (.ref f0)) (g_are_integers : mg "are_integers" = some (.ref f1)) (g_is_formula : mg "is_formula" = some (.ref f2)) (g_number : mg "number" = some (.ref f3)) (g_pi_formula : mg "pi_formula" = some (.ref f4)) (g_plus : mg "plus" = some (.ref f5)) (g_minus : mg "minus" = some (.ref f6)) (g_times : mg "times" = some (.ref f7)) (g_over : mg "over" = some (.ref f8))
    (g_applied : mg "applied" = some (.ref f9)) (g_is_step : mg "is_step" = some (.ref f10)) (g_moved : mg "moved" = some (.ref f11)) (g_combined : mg "combined" = some (.ref f12)) (g_law_cell : mg "_law_cell" = some (.ref f13)) (g_law_numbers : mg "_law_numbers" = some (.ref f14)) (g_law_formula : mg "_law_formula" = some (.ref f15)) (g_law_joined : mg "_law_joined" = some (.ref f16))
    (g_COUNTS : mg "COUNTS" = some (.ref d)) (C : Counts K w d)
    (m_len : mg "len" = none) (m_abs : mg "abs" = none) (m_int : mg "int" = none) (m_bool : mg "bool" = none) (m_str : mg "str" = none) (m_isinstance : mg "isinstance" = none) (m_tuple : mg "tuple" = none) (m_list : mg "list" = none) (m_range : mg "range" = none) (m_max : mg "max" = none) (m_enumerate : mg "enumerate" = none) : FnOk P w K mg base CX0 5 f fd ["script"] (spLaw K) := by
  have G_is_step : FnOk P w K mg base CX0 3 f10 fd10 ["step", "place"] spIsStep := ok_isstep F_is_step F_is_integer b_is_integer g_is_integer F_are_integers b_are_integers g_are_integers g_COUNTS C m_isinstance m_int m_bool m_len m_tuple m_str
  have G_is_formula : FnOk P w K mg base CX0 4 f2 fd2 ["value"] spIsForm := ok_isform F_is_formula F_is_step G_is_step b_is_step g_is_step m_isinstance m_len m_tuple m_enumerate
  have G_number : FnOk P w K mg base CX0 1 f3 fd3 ["p", "q"] spNumber := ok_number F_number
  have G_pi_formula : FnOk P w K mg base CX0 1 f4 fd4 [] spPi := ok_piform F_pi_formula
  have G_combined : FnOk P w K mg base CX0 2 f12 fd12 ["word", "f", "g"] spCombined := ok_combined F_combined F_moved b_moved g_moved m_len m_range m_list
  have G_plus : FnOk P w K mg base CX0 3 f5 fd5 ["f", "g"] (spPlus "add") := ok_plus F_plus F_combined G_combined b_combined g_combined
  have G_minus : FnOk P w K mg base CX0 3 f6 fd6 ["f", "g"] (spPlus "subtract") := ok_minus F_minus F_combined G_combined b_combined g_combined
  have G_times : FnOk P w K mg base CX0 3 f7 fd7 ["f", "g"] (spPlus "times") := ok_times F_times F_combined G_combined b_combined g_combined
  have G_over : FnOk P w K mg base CX0 3 f8 fd8 ["f", "g"] (spPlus "divide") := ok_over F_over F_combined G_combined b_combined g_combined
  have G_applied : FnOk P w K mg base CX0 1 f9 fd9 ["word", "f"] spApplied := ok_applied F_applied m_len
  have G_law_cell : FnOk P w K mg base CX0 1 f13 fd13 ["script", "k"] (spCell K) := ok_cell F_law_cell m_len
  have G_law_numbers : FnOk P w K mg base CX0 1 f14 fd14 ["script", "first", "most"] (spNumbers K) := ok_numbers F_law_numbers m_len m_abs m_int m_range
  have G_law_formula : FnOk P w K mg base CX0 1 f15 fd15 ["numbers", "most"] (spFormula K) := ok_formula F_law_formula m_len m_max m_int m_tuple
  have G_law_joined : FnOk P w K mg base CX0 1 f16 fd16 ["word", "f", "g"] spJoined := ok_joined F_law_joined m_len m_list m_tuple
  refine F.ok sc_law (fun vs H Q E h => ?_) (fun cdv A outer s H vs Q E hr h => ?_)
  · obtain ⟨a, ns, rfl, _⟩ := h
    rfl
  · obtain ⟨sa, ns, rfl, hS, hl, fin⟩ := h
    refine ⟨_, (pss_cons (ps_set (i := 1) sc_law.nd rfl (.inl rfl) (pe_callB call_abs (by rfl) m_abs (by decide +kernel) (pa_cons (pe_call G_law_cell (hr.mono (by decide)) (by rfl) g_law_cell F_law_cell.kp b_law_cell .nil pass0 (pa_cons (pv 0) (pa_cons pe_int pa_nil))) pa_nil)))
        (pss_cons (ps_set (i := 2) sc_law.nd rfl (.inl rfl) (pe_call G_law_formula (hr.mono (by decide)) (by rfl) g_law_formula F_law_formula.kp b_law_formula .nil pass0 (pa_cons (pe_op op_cat (pe_call G_law_numbers (hr.mono (by decide)) (by rfl) g_law_numbers F_law_numbers.kp b_law_numbers .nil pass0 (pa_cons (pv 0) (pa_cons pe_int (pa_cons pe_int pa_nil)))) (pe_lst (pa_cons pe_int pa_nil))) (pa_cons (pe_op op_add pe_int (pe_op op_mod (pe_callTy call_int1 (by rfl) m_int (by decide +kernel) (pa_cons (pv 1) pa_nil)) pe_int)) pa_nil))))
        (pss_cons (ps_set (i := 3) sc_law.nd rfl (.inl rfl) (pe_call G_law_formula (hr.mono (by decide)) (by rfl) g_law_formula F_law_formula.kp b_law_formula .nil pass0 (pa_cons (pe_op op_cat (pe_call G_law_numbers (hr.mono (by decide)) (by rfl) g_law_numbers F_law_numbers.kp b_law_numbers .nil pass0 (pa_cons (pv 0) (pa_cons pe_int (pa_cons pe_int pa_nil)))) (pe_lst (pa_cons pe_int pa_nil))) (pa_cons (pe_op op_add pe_int (pe_op op_mod (pe_op op_fdiv (pv 1) pe_int) pe_int)) pa_nil))))
        (pss_cons (ps_if (PW.pt (pw_or (pt_cmpR (op_neD hr.units) (pe_call G_plus (hr.mono (by decide)) (by rfl) g_plus F_plus.kp b_plus .nil pass0 (pa_cons (pv 2) (pa_cons (pv 3) pa_nil))) (pe_call G_law_joined (hr.mono (by decide)) (by rfl) g_law_joined F_law_joined.kp b_law_joined .nil pass0 (pa_cons pe_str (pa_cons (pv 2) (pa_cons (pv 3) pa_nil)))) (nomark _)) (pw_or1 (pt_cmpR (op_neD hr.units) (pe_call G_minus (hr.mono (by decide)) (by rfl) g_minus F_minus.kp b_minus .nil pass0 (pa_cons (pv 2) (pa_cons (pv 3) pa_nil))) (pe_call G_law_joined (hr.mono (by decide)) (by rfl) g_law_joined F_law_joined.kp b_law_joined .nil pass0 (pa_cons pe_str (pa_cons (pv 2) (pa_cons (pv 3) pa_nil)))) (nomark _))))) (pss_one (ps_ret pe_bl)) pss_nil)
        (pss_cons (ps_if (PW.pt (pw_or (pt_cmpR (op_neD hr.units) (pe_call G_times (hr.mono (by decide)) (by rfl) g_times F_times.kp b_times .nil pass0 (pa_cons (pv 2) (pa_cons (pv 3) pa_nil))) (pe_call G_law_joined (hr.mono (by decide)) (by rfl) g_law_joined F_law_joined.kp b_law_joined .nil pass0 (pa_cons pe_str (pa_cons (pv 2) (pa_cons (pv 3) pa_nil)))) (nomark _)) (pw_or1 (pt_cmpR (op_neD hr.units) (pe_call G_over (hr.mono (by decide)) (by rfl) g_over F_over.kp b_over .nil pass0 (pa_cons (pv 2) (pa_cons (pv 3) pa_nil))) (pe_call G_law_joined (hr.mono (by decide)) (by rfl) g_law_joined F_law_joined.kp b_law_joined .nil pass0 (pa_cons pe_str (pa_cons (pv 2) (pa_cons (pv 3) pa_nil)))) (nomark _))))) (pss_one (ps_ret pe_bl)) pss_nil)
        (pss_cons (ps_for PassesOwn.never rfl (pi_tup (pe_tup (pa_cons pe_str (pa_cons pe_str (pa_cons pe_str (pa_cons pe_str (pa_cons pe_str (pa_cons pe_str (pa_cons pe_str (pa_cons pe_str pa_nil)))))))))) (pg_name (i := 4) sc_law.nd rfl (.inl rfl)) (pss_one (ps_if (PW.pt (pw_or (pt_cmpR (op_neD hr.units) (pe_call G_applied (hr.mono (by decide)) (by rfl) g_applied F_applied.kp b_applied .nil pass0 (pa_cons (pv 4) (pa_cons (pv 2) pa_nil))) (pe_op op_catT (pv 2) (pe_tup (pa_cons (pe_tup (pa_cons (pv 4) (pa_cons (pe_op op_sub (pe_callB call_len (by rfl) m_len (by decide +kernel) (pa_cons (pv 2) pa_nil)) pe_int) pa_nil))) pa_nil))) (nomark _)) (pw_or1 (pt_cmpR op_notBl (pe_call G_is_formula (hr.mono (by decide)) (by rfl) g_is_formula F_is_formula.kp b_is_formula .nil pass0 (pa_cons (pe_call G_applied (hr.mono (by decide)) (by rfl) g_applied F_applied.kp b_applied .nil pass0 (pa_cons (pv 4) (pa_cons (pv 2) pa_nil))) pa_nil)) pe_bl (nomark _))))) (pss_one (ps_ret pe_bl)) pss_nil)))
        (pss_cons (ps_set (i := 5) sc_law.nd rfl (.inl rfl) (pe_op op_sub (pe_op op_mod (pe_op op_fdiv (pv 1) pe_int) pe_int) pe_int))
        (pss_cons (ps_set (i := 6) sc_law.nd rfl (.inl rfl) (pe_op op_add pe_int (pe_op op_mod (pe_op op_fdiv (pv 1) pe_int) pe_int)))
        (pss_cons (ps_if (PW.pt (pw_or (pt_cmpR (op_neD hr.units) (pe_call G_number (hr.mono (by decide)) (by rfl) g_number F_number.kp b_number .nil pass0 (pa_cons (pv 5) (pa_cons (pv 6) pa_nil))) (pe_tup (pa_cons (pe_tup (pa_cons pe_str (pa_cons (pv 5) (pa_cons (pv 6) pa_nil)))) pa_nil)) (nomark _)) (pw_or1 (pt_cmpR (op_neD hr.units) (pe_call0 G_pi_formula (hr.mono (by decide)) (by rfl) g_pi_formula F_pi_formula.kp b_pi_formula .nil pass0) (pe_tup (pa_cons (pe_tup (pa_cons pe_str pa_nil)) pa_nil)) (nomark _))))) (pss_one (ps_ret pe_bl)) pss_nil)
        (pss_one (ps_ret (pe_and (pe_cmpR op_isBl (pe_call G_is_formula (hr.mono (by decide)) (by rfl) g_is_formula F_is_formula.kp b_is_formula .nil pass0 (pa_cons (pe_call G_plus (hr.mono (by decide)) (by rfl) g_plus F_plus.kp b_plus .nil pass0 (pa_cons (pv 2) (pa_cons (pv 3) pa_nil))) pa_nil)) pe_bl (nomark _)) (pe_one (pe_callB call_isi (by rfl) m_isinstance (by decide +kernel) (pa_cons (pe_call G_over (hr.mono (by decide)) (by rfl) g_over F_over.kp b_over .nil pass0 (pa_cons (pv 2) (pa_cons (pv 3) pa_nil))) (pa_cons (pe_bltn (by rfl) m_tuple (by decide +kernel) (show RelV (.ty "tuple") _ from rfl)) pa_nil)))))))))))))))), ?_⟩
    -- digit
    refine q_asg (ev_cb (ea_cons (ev_call (z := .int (cellOf ns 0)) (ea_cons (ev_var rfl) (ea_cons ev_c ea_nil)) (fun H1 e1 Q1 q1 E1 => ⟨sa, ns, 0, rfl, ex_l e1 hS, q1 H1 (Ex.refl H1)⟩)) ea_nil) rc_abs) fun H1 e1 => ?_
    refine st_is (σ' := [_, _, _, _, _, _, _]) rfl ?_
    replace hS := ex_l e1 hS
    obtain ⟨dg, hdg⟩ : ∃ n : Nat, (cellOf ns 0).natAbs = n := ⟨_, rfl⟩
    rw [hdg]
    -- f
    refine q_asgP (fun v H2 => ∃ fa us ff, v = .ref fa ∧ H2 fa = some (.tup us) ∧ StepsAt H2 us ff ∧ OkForm ff ∧ ff ≠ [] ∧ ff.length ≤ 1000) (fun Q1 k1 => ?_) fun v H2 e2 hP => ?_
    · obtain ⟨k, hk, hk2⟩ : ∃ k : Nat, (1 : Int) + (dg : Int) % 8 = (k : Int) ∧ 1 ≤ k ∧ k ≤ 100 := ⟨1 + dg % 8, by omega, by omega, by omega⟩
      refine run_form (m := 1) (ta := tVar 0) (tn := tVar 0) hS hl (by decide) rfl (by decide) hk2 (ev_is (ev_op ev_c (ev_op (ev_cb (ea_cons (ev_var rfl) ea_nil) rc_intI) ev_c (rv_I (by decide))) rv_I0) (congrArg V.int hk)) fun fa H3 us ff e3 h3 s3 ok3 ne3 l3 => ?_
      exact k1 _ _ e3 ⟨fa, us, ff, rfl, h3, s3, ok3, ne3, by omega⟩
    obtain ⟨fa, us, ff, rfl, hf, hfs, hfo, hfn, hfl⟩ := hP
    refine st_is (σ' := [_, _, _, _, _, _, _]) rfl ?_
    replace hS := ex_l e2 hS
    -- g
    refine q_asgP (fun v H2 => ∃ fa us ff, v = .ref fa ∧ H2 fa = some (.tup us) ∧ StepsAt H2 us ff ∧ OkForm ff ∧ ff ≠ [] ∧ ff.length ≤ 1000) (fun Q1 k1 => ?_) fun v H3 e3 hP => ?_
    · obtain ⟨k, hk, hk2⟩ : ∃ k : Nat, (1 : Int) + (dg : Int) / 8 % 8 = (k : Int) ∧ 1 ≤ k ∧ k ≤ 100 := ⟨1 + dg / 8 % 8, by omega, by omega, by omega⟩
      refine run_form (m := 2) (ta := tVar 0) (tn := tVar 0) hS hl (by decide) rfl (by decide) hk2 (ev_is (ev_op ev_c (ev_op (ev_op (ev_var rfl) ev_c (rv_I ⟨by decide, by decide⟩)) ev_c (rv_I (by decide))) rv_I0) (congrArg V.int hk)) fun fa H3 us ff e3 h3 s3 ok3 ne3 l3 => ?_
      exact k1 _ _ e3 ⟨fa, us, ff, rfl, h3, s3, ok3, ne3, by omega⟩
    obtain ⟨ga, ws, gg, rfl, hg, hgs, hgo, hgn, hgl⟩ := hP
    refine st_is (σ' := [_, _, _, _, _, _, _]) rfl ?_
    replace hf := e3 _ _ hf
    replace hfs := hfs.mono e3
    -- the two sides
    have sP : ∀ {wd : Str} {H' : Hp}, Ex H3 H' → SpF (spPlus wd) [.ref fa, .ref ga] H' (joinS wd ff gg) := fun {wd H'} e H4 e4 Q4 q4 E4 => ⟨fa, ga, us, ws, ff, gg, rfl, (e.trans e4) _ _ hf, hfs.mono (e.trans e4), (e.trans e4) _ _ hg, hgs.mono (e.trans e4), hgo, hfn, hgn, hfl, hgl, q4⟩
    have sJ : ∀ {wd : Str} {H' : Hp}, Ex H3 H' → SpF spJoined [.str wd, .ref fa, .ref ga] H' (joinS wd ff gg) := fun {wd H'} e H4 e4 Q4 q4 E4 => ⟨wd, fa, ga, us, ws, ff, gg, rfl, (e.trans e4) _ _ hf, hfs.mono (e.trans e4), (e.trans e4) _ _ hg, hgs.mono (e.trans e4), hgo, hfn, hgn, hfl, hgl, q4⟩
    have oJ : ∀ wd ∈ W2, ∀ s ∈ joinS wd ff gg, OkS s := fun wd hw => (OkForm.join hfo hgo hw hfn hgn).oks
    have both : ∀ {wd : Str} {H' : Hp} {t0 tb : TE} {E1 E2 : XK} {σ : L2.St}, Ex H3 H' → wd ∈ W2 → σ[2]? = some (some (.ref fa)) → σ[3]? = some (some (.ref ga)) → EvT (tTest (tOp (rNeD K) (tCall (spPlus wd) [] E1 (tCons (tVar 2) (tCons (tVar 3) tNil))) (tCall spJoined [] E2 (tCons (tC (.str wd)) (tCons (tVar 2) (tCons (tVar 3) tNil)))))) σ H' false := fun e hw h2 h3 =>
      et_test (ev_neFF (ef_call (ea_cons (ev_var h2) (ea_cons (ev_var h3) ea_nil)) (sP e)) (ef_call (ea_cons ev_c (ea_cons (ev_var h2) (ea_cons (ev_var h3) ea_nil))) (sJ e)) (oJ _ hw))
    refine q_when (b := false) (et_is (et_or (both (t0 := tVar 0) (tb := tVar 0) (Ex.refl _) (by simp [W2]) rfl rfl) fun _ => both (t0 := tVar 0) (tb := tVar 0) (Ex.refl _) (by simp [W2]) rfl rfl) rfl) (fun hb => nomatch hb) fun _ H4 e4 => ?_
    refine q_when (b := false) (et_is (et_or (both (t0 := tVar 0) (tb := tVar 0) e4 (by simp [W2]) rfl rfl) fun _ => both (t0 := tVar 0) (tb := tVar 0) e4 (by simp [W2]) rfl rfl) rfl) (fun hb => nomatch hb) fun _ H5 e5 => ?_
    have e35 := e4.trans e5
    -- the words with one index
    refine q_forNT (xs := W1.map V.str) (eu_tup (ea_cons ev_c (ea_cons ev_c (ea_cons ev_c (ea_cons ev_c (ea_cons ev_c (ea_cons ev_c (ea_cons ev_c (ea_cons ev_c ea_nil)))))))) (show 8 ≤ 100000 by decide)) (fun p i σ' H' => ∃ x4, σ' = [some (.ref sa), some (.int (dg : Int)), some (.ref fa), some (.ref ga), x4, none, none] ∧ Ex H3 H' ∧ H' p = some (.tup (W1.map V.str))) (fun p H6 np e6 h6 => ⟨_, rfl, e35.trans e6, h6⟩) (fun p i σ' H' _ pp => ?_) (fun p i x σ' H' hx pp => ?_) (fun p σ' H' pp => ?_)
    · obtain ⟨x4, _, _, h6⟩ := pp
      exact st_of h6
    · obtain ⟨x4, rfl, e6, h6⟩ := pp
      obtain ⟨wd, hwd, rfl⟩ : ∃ wd, wd ∈ W1 ∧ x = V.str wd := by
        rw [List.getElem?_map] at hx
        obtain ⟨n, h1, h2⟩ := Option.map_eq_some_iff.mp hx
        exact ⟨n, List.mem_of_getElem? h1, h2.symm⟩
      refine st_is (σ' := [some (.ref sa), some (.int (dg : Int)), some (.ref fa), some (.ref ga), some (.str wd), none, none]) rfl ?_
      have hap := OkForm.app1 hfo hwd hfn
      have sA : ∀ {H2 : Hp}, Ex H' H2 → SpF spApplied [.str wd, .ref fa] H2 (ff ++ [(wd, [(ff.length : Int) - 1])]) := fun {H2} e H7 e7 Q7 q7 E7 => ⟨wd, fa, us, ff, rfl, ((e6.trans e).trans e7) _ _ hf, hfs.mono ((e6.trans e).trans e7), hfl, q7⟩
      have lf : (us.length : Int) = (ff.length : Int) := by rw [hfs.1]
      refine s_when (b := false) (et_is (et_or (a := false) (et_test (ev_neFF (ef_call (ea_cons (ev_var rfl) (ea_cons (ev_var rfl) ea_nil)) (sA (Ex.refl _))) (ef_cat1 (s := (wd, [(ff.length : Int) - 1])) (e6 _ _ hf) (hfs.mono e6) hfn hfl (ev_var rfl) (ea_cons (ev_var rfl) (ea_cons (ev_op (ev_is (ev_cb (ea_cons (ev_var rfl) ea_nil) (rc_lenT (K := K) (st_of (e6 _ _ hf)))) (congrArg V.int lf)) ev_c rv_I0) ea_nil)) (by simp)) hap.oks))
        fun _ => (et_is (et_test (ev_op (ev_callF (z := .bl true) (ef_call (ea_cons (ev_var rfl) (ea_cons (ev_var rfl) ea_nil)) (sA (Ex.refl _))) ea_nil (fun p1 H7 u7 e7 h7 s7 H8 e8 Q8 q8 E8 => ⟨p1, u7, _, rfl, e8 _ _ h7, s7.mono e8, hap, by simp, q8⟩)) ev_c rv_notB)) (b := false) rfl)) rfl) (fun hb => nomatch hb) fun _ H7 e7 => ⟨_, rfl, e6.trans e7, e7 _ _ h6⟩
    · obtain ⟨x4, rfl, e6, _⟩ := pp
      -- p, q
      refine q_asg (ev_op (ev_op (ev_op (ev_var rfl) ev_c (rv_I ⟨by decide, by decide⟩)) ev_c (rv_I (by decide))) ev_c rv_I0) fun H7 e7 => ?_
      refine st_is (σ' := [_, _, _, _, _, _, _]) rfl ?_
      generalize (dg : Int) / 64 % 1001 - 500 = pp
      refine q_asg (ev_op ev_c (ev_op (ev_op (ev_var rfl) ev_c (rv_I ⟨by decide, by decide⟩)) ev_c (rv_I (by decide))) rv_I0) fun H8 e8 => ?_
      refine st_is (σ' := [_, _, _, _, _, _, _]) rfl ?_
      generalize (1 : Int) + (dg : Int) / 65536 % 99 = qq
      refine q_when (b := false) (et_is (et_or (a := false) (et_test (ev_neFF (ss := [(("number" : Str), [pp, qq])]) (ef_call (ea_cons (ev_var rfl) (ea_cons (ev_var rfl) ea_nil)) (fun H9 e9 Q9 q9 E9 => ⟨pp, qq, rfl, q9⟩)) (ef_one (s := (("number" : Str), [pp, qq])) (ea_cons ev_c (ea_cons (ev_var rfl) (ea_cons (ev_var rfl) ea_nil))) (by simp)) (fun s hs => by
          rw [List.mem_singleton] at hs
          subst hs
          exact ok_num)))
        fun _ => (et_test (ev_neFF (ss := [(("pi" : Str), [])]) (ef_call ea_nil (fun H9 e9 Q9 q9 E9 => ⟨rfl, q9⟩)) (ef_one (s := (("pi" : Str), [])) (ea_cons ev_c ea_nil) (by simp)) (fun s hs => by
          rw [List.mem_singleton] at hs
          subst hs
          exact ok_pi)))) rfl) (fun hb => nomatch hb) fun _ H9 e9 => ?_
      have e39 := ((e6.trans e7).trans e8).trans e9
      refine s_ret (ev_is (ev_andV (ev_op (ev_callF (z := .bl true) (ef_call (ea_cons (ev_var rfl) (ea_cons (ev_var rfl) ea_nil)) (sP e39)) ea_nil (fun p1 H10 u10 e10 h10 s10 H11 e11 Q11 q11 E11 => ⟨p1, u10, _, rfl, e11 _ _ h10, s10.mono e11, OkForm.join hfo hgo (by simp [W2]) hfn hgn, by simp [joinS], q11⟩)) ev_c rv_isB) fun _ => ev_cbF (ef_call (ea_cons (ev_var rfl) (ea_cons (ev_var rfl) ea_nil)) (sP e39)) (ea_cons ev_c ea_nil) (fun p1 H10 u10 h10 e10 => rc_isiT (K := K) h10)) rfl) fun H10 e10 => fin H10
theorem all_mk {l : PySem.W.OpenLaw} {w : World} {K : PySem.W.Frag} {h : Heap} {mg : Str → Option Value} {fa f0 f1 f2 f3 f4 f5 f6 f7 f8 f9 f10 f11 f12 f13 f14 f15 f16 f17 : Addr} (X : K.In h) (G : h.Ns mainGlobals mg) (hfa : mg "law" = some (.ref fa))
    {od0 an0 od1 an1 od2 an2 od3 an3 od4 an4 od5 an5 od6 an6 od7 an7 od8 an8 od9 an9 od10 an10 od11 an11 od12 an12 od13 an13 od14 an14 od15 an15 od16 an16 od17 an17 : Option Addr} {sl0 sl1 sl2 sl3 sl4 sl5 sl6 sl7 sl8 sl9 sl10 sl11 sl12 sl13 sl14 sl15 sl16 sl17 : Array (Option Value)} {oc0 kV0 dc0 pm0 cd0 ct0 oc1 kV1 dc1 pm1 cd1 ct1 oc2 kV2 dc2 pm2 cd2 ct2 oc3 kV3 dc3 pm3 cd3 ct3 oc4 kV4 dc4 pm4 cd4 ct4 oc5 kV5 dc5 pm5 cd5 ct5 oc6 kV6 dc6 pm6 cd6 ct6 oc7 kV7 dc7 pm7 cd7 ct7 oc8 kV8 dc8 pm8 cd8 ct8 oc9 kV9 dc9 pm9 cd9 ct9 oc10 kV10 dc10 pm10 cd10 ct10 oc11 kV11 dc11 pm11 cd11 ct11 oc12 kV12 dc12 pm12 cd12 ct12 oc13 kV13 dc13 pm13 cd13 ct13 oc14 kV14 dc14 pm14 cd14 ct14 oc15 kV15 dc15 pm15 cd15 ct15 oc16 kV16 dc16 pm16 cd16 ct16 oc17 kV17 dc17 pm17 cd17 ct17 : Value}
    (a0 : PySem.W.nsIn K mainGlobals "is_integer" = some (some (.ref f0))) (l0 : K.lookup f0 = some ⟨oc0, od0, .func (PySem.W.fnOf "is_integer" "is_integer" (defArgs s_is_integer) (defBody s_is_integer) (defScope s_is_integer) .none kV0 dc0 pm0 an0 cd0 ct0), sl0⟩) (c0 : PySem.W.codeIn K cd0 "is_integer" = true) (k0 : PySem.W.keepIn K (.ref f0) = true)
    (a1 : PySem.W.nsIn K mainGlobals "are_integers" = some (some (.ref f1))) (l1 : K.lookup f1 = some ⟨oc1, od1, .func (PySem.W.fnOf "are_integers" "are_integers" (defArgs s_are_integers) (defBody s_are_integers) (defScope s_are_integers) .none kV1 dc1 pm1 an1 cd1 ct1), sl1⟩) (c1 : PySem.W.codeIn K cd1 "are_integers" = true) (k1 : PySem.W.keepIn K (.ref f1) = true)
    (a2 : PySem.W.nsIn K mainGlobals "is_formula" = some (some (.ref f2))) (l2 : K.lookup f2 = some ⟨oc2, od2, .func (PySem.W.fnOf "is_formula" "is_formula" (defArgs s_is_formula) (defBody s_is_formula) (defScope s_is_formula) .none kV2 dc2 pm2 an2 cd2 ct2), sl2⟩) (c2 : PySem.W.codeIn K cd2 "is_formula" = true) (k2 : PySem.W.keepIn K (.ref f2) = true)
    (a3 : PySem.W.nsIn K mainGlobals "number" = some (some (.ref f3))) (l3 : K.lookup f3 = some ⟨oc3, od3, .func (PySem.W.fnOf "number" "number" (defArgs s_number) (defBody s_number) (defScope s_number) .none kV3 dc3 pm3 an3 cd3 ct3), sl3⟩) (c3 : PySem.W.codeIn K cd3 "number" = true) (k3 : PySem.W.keepIn K (.ref f3) = true)
    (a4 : PySem.W.nsIn K mainGlobals "pi_formula" = some (some (.ref f4))) (l4 : K.lookup f4 = some ⟨oc4, od4, .func (PySem.W.fnOf "pi_formula" "pi_formula" (defArgs s_pi_formula) (defBody s_pi_formula) (defScope s_pi_formula) .none kV4 dc4 pm4 an4 cd4 ct4), sl4⟩) (c4 : PySem.W.codeIn K cd4 "pi_formula" = true) (k4 : PySem.W.keepIn K (.ref f4) = true)
    (a5 : PySem.W.nsIn K mainGlobals "plus" = some (some (.ref f5))) (l5 : K.lookup f5 = some ⟨oc5, od5, .func (PySem.W.fnOf "plus" "plus" (defArgs s_plus) (defBody s_plus) (defScope s_plus) .none kV5 dc5 pm5 an5 cd5 ct5), sl5⟩) (c5 : PySem.W.codeIn K cd5 "plus" = true) (k5 : PySem.W.keepIn K (.ref f5) = true)
    (a6 : PySem.W.nsIn K mainGlobals "minus" = some (some (.ref f6))) (l6 : K.lookup f6 = some ⟨oc6, od6, .func (PySem.W.fnOf "minus" "minus" (defArgs s_minus) (defBody s_minus) (defScope s_minus) .none kV6 dc6 pm6 an6 cd6 ct6), sl6⟩) (c6 : PySem.W.codeIn K cd6 "minus" = true) (k6 : PySem.W.keepIn K (.ref f6) = true)
    (a7 : PySem.W.nsIn K mainGlobals "times" = some (some (.ref f7))) (l7 : K.lookup f7 = some ⟨oc7, od7, .func (PySem.W.fnOf "times" "times" (defArgs s_times) (defBody s_times) (defScope s_times) .none kV7 dc7 pm7 an7 cd7 ct7), sl7⟩) (c7 : PySem.W.codeIn K cd7 "times" = true) (k7 : PySem.W.keepIn K (.ref f7) = true)
    (a8 : PySem.W.nsIn K mainGlobals "over" = some (some (.ref f8))) (l8 : K.lookup f8 = some ⟨oc8, od8, .func (PySem.W.fnOf "over" "over" (defArgs s_over) (defBody s_over) (defScope s_over) .none kV8 dc8 pm8 an8 cd8 ct8), sl8⟩) (c8 : PySem.W.codeIn K cd8 "over" = true) (k8 : PySem.W.keepIn K (.ref f8) = true)
    (a9 : PySem.W.nsIn K mainGlobals "applied" = some (some (.ref f9))) (l9 : K.lookup f9 = some ⟨oc9, od9, .func (PySem.W.fnOf "applied" "applied" (defArgs s_applied) (defBody s_applied) (defScope s_applied) .none kV9 dc9 pm9 an9 cd9 ct9), sl9⟩) (c9 : PySem.W.codeIn K cd9 "applied" = true) (k9 : PySem.W.keepIn K (.ref f9) = true)
    (a10 : PySem.W.nsIn K mainGlobals "is_step" = some (some (.ref f10))) (l10 : K.lookup f10 = some ⟨oc10, od10, .func (PySem.W.fnOf "is_step" "is_step" (defArgs s_is_step) (defBody s_is_step) (defScope s_is_step) .none kV10 dc10 pm10 an10 cd10 ct10), sl10⟩) (c10 : PySem.W.codeIn K cd10 "is_step" = true) (k10 : PySem.W.keepIn K (.ref f10) = true)
    (a11 : PySem.W.nsIn K mainGlobals "moved" = some (some (.ref f11))) (l11 : K.lookup f11 = some ⟨oc11, od11, .func (PySem.W.fnOf "moved" "moved" (defArgs s_moved) (defBody s_moved) (defScope s_moved) .none kV11 dc11 pm11 an11 cd11 ct11), sl11⟩) (c11 : PySem.W.codeIn K cd11 "moved" = true) (k11 : PySem.W.keepIn K (.ref f11) = true)
    (a12 : PySem.W.nsIn K mainGlobals "combined" = some (some (.ref f12))) (l12 : K.lookup f12 = some ⟨oc12, od12, .func (PySem.W.fnOf "combined" "combined" (defArgs s_combined) (defBody s_combined) (defScope s_combined) .none kV12 dc12 pm12 an12 cd12 ct12), sl12⟩) (c12 : PySem.W.codeIn K cd12 "combined" = true) (k12 : PySem.W.keepIn K (.ref f12) = true)
    (a13 : PySem.W.nsIn K mainGlobals "_law_cell" = some (some (.ref f13))) (l13 : K.lookup f13 = some ⟨oc13, od13, .func (PySem.W.fnOf "_law_cell" "_law_cell" (defArgs s_law_cell) (defBody s_law_cell) (defScope s_law_cell) .none kV13 dc13 pm13 an13 cd13 ct13), sl13⟩) (c13 : PySem.W.codeIn K cd13 "_law_cell" = true) (k13 : PySem.W.keepIn K (.ref f13) = true)
    (a14 : PySem.W.nsIn K mainGlobals "_law_numbers" = some (some (.ref f14))) (l14 : K.lookup f14 = some ⟨oc14, od14, .func (PySem.W.fnOf "_law_numbers" "_law_numbers" (defArgs s_law_numbers) (defBody s_law_numbers) (defScope s_law_numbers) .none kV14 dc14 pm14 an14 cd14 ct14), sl14⟩) (c14 : PySem.W.codeIn K cd14 "_law_numbers" = true) (k14 : PySem.W.keepIn K (.ref f14) = true)
    (a15 : PySem.W.nsIn K mainGlobals "_law_formula" = some (some (.ref f15))) (l15 : K.lookup f15 = some ⟨oc15, od15, .func (PySem.W.fnOf "_law_formula" "_law_formula" (defArgs s_law_formula) (defBody s_law_formula) (defScope s_law_formula) .none kV15 dc15 pm15 an15 cd15 ct15), sl15⟩) (c15 : PySem.W.codeIn K cd15 "_law_formula" = true) (k15 : PySem.W.keepIn K (.ref f15) = true)
    (a16 : PySem.W.nsIn K mainGlobals "_law_joined" = some (some (.ref f16))) (l16 : K.lookup f16 = some ⟨oc16, od16, .func (PySem.W.fnOf "_law_joined" "_law_joined" (defArgs s_law_joined) (defBody s_law_joined) (defScope s_law_joined) .none kV16 dc16 pm16 an16 cd16 ct16), sl16⟩) (c16 : PySem.W.codeIn K cd16 "_law_joined" = true) (k16 : PySem.W.keepIn K (.ref f16) = true)
    (a17 : PySem.W.nsIn K mainGlobals "law" = some (some (.ref f17))) (l17 : K.lookup f17 = some ⟨oc17, od17, .func (PySem.W.fnOf "law" "law" (defArgs s_law) (defBody s_law) (defScope s_law) .none kV17 dc17 pm17 an17 cd17 ct17), sl17⟩) (c17 : PySem.W.codeIn K cd17 "law" = true) (k17 : PySem.W.keepIn K (.ref f17) = true)
    (z0 : PySem.W.nsIn K mainGlobals "len" = some none)
    (z1 : PySem.W.nsIn K mainGlobals "abs" = some none)
    (z2 : PySem.W.nsIn K mainGlobals "int" = some none)
    (z3 : PySem.W.nsIn K mainGlobals "bool" = some none)
    (z4 : PySem.W.nsIn K mainGlobals "str" = some none)
    (z5 : PySem.W.nsIn K mainGlobals "isinstance" = some none)
    (z6 : PySem.W.nsIn K mainGlobals "tuple" = some none)
    (z7 : PySem.W.nsIn K mainGlobals "list" = some none)
    (z8 : PySem.W.nsIn K mainGlobals "range" = some none)
    (z9 : PySem.W.nsIn K mainGlobals "max" = some none)
    (z10 : PySem.W.nsIn K mainGlobals "enumerate" = some none)
    {dd : Addr} {es : Array DictEntry} {nd : Nat} {t0 t1 t2 t3 t4 t5 t6 t7 t8 t9 t10 t11 t12 t13 : Tok} (zc : PySem.W.nsIn K mainGlobals "COUNTS" = some (some (.ref dd))) (zl : K.lookup dd = some ⟨.type "dict", none, .dict es nd, #[]⟩) (zk : PySem.W.KeysLit w.params es.toList) (zo : (dd == sysModules) = false)
    (y0 : PySem.W.nsIn K dd "number" = some (some (.int 2 t0)))
    (y1 : PySem.W.nsIn K dd "pi" = some (some (.int 0 t1)))
    (y2 : PySem.W.nsIn K dd "add" = some (some (.int 2 t2)))
    (y3 : PySem.W.nsIn K dd "subtract" = some (some (.int 2 t3)))
    (y4 : PySem.W.nsIn K dd "times" = some (some (.int 2 t4)))
    (y5 : PySem.W.nsIn K dd "divide" = some (some (.int 2 t5)))
    (y6 : PySem.W.nsIn K dd "root" = some (some (.int 1 t6)))
    (y7 : PySem.W.nsIn K dd "sine" = some (some (.int 1 t7)))
    (y8 : PySem.W.nsIn K dd "cosine" = some (some (.int 1 t8)))
    (y9 : PySem.W.nsIn K dd "exp" = some (some (.int 1 t9)))
    (y10 : PySem.W.nsIn K dd "log" = some (some (.int 1 t10)))
    (y11 : PySem.W.nsIn K dd "arctan" = some (some (.int 1 t11)))
    (y12 : PySem.W.nsIn K dd "arcsine" = some (some (.int 1 t12)))
    (y13 : PySem.W.nsIn K dd "arccosine" = some (some (.int 1 t13)))
    : ∃ fd : FuncData, (∀ (s : Shared) (v : Value), BindsTo s fd ⟨[v], []⟩ [("script", v)]) ∧ ∀ base : Heap, K.In base → base.Ns mainGlobals mg → FnOk l.prog w K mg base CX0 5 fa fd ["script"] (spLaw K) := by
  have e := hfa.symm.trans (PySem.W.mg_of X G a17)
  cases e
  have F_is_integer := fun_mk (st := s_is_integer) l0 c0 k0
  have F_are_integers := fun_mk (st := s_are_integers) l1 c1 k1
  have F_is_formula := fun_mk (st := s_is_formula) l2 c2 k2
  have F_number := fun_mk (st := s_number) l3 c3 k3
  have F_pi_formula := fun_mk (st := s_pi_formula) l4 c4 k4
  have F_plus := fun_mk (st := s_plus) l5 c5 k5
  have F_minus := fun_mk (st := s_minus) l6 c6 k6
  have F_times := fun_mk (st := s_times) l7 c7 k7
  have F_over := fun_mk (st := s_over) l8 c8 k8
  have F_applied := fun_mk (st := s_applied) l9 c9 k9
  have F_is_step := fun_mk (st := s_is_step) l10 c10 k10
  have F_moved := fun_mk (st := s_moved) l11 c11 k11
  have F_combined := fun_mk (st := s_combined) l12 c12 k12
  have F_law_cell := fun_mk (st := s_law_cell) l13 c13 k13
  have F_law_numbers := fun_mk (st := s_law_numbers) l14 c14 k14
  have F_law_formula := fun_mk (st := s_law_formula) l15 c15 k15
  have F_law_joined := fun_mk (st := s_law_joined) l16 c16 k16
  have F_law := fun_mk (st := s_law) l17 c17 k17
  have b_is_integer := F_is_integer.binds (ps := ["value"]) fun _ _ _ _ _ _ us hl => match us, hl with | [_], _ => rfl
  have g_is_integer := PySem.W.mg_of X G a0
  have b_are_integers := F_are_integers.binds (ps := ["values"]) fun _ _ _ _ _ _ us hl => match us, hl with | [_], _ => rfl
  have g_are_integers := PySem.W.mg_of X G a1
  have b_is_formula := F_is_formula.binds (ps := ["value"]) fun _ _ _ _ _ _ us hl => match us, hl with | [_], _ => rfl
  have g_is_formula := PySem.W.mg_of X G a2
  have b_number := F_number.binds (ps := ["p", "q"]) fun _ _ _ _ _ _ us hl => match us, hl with | [_, _], _ => rfl
  have g_number := PySem.W.mg_of X G a3
  have b_pi_formula := F_pi_formula.binds (ps := []) fun _ _ _ _ _ _ us hl => match us, hl with | [], _ => rfl
  have g_pi_formula := PySem.W.mg_of X G a4
  have b_plus := F_plus.binds (ps := ["f", "g"]) fun _ _ _ _ _ _ us hl => match us, hl with | [_, _], _ => rfl
  have g_plus := PySem.W.mg_of X G a5
  have b_minus := F_minus.binds (ps := ["f", "g"]) fun _ _ _ _ _ _ us hl => match us, hl with | [_, _], _ => rfl
  have g_minus := PySem.W.mg_of X G a6
  have b_times := F_times.binds (ps := ["f", "g"]) fun _ _ _ _ _ _ us hl => match us, hl with | [_, _], _ => rfl
  have g_times := PySem.W.mg_of X G a7
  have b_over := F_over.binds (ps := ["f", "g"]) fun _ _ _ _ _ _ us hl => match us, hl with | [_, _], _ => rfl
  have g_over := PySem.W.mg_of X G a8
  have b_applied := F_applied.binds (ps := ["word", "f"]) fun _ _ _ _ _ _ us hl => match us, hl with | [_, _], _ => rfl
  have g_applied := PySem.W.mg_of X G a9
  have b_is_step := F_is_step.binds (ps := ["step", "place"]) fun _ _ _ _ _ _ us hl => match us, hl with | [_, _], _ => rfl
  have g_is_step := PySem.W.mg_of X G a10
  have b_moved := F_moved.binds (ps := ["step", "places"]) fun _ _ _ _ _ _ us hl => match us, hl with | [_, _], _ => rfl
  have g_moved := PySem.W.mg_of X G a11
  have b_combined := F_combined.binds (ps := ["word", "f", "g"]) fun _ _ _ _ _ _ us hl => match us, hl with | [_, _, _], _ => rfl
  have g_combined := PySem.W.mg_of X G a12
  have b_law_cell := F_law_cell.binds (ps := ["script", "k"]) fun _ _ _ _ _ _ us hl => match us, hl with | [_, _], _ => rfl
  have g_law_cell := PySem.W.mg_of X G a13
  have b_law_numbers := F_law_numbers.binds (ps := ["script", "first", "most"]) fun _ _ _ _ _ _ us hl => match us, hl with | [_, _, _], _ => rfl
  have g_law_numbers := PySem.W.mg_of X G a14
  have b_law_formula := F_law_formula.binds (ps := ["numbers", "most"]) fun _ _ _ _ _ _ us hl => match us, hl with | [_, _], _ => rfl
  have g_law_formula := PySem.W.mg_of X G a15
  have b_law_joined := F_law_joined.binds (ps := ["word", "f", "g"]) fun _ _ _ _ _ _ us hl => match us, hl with | [_, _, _], _ => rfl
  have g_law_joined := PySem.W.mg_of X G a16
  have m_len := PySem.W.mg_none_of X G z0
  have m_abs := PySem.W.mg_none_of X G z1
  have m_int := PySem.W.mg_none_of X G z2
  have m_bool := PySem.W.mg_none_of X G z3
  have m_str := PySem.W.mg_none_of X G z4
  have m_isinstance := PySem.W.mg_none_of X G z5
  have m_tuple := PySem.W.mg_none_of X G z6
  have m_list := PySem.W.mg_none_of X G z7
  have m_range := PySem.W.mg_none_of X G z8
  have m_max := PySem.W.mg_none_of X G z9
  have m_enumerate := PySem.W.mg_none_of X G z10
  have g_COUNTS := PySem.W.mg_of X G zc
  have C : Counts K w dd := ⟨⟨es, nd, zl, zk, zo⟩, ⟨_, y0⟩, ⟨_, y1⟩, w2_all ⟨⟨_, y2⟩, ⟨_, y3⟩, ⟨_, y4⟩, ⟨_, y5⟩⟩, w1_all ⟨⟨_, y6⟩, ⟨_, y7⟩, ⟨_, y8⟩, ⟨_, y9⟩, ⟨_, y10⟩, ⟨_, y11⟩, ⟨_, y12⟩, ⟨_, y13⟩⟩⟩
  exact ⟨PySem.W.fnOf "law" "law" (defArgs s_law) (defBody s_law) (defScope s_law) .none kV17 dc17 pm17 an17 cd17 ct17, fun s v => .of_eq rfl, fun base _ _ => ok_law F_law F_is_integer F_are_integers F_is_formula F_number F_pi_formula F_plus F_minus F_times F_over F_applied F_is_step F_moved F_combined F_law_cell F_law_numbers F_law_formula F_law_joined b_is_integer b_are_integers b_is_formula b_number b_pi_formula b_plus b_minus b_times b_over b_applied b_is_step b_moved b_combined b_law_cell b_law_numbers b_law_formula b_law_joined g_is_integer g_are_integers g_is_formula g_number g_pi_formula g_plus g_minus g_times g_over g_applied g_is_step g_moved g_combined g_law_cell g_law_numbers g_law_formula g_law_joined g_COUNTS C m_len m_abs m_int m_bool m_str m_isinstance m_tuple m_list m_range m_max m_enumerate⟩
end
end K07
open PySem PySem.W PyProof.Rows
set_option maxHeartbeats 0 in
theorem PySem.Challenge.cw_portolan_k07_formulas_made_holds : PySem.Challenge.rw_portolan_k07_formulas_made.Holds := by
  w_on; o_law; k_head; (case hw => w_witness2)
  k_fill
  refine L2.walk_of (l := PySem.Challenge.rw_portolan_k07_formulas_made) (n := 63) (k := 5) (x := "script") (CX := fun _ => L2.CX0) (sp := fun w => K07.spLaw _) rfl (by decide) rfl ⟨rfl, by decide, by decide⟩ (fun w h Y => PySem.W.kIn_of Y) ?F (fun _ _ a ns hl _ hS => ⟨a, ns, rfl, hS, hl, fun _ => rfl⟩) (fun _ _ _ _ _ h => h)
  case F =>
    intro w mg fa h KX G hmg
    refine' K07.all_mk KX G hmg ?a0 ?l0 ?c0 ?k0 ?a1 ?l1 ?c1 ?k1 ?a2 ?l2 ?c2 ?k2 ?a3 ?l3 ?c3 ?k3 ?a4 ?l4 ?c4 ?k4 ?a5 ?l5 ?c5 ?k5 ?a6 ?l6 ?c6 ?k6 ?a7 ?l7 ?c7 ?k7 ?a8 ?l8 ?c8 ?k8 ?a9 ?l9 ?c9 ?k9 ?a10 ?l10 ?c10 ?k10 ?a11 ?l11 ?c11 ?k11 ?a12 ?l12 ?c12 ?k12 ?a13 ?l13 ?c13 ?k13 ?a14 ?l14 ?c14 ?k14 ?a15 ?l15 ?c15 ?k15 ?a16 ?l16 ?c16 ?k16 ?a17 ?l17 ?c17 ?k17 ?z0 ?z1 ?z2 ?z3 ?z4 ?z5 ?z6 ?z7 ?z8 ?z9 ?z10 ?zc ?zl ?zk ?zo ?y0 ?y1 ?y2 ?y3 ?y4 ?y5 ?y6 ?y7 ?y8 ?y9 ?y10 ?y11 ?y12 ?y13
    (case a0 => k_is); (case l0 => k_is); (case c0 => k_is); (case k0 => k_is); (case a1 => k_is); (case l1 => k_is); (case c1 => k_is); (case k1 => k_is); (case a2 => k_is); (case l2 => k_is); (case c2 => k_is); (case k2 => k_is); (case a3 => k_is); (case l3 => k_is); (case c3 => k_is); (case k3 => k_is); (case a4 => k_is); (case l4 => k_is); (case c4 => k_is); (case k4 => k_is); (case a5 => k_is); (case l5 => k_is); (case c5 => k_is); (case k5 => k_is); (case a6 => k_is); (case l6 => k_is); (case c6 => k_is); (case k6 => k_is); (case a7 => k_is); (case l7 => k_is); (case c7 => k_is); (case k7 => k_is); (case a8 => k_is); (case l8 => k_is); (case c8 => k_is); (case k8 => k_is); (case a9 => k_is); (case l9 => k_is); (case c9 => k_is); (case k9 => k_is); (case a10 => k_is); (case l10 => k_is); (case c10 => k_is); (case k10 => k_is); (case a11 => k_is); (case l11 => k_is); (case c11 => k_is); (case k11 => k_is); (case a12 => k_is); (case l12 => k_is); (case c12 => k_is); (case k12 => k_is); (case a13 => k_is); (case l13 => k_is); (case c13 => k_is); (case k13 => k_is); (case a14 => k_is); (case l14 => k_is); (case c14 => k_is); (case k14 => k_is); (case a15 => k_is); (case l15 => k_is); (case c15 => k_is); (case k15 => k_is); (case a16 => k_is); (case l16 => k_is); (case c16 => k_is); (case k16 => k_is); (case a17 => k_is); (case l17 => k_is); (case c17 => k_is); (case k17 => k_is); (case z0 => k_is); (case z1 => k_is); (case z2 => k_is); (case z3 => k_is); (case z4 => k_is); (case z5 => k_is); (case z6 => k_is); (case z7 => k_is); (case z8 => k_is); (case z9 => k_is); (case z10 => k_is); (case zc => k_is); (case zl => k_is); (case zk => k_keys); (case zo => decide); (case y0 => k_is); (case y1 => k_is); (case y2 => k_is); (case y3 => k_is); (case y4 => k_is); (case y5 => k_is); (case y6 => k_is); (case y7 => k_is); (case y8 => k_is); (case y9 => k_is); (case y10 => k_is); (case y11 => k_is); (case y12 => k_is); (case y13 => k_is)

