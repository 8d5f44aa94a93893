import PyProof.Rows.All
import Wide.All
import OpenK.AllK
import Wide.FinOn
import HandS.ForMost
import HandS.Evl
import HandS.Wide
import HandS.WideBits
import HandS.Style
import HandS.IsInst
import PyProof.P3Eq
import KE.GoesEnum
import HandS.Star
import HandS.Conv
import HandS.More
import HandS.Walk
import KE.KEqNest
import PySem.Challenge.RW_portolan_k06_formulas_told
set_option Elab.async false
set_option linter.all false
set_option maxRecDepth 100000
set_option maxHeartbeats 4000000
/-! Own rules over the layer: what a reading evaluates to, for texts that change nothing. -/
namespace Cm
open PySem PySem.Spec PyProof.Rows L2 Evl

theorem ex_app {H H' : Hp} (e : Ex H H') {p : Addr} {o : HO} (h : H p = some o) : H' p = some o := e p o h
/-- a new tuple comes back -/
def RetU (xs : List V) (H : Hp) (Q : VK) : Prop := ∀ p H2, H p = none → Ex H H2 → H2 p = some (.tup xs) → Q (.ref p) H2
def SpU (sp : Sp) (vs : List V) (H : Hp) (xs : List V) : Prop := ∀ H1, Ex H H1 → ∀ Q : VK, (∀ p H2, H1 p = none → Ex H1 H2 → H2 p = some (.tup xs) → Q (.ref p) H2) → ∀ E : XK, sp vs H1 Q E
section
variable {K : PySem.W.Frag} {σ : L2.St} {H H' : Hp} {ta tb tc te tx : TE} {t u : TT} {x y z v w : V} {r r' : R2} {D : Ends} {tz : TS}
/-- the slots written out anew -/
theorem st_is {σ' : L2.St} {ts : TS} (e : σ = σ') (h : ts D σ' H) : ts D σ H := by
  rw [e]
  exact h
theorem RetU.go {xs : List V} {Q : VK} (k : RetU xs H Q) (e : Ex H H') {p : Addr} {H2 : Hp} (hp : H' p = none) (e2 : Ex H' H2) (h : H2 p = some (.tup xs)) : Q (.ref p) H2 := k p H2 (fresh_back e hp) (e.trans e2) h
theorem eu_call {sp : Sp} {dvs vs xs : List V} {E : XK} {ta : TA} (h : EvA ta σ H vs) (hs : SpU sp (vs ++ dvs) H xs) : EvU (tCall sp dvs E ta) σ H xs := fun H1 e Q q =>
  h H1 e _ fun H2 e2 => hs H2 (e.trans e2) Q (fun p H3 hp e3 h3 => q p H3 (fresh_back e2 hp) (e2.trans e3) h3) E
theorem eu_is {xs ys : List V} (h : EvU te σ H xs) (e : xs = ys) : EvU te σ H ys := by
  rw [← e]
  exact h
/-- a call whose first argument is a new tuple -/
theorem ev_callU {sp : Sp} {dvs vs xs : List V} {E : XK} {tr : TA} (h1 : EvU te σ H xs) (h2 : EvA tr σ H vs) (hs : ∀ p H1, Ex H H1 → H1 p = some (.tup xs) → SpV sp (.ref p :: vs ++ dvs) H1 z) : Ev (tCall sp dvs E (tCons te tr)) σ H z := fun H1 e Q q =>
  h1 H1 e _ fun p H2 np e2 hp => h2 H2 (e.trans e2) _ fun H3 e3 => hs p H3 ((e.trans e2).trans e3) (e3 _ _ hp) H3 (Ex.refl H3) Q (fun H4 e4 => q H4 ((e2.trans e3).trans e4)) E
/-- .. whose second argument is a new tuple -/
theorem ev_callVU {sp : Sp} {dvs vs xs : List V} {E : XK} {tr : TA} (h0 : Ev ta σ H x) (h1 : EvU te σ H xs) (h2 : EvA tr σ H vs) (hs : ∀ p H1, Ex H H1 → H1 p = some (.tup xs) → SpV sp (x :: .ref p :: vs ++ dvs) H1 z) : Ev (tCall sp dvs E (tCons ta (tCons te tr))) σ H z := fun H1 e Q q =>
  h0 H1 e _ fun H2 e2 => h1 H2 (e.trans e2) _ fun p H3 np e3 hp => h2 H3 ((e.trans e2).trans e3) _ fun H4 e4 => hs p H4 (((e.trans e2).trans e3).trans e4) (e4 _ _ hp) H4 (Ex.refl H4) Q (fun H5 e5 => q H5 (((e2.trans e3).trans e4).trans e5)) E
theorem ev_chain {b c : Bool} (ha : Ev ta σ H x) (hb : Ev tb σ H y) (hc : Ev tc σ H w) (h1 : RV r x y H (.bl b)) (h2 : RV r' y w H (.bl c)) : Ev (tChain r r' ta tb tc) σ H (.bl (b && c)) := fun H1 e Q q =>
  ha H1 e _ fun H2 e2 => hb H2 (e.trans e2) _ fun H3 e3 => h1 H3 ((e.trans e2).trans e3) _ fun H4 e4 => ⟨b, rfl, by
    cases b with
    | true =>
      show tc σ H4 _
      exact hc H4 (((e.trans e2).trans e3).trans e4) _ fun H5 e5 => h2 H5 ((((e.trans e2).trans e3).trans e4).trans e5) Q fun H6 e6 => q H6 ((((e2.trans e3).trans e4).trans e5).trans e6)
    | false =>
      show Q (.bl false) H4
      exact q H4 ((e2.trans e3).trans e4)⟩
theorem rv_shl {i : Int} {k : Nat} (h : CShl i (k : Int)) : RV (fun x y H Q => ∃ (i : Int) (k : Nat), x = .int i ∧ y = .int (k : Int) ∧ CShl i (k : Int) ∧ Q (.int (i * 2 ^ k)) H) (.int i) (.int (k : Int)) H (.int (i * 2 ^ k)) :=
  fun H1 _ _ q => ⟨i, k, rfl, rfl, h, q H1 (Ex.refl H1)⟩
theorem rv_shr {i : Int} {k : Nat} : RV (fun x y H Q => ∃ (i : Int) (k : Nat), x = .int i ∧ y = .int (k : Int) ∧ Q (.int (i / 2 ^ k)) H) (.int i) (.int (k : Int)) H (.int (i / 2 ^ k)) :=
  fun H1 _ _ q => ⟨i, k, rfl, rfl, q H1 (Ex.refl H1)⟩
theorem rv_isB {a b : Bool} : RV rIsB (.bl a) (.bl b) H (.bl (decide (a = b))) := fun H1 _ _ q => ⟨a, b, rfl, rfl, q H1 (Ex.refl H1)⟩
theorem rv_notB {a b : Bool} : RV rNotB (.bl a) (.bl b) H (.bl (!decide (a = b))) := fun H1 _ _ q => ⟨a, b, rfl, rfl, q H1 (Ex.refl H1)⟩
theorem rv_isN : RV (fun x y H Q => y = .non ∧ Q (.bl (decide (x = .non))) H) x .non H (.bl (decide (x = .non))) := fun H1 _ _ q => ⟨rfl, q H1 (Ex.refl H1)⟩
theorem rv_notN : RV (fun x y H Q => y = .non ∧ Q (.bl (!decide (x = .non))) H) x .non H (.bl (!decide (x = .non))) := fun H1 _ _ q => ⟨rfl, q H1 (Ex.refl H1)⟩
theorem rc_abs {i : Int} : RC (fun xs H Q => ∃ i, xs = [.int i] ∧ Q (.int (if i < 0 then -i else i)) H) [.int i] H (.int (i.natAbs : Int)) := fun H1 _ Q q => ⟨i, rfl, by
  have e : (if i < 0 then -i else i) = (i.natAbs : Int) := by split <;> omega
  rw [e]
  exact q H1 (Ex.refl H1)⟩
theorem rc_max2 {i j : Int} : RC (fun xs H Q => ∃ i j, xs = [.int i, .int j] ∧ Q (.int (if j > i then j else i)) H) [.int i, .int j] H (.int (max i j)) := fun H1 _ Q q => ⟨i, j, rfl, by
  have e : (if j > i then j else i) = max i j := by split <;> omega
  rw [e]
  exact q H1 (Ex.refl H1)⟩
theorem rc_min2 {i j : Int} : RC (fun xs H Q => ∃ i j, xs = [.int i, .int j] ∧ Q (.int (if j < i then j else i)) H) [.int i, .int j] H (.int (min i j)) := fun H1 _ Q q => ⟨i, j, rfl, by
  have e : (if j < i then j else i) = min i j := by split <;> omega
  rw [e]
  exact q H1 (Ex.refl H1)⟩
theorem rc_intB {k : Bool} : RC (fun xs H Q => (∃ i, xs = [.int i] ∧ Q (.int i) H) ∨ ∃ k, xs = [.bl k] ∧ Q (.int (if k then 1 else 0)) H) [.bl k] H (.int (if k then 1 else 0)) := fun H1 _ Q q => Or.inr ⟨k, rfl, q H1 (Ex.refl H1)⟩
theorem rc_intI {i : Int} : RC (fun xs H Q => (∃ i, xs = [.int i] ∧ Q (.int i) H) ∨ ∃ k, xs = [.bl k] ∧ Q (.int (if k then 1 else 0)) H) [.int i] H (.int i) := fun H1 _ Q q => Or.inl ⟨i, rfl, q H1 (Ex.refl H1)⟩
theorem rc_isiT {p : Addr} {xs : List V} (h : H p = some (.tup xs)) : RC (rIsi K) [.ref p, .ty "tuple"] H (.bl true) := fun H1 e _ q =>
  ⟨.ref p, .ty "tuple", .type "tuple", .type "tuple", true, rfl, .ty _, .base (.tup (e _ _ h)), kit_ty (by decide +kernel), q H1 (Ex.refl H1)⟩
theorem rc_isiS {x : Str} : RC (rIsi K) [.str x, .ty "str"] H (.bl true) := fun H1 e _ q =>
  ⟨.str x, .ty "str", .type "str", .type "str", true, rfl, .ty _, .base (.str x), kit_ty (by decide +kernel), q H1 (Ex.refl H1)⟩
theorem rc_lenL {p : Addr} {xs : List V} (h : SqL K H p xs) : RC (fun xs H Q => ∃ x n, xs = [x] ∧ LenV K x H n ∧ Q (.int n) H) [.ref p] H (.int (xs.length : Int)) := fun H1 e _ q =>
  ⟨.ref p, (xs.length : Nat), rfl, .inl ⟨_, ex_l e h, rfl⟩, q H1 (Ex.refl H1)⟩
/-! ### data -/
mutual
theorem dp_mono (e : Ex H H') : ∀ (d : PyData) (v : V), Dp K H v d → Dp K H' v d
  | _, _, .non => .non
  | _, _, .bl b => .bl b
  | _, _, .int i => .int i
  | _, _, .str x => .str x
  | _, _, .lst h a => .lst (ex_l e h) (dps_mono e _ _ a)
  | _, _, .tup h a => .tup (ex_t e h) (dps_mono e _ _ a)
theorem dps_mono (e : Ex H H') : ∀ (ds : List PyData) (vs : List V), DpAll K H vs ds → DpAll K H' vs ds
  | _, _, .nil => .nil
  | _, _, .cons h t => .cons (dp_mono e _ _ h) (dps_mono e _ _ t)
end
theorem dpInts : ∀ (is : List Int), DpAll K H (is.map V.int) (is.map PyData.int)
  | [] => .nil
  | i :: r => .cons (.int i) (dpInts r)
theorem eqvS {d : PyData} (h : SeqAt.shaped d = true) : PyData.eqv d d = true := by
  unfold SeqAt.shaped at h
  rw [Bool.and_eq_true] at h
  exact PySem.SeqAt.eqv_refl d h.1
/-- the same data on both sides -/
theorem rv_neS {d : PyData} (hx : Dp K H x d) (hy : Dp K H y d) (hs : SeqAt.shaped d = true) : RV (rNeD K) x y H (.bl false) := fun H1 e Q q =>
  ⟨d, d, dp_mono e _ _ hx, dp_mono e _ _ hy, hs, hs, by
    rw [eqvS hs]
    exact q H1 (Ex.refl H1)⟩
theorem rv_eqS {d : PyData} (hx : Dp K H x d) (hy : Dp K H y d) (hs : SeqAt.shaped d = true) : RV (rEqD K) x y H (.bl true) := fun H1 e Q q =>
  ⟨d, d, dp_mono e _ _ hx, dp_mono e _ _ hy, hs, hs, by
    rw [eqvS hs]
    exact q H1 (Ex.refl H1)⟩
/-- a pair of ints -/
theorem dp2 {p : Addr} {i j : Int} (h : SqT K H p [.int i, .int j]) : Dp K H (.ref p) (.tuple [.int i, .int j]) := .tup h (.cons (.int i) (.cons (.int j) .nil))
theorem sh2 {i j : Int} : SeqAt.shaped (.tuple [.int i, .int j]) = true := rfl
end
/-! ### numbers -/
/-- a bound that omega does not look into -/
def Bd (k : Nat) (x : Int) : Prop := x.natAbs < 2 ^ k
theorem pow_pos (n : Nat) : (0 : Int) < 2 ^ n := PySem.W.kbt_pos n
theorem pow_abs (n : Nat) : ((2 : Int) ^ n).natAbs = 2 ^ n := by
  rw [Int.natAbs_pow]
  rfl
theorem ab_mono {x : Int} {a b : Nat} (h : x.natAbs < 2 ^ a) (hab : a ≤ b) : x.natAbs < 2 ^ b := Nat.lt_of_lt_of_le h (Nat.pow_le_pow_right (by decide) hab)
theorem ab_pow {n k : Nat} (h : n < k) : ((2 : Int) ^ n).natAbs < 2 ^ k := by
  rw [pow_abs]
  exact Nat.pow_lt_pow_right (by decide) h
theorem ab_shl {x : Int} {a n : Nat} (h : x.natAbs < 2 ^ a) : (x * 2 ^ n).natAbs < 2 ^ (a + n) := by
  rw [Int.natAbs_mul, pow_abs, Nat.pow_add]
  exact Nat.mul_lt_mul_of_pos_right h (Nat.two_pow_pos n)
theorem ab_mul {x y : Int} {a b : Nat} (hx : x.natAbs < 2 ^ a) (hy : y.natAbs < 2 ^ b) : (x * y).natAbs < 2 ^ (a + b) := wide_lt hx hy
theorem ab_add {x y : Int} {a : Nat} (hx : x.natAbs < 2 ^ a) (hy : y.natAbs < 2 ^ a) : (x + y).natAbs < 2 ^ (a + 1) := by
  have e : 2 ^ (a + 1) = 2 ^ a + 2 ^ a := by rw [Nat.pow_succ]; omega
  omega
theorem ab_neg {x : Int} {a : Nat} (hx : x.natAbs < 2 ^ a) : (-x).natAbs < 2 ^ a := by omega
theorem ab_sm {x : Int} {a c : Nat} (h : x.natAbs ≤ c) (hc : c < 2 ^ a) : x.natAbs < 2 ^ a := Nat.lt_of_le_of_lt h hc
theorem fl_le {s q : Int} (hq : 0 < q) : s / q * q ≤ s := Int.ediv_mul_le s (by omega)
theorem fl_lt {s q : Int} (hq : 0 < q) : s < (s / q + 1) * q := by
  rw [Int.add_mul, Int.one_mul]
  exact Int.lt_ediv_add_one_mul_self s hq |> fun h => by rw [Int.add_mul, Int.one_mul] at h; exact h
theorem cl_ge {s q : Int} (hq : 0 < q) : s ≤ -(-s / q) * q := by
  have h := fl_le (s := -s) hq
  rw [Int.neg_mul]
  omega
theorem cl_lt {s q : Int} (hq : 0 < q) : (-(-s / q) - 1) * q < s := by
  have h := fl_lt (s := -s) hq
  rw [Int.sub_mul, Int.one_mul, Int.neg_mul]
  rw [Int.add_mul, Int.one_mul] at h
  omega
theorem ab_div {x q : Int} {a : Nat} (hq : 0 < q) (h : x.natAbs < 2 ^ a) : (x / q).natAbs < 2 ^ a := by
  have h1 : (x / q).natAbs ≤ x.natAbs := by
    by_cases hx : 0 ≤ x
    · have := Int.ediv_le_self q hx
      have := Int.ediv_nonneg hx (Int.le_of_lt hq)
      omega
    · have h2 : x / q < 0 := Int.ediv_neg_of_neg_of_pos (by omega) hq
      have h3 := fl_lt (s := x) hq
      have h4 : (x / q + 1) * q ≤ (x / q + 1) := by
        have h5 : (x / q + 1) * (q - 1) ≤ 0 := Int.mul_nonpos_of_nonpos_of_nonneg (by omega) (by omega)
        rw [Int.mul_sub, Int.mul_one] at h5
        omega
      omega
  omega
theorem mul_le_r {a b q : Int} (h : a ≤ b) (hq : 0 < q) : a * q ≤ b * q := Int.mul_le_mul_of_nonneg_right h (Int.le_of_lt hq)
/-- the ceiling, by one more where the floor is not exact -/
theorem ceil_eq {s q : Int} (hq : 0 < q) : -(-s / q) = s / q + (if (!decide (s / q * q = s)) = true then 1 else 0) := by
  have a1 := fl_le (s := s) hq
  have a2 := fl_lt (s := s) hq
  have b1 := cl_ge (s := s) hq
  have b2 := cl_lt (s := s) hq
  have lt_of : ∀ {u v : Int}, u * q < v * q → u < v := fun h => Int.lt_of_mul_lt_mul_right h (Int.le_of_lt hq)
  have c1 : -(-s / q) - 1 < s / q + 1 := lt_of (Int.lt_trans b2 a2)
  by_cases e : s / q * q = s
  · rw [decide_eq_true e]
    have c2 : -(-s / q) - 1 < s / q := lt_of (by rw [e]; exact b2)
    have c3 : s / q - 1 < -(-s / q) := lt_of (Int.lt_of_lt_of_le (by rw [Int.sub_mul, Int.one_mul, e]; omega) b1)
    show _ = s / q + 0
    omega
  · rw [decide_eq_false e]
    have c3 : s / q < -(-s / q) := lt_of (by omega)
    show _ = s / q + 1
    omega
end Cm

/-! Own rule: for i, x in enumerate(t), t a tuple. -/
namespace Et
open PySem PySem.Spec PyProof.Rows L2

theorem meets1 {v : Value} {o : Obj} {H : Heap → Prop} (B : Begins v o H) :
    Meets (Builtin.«enumerate.__new__» ⟨[.type "enumerate", v], []⟩) (fun _ R s => H s.heap ∧
      R (.ok (.ret (.ref (s.heap.push o).objs.size))) { s with heap := (s.heap.push o).push { cls := .type "enumerate", data := .fields #[.none, .bool false, .ref s.heap.objs.size, rawInt 0, .none, .none] } }) :=
  .of_wp fun prog w A R s h => by
    obtain ⟨hp, g, d, tk, os⟩ := s; obtain ⟨h1, h⟩ := h
    have hsub := sub_enumerate
    have q1 : ∀ {A' : Around} {E : Value → Shared → Prop} {Q : Value → Shared → Prop}, Q (.ref hp.objs.size) ⟨hp.push o, g, d, tk, os⟩ → wpAny (model prog w) A' (pyIter v) Q E ⟨hp, g, d, tk, os⟩ :=
      fun q => B.iter prog w _ _ ⟨hp, g, d, tk, os⟩ _ h1 q
    wp_walk using q1
    refine wpAny_stack_any fun st => wpAny_pure ?_
    split
    · rename_i c _ _ _ _ _
      cases (c == Value.type "enumerate")
      · wp_walk using q1
        exact ⟨_, rfl, h⟩
      · wp_walk using q1
        exact ⟨_, rfl, h⟩
    · wp_walk using q1
      exact ⟨_, rfl, h⟩
section
variable {prog : Program} {w : World} {A : Around} {E : Value → Shared → Prop} {s : Shared}
theorem begins1 {v : Value} {o : Obj} {H : Heap → Prop} {Q : Value → Shared → Prop} (B : Begins v o H) (h1 : H s.heap)
    (h : ∀ h', IsEnum h' (s.heap.objs.size + 1) s.heap.objs.size 0 .none → h'.get? s.heap.objs.size = some o → h'.objs.size = s.heap.objs.size + 2 →
      (∀ b o, s.heap.get? b = some o → h'.get? b = some o) → Q (.ref (s.heap.objs.size + 1)) { s with heap := h' }) :
    wpAny (model prog w) A (call (.type "enumerate") [v]) Q E s := by
  refine callType_new F.called_enumerate (by decide) (F.typeCall_enumerate_1 _) (F.newCall_enumerate_1 _) (fun obj => F.args_object_init_2 obj _) F.entry_enumerate_new
    (meets1 B) ⟨h1, ?_⟩
  have hz : (s.heap.push o).objs.size = s.heap.objs.size + 1 := Heap.size_push ..
  show _ ∧ _
  rw [hz]
  have he : IsEnum ((s.heap.push o).push { cls := .type "enumerate", data := .fields #[.none, .bool false, .ref s.heap.objs.size, rawInt 0, .none, .none] }) (s.heap.objs.size + 1) s.heap.objs.size 0 .none := by
    have := Heap.get?_push_size (s.heap.push o) (o := { cls := .type "enumerate", data := .fields #[.none, .bool false, .ref s.heap.objs.size, rawInt 0, .none, .none] }) rfl
    rw [hz] at this; exact this
  refine ⟨⟨_, he, rfl⟩, h _ he (Heap.get?_push_of_some _ (Heap.get?_push_size _ B.free)) (by rw [Heap.size_push, hz]) fun b o x => Heap.get?_push_of_some _ (Heap.get?_push_of_some _ x)⟩
end
section
variable {prog : Program} {w : World} {A : Around} {E : Value → Shared → Prop} {s : Shared}
theorem enum_endT {e it l : Addr} {i : Nat} {items : Array Value} {old : Value} {Q : Option Value → Shared → Prop} (hh : A.handled = none)
    (he : IsEnum s.heap e it i old) (hit : s.heap.IsTupleIter it l i) (hl : s.heap.IsTuple l items) (hx : items[i]? = none)
    (hQ : ∀ h', Heap.ExtBut it s.heap h' → Q none { s with heap := h' }) : wpAny (model prog w) A (pyNext (.ref e)) Q E s := by
  have hT : s.TypeIs (.ref e) "enumerate" := ⟨_, he, rfl⟩
  unfold pyNext
  refine wpAny_bind (wpAny_attempt (wpAny_callSpecial?_slot (name := Str.ofString "__next__") hT F.slot_enumerate_next
    (wpAny_call_entry F.slot_enumerate_next hT F.entry_enumerate_next ?_ (F.args_enumerate_next_1 _))))
  show wpAny _ _ (field (.ref e) 2 >>= _) _ _ _
  refine wpAny_bind (wpAny_field he rfl (x := .ref it) rfl ?_)
  refine wpAny_bind (wpAny_nextOf_tuple_end hh hit hl hx fun h' x he' hx' => ?_)
  obtain ⟨o, ho, hc⟩ := hx'
  refine wpAny_bind (wpAny_isInstance (T := "StopIteration") (b := true) ⟨o, ho, hc⟩ isSubtype_stop ?_)
  exact wpAny_pure (hQ _ he')
end
/-- the tuple at a as it stands at each turn, each item in a new pair -/
def Iet (K : PySem.W.Frag) (a : Addr) : It :=
  ⟨fun i H => ∃ (xs : List V) (x : V), SqT K H a xs ∧ xs[i]? = some x, fun i H v H' => ∃ T x, v = .ref T ∧ H T = none ∧ H' = upd H T (.tup [.int (i : Nat), x]) ∧ ∀ xs, SqT K H a xs → xs[i]? = some x, fun i H => ∃ xs : List V, SqT K H a xs ∧ xs.length ≤ i⟩
theorem turn_enumT {P : Program} {w : World} {K : PySem.W.Frag} {elts : List Expr} {kk : Nat} {tpos : Pos} (a e it : Addr) :
    Turn P w K (.Tuple elts kk tpos) (Iet K a) [e, it] e (fun i h => (∃ old, IsEnum h e it ((i : Nat) : Int) old) ∧ h.IsTupleIter it a i ∧ e ≠ it) where
  mem := by simp
  obj := fun i h st b hb => by
    obtain ⟨⟨old, he⟩, ⟨o, ho, hc, hd⟩, _⟩ := st
    have e' : b = e ∨ b = it := by simpa using hb
    rcases e' with z | z
    · rw [z]; exact ⟨_, he, fun v q => nomatch q⟩
    · rw [z]; exact ⟨o, ho, fun v q => by rw [hd] at q; cases q⟩
  keep := fun i h h' st k => let ⟨⟨old, he⟩, hi, hne⟩ := st; ⟨⟨old, k e (by simp) _ he⟩, hi.at fun o q => k it (by simp) o q, hne⟩
  item := by
    intro X hP hw hK hc i pins s σ H E I hf st hg
    subst hP hw hK
    obtain ⟨⟨old, he⟩, hit, hne⟩ := st
    obtain ⟨xs, x, hq, hx⟩ := hg
    obtain ⟨its, rv, p, hz⟩ := I.tuple hq
    obtain ⟨u, hu, ru⟩ := rv.get hx
    have hel : e < s.heap.objs.size := Heap.lt_size he
    have hil : it < s.heap.objs.size := by obtain ⟨_, q, _⟩ := hit; exact Heap.lt_size q
    have hat : a ≠ it := fun z => by
      subst z
      obtain ⟨o1, e1, c1, _⟩ := hit
      obtain ⟨o2, e2, c2, _⟩ := p
      rw [e1] at e2
      cases e2
      rw [c1] at c2
      exact absurd (Value.type.inj c2) (by decide)
    have hae : a ≠ e := fun z => by
      subst z
      obtain ⟨o2, e2, c2, _⟩ := p
      rw [he] at e2
      cases e2
      exact absurd (Value.type.inj c2) (by decide)
    have hlt : i < its.toArray.size := by
      rw [List.size_toArray]
      exact (List.getElem?_eq_some_iff.mp hu).1
    refine wpAny_pyNext_enum_itemD (Draws.tuple (A := X.A.in1) (I.ok.hd hc) it a hat its.toArray) he ⟨hit, p⟩ hlt hne (by simp; exact ⟨hne, Ne.symm hae⟩) fun y h' tk hy ho hst' hT hsz hk => ?_
    have eu : y = u := by
      have h1 : its.toArray[i]? = some u := by simpa using hu
      rw [h1] at hy
      exact (Option.some.inj hy).symm
    subst eu
    refine ⟨_, rfl, wpAny_letOwnedTupleGo_enum (s := { s with heap := h', toks := tk + 1 }) ho fun h'' he' sb => ?_⟩
    have hT2 : h''.get? s.heap.objs.size = some { cls := .type "tuple", data := .seq #[.int i tk, y] } := (sb.2 _ (Nat.ne_of_gt hel)).trans hT
    have new : ObjOk X.prog X.w (upd H s.heap.objs.size (.tup [.int (i : Nat), x])) h'' s.heap.objs.size (.tup [.int (i : Nat), x]) :=
      ⟨by show 2 ≤ sizeLine; decide, [.int i tk, y], .cons ⟨_, rfl⟩ (.cons ru .nil), ⟨_, hT2, rfl, _, rfl⟩⟩
    have I1 : Inv X pins σ (upd H s.heap.objs.size (.tup [.int (i : Nat), x])) { s with heap := h'', toks := tk + 1 } :=
      I.turnedNew (ch := [e, it]) (fun b ob hb q => (sb.2 b (fun z => hb (by simp [z]))).trans (hk b ob (fun z => hb (by simp [z])) (fun z => hb (by simp [z])) q)) hf (Nat.le_refl _) new
    refine ⟨.ref s.heap.objs.size, _, I1, rfl, ⟨_, x, rfl, I.hok.fresh (Nat.le_refl _), rfl, fun ys hy => by rw [I.tuple_inj hy hq]; exact hx⟩, ⟨⟨y, ?_⟩, hst'.1.at fun o q => (sb.2 it (Ne.symm hne)).trans q, hne⟩, fun b hb => ?_⟩
    · have e1 : ((i + 1 : Nat) : Int) = (i : Int) + 1 := by omega
      rw [e1]; exact he'
    · have hb' : b < s.heap.objs.size := by
        have e' : b = e ∨ b = it := by simpa using hb
        rcases e' with z | z
        · rw [z]; exact hel
        · rw [z]; exact hil
      rw [upd_ne (Nat.ne_of_lt hb')]
      exact (hf b hb).1
  done := by
    intro X hP hw hK hc i pins s σ H E I hf st hg
    subst hP hw hK
    obtain ⟨⟨old, he⟩, hit, hne⟩ := st
    obtain ⟨xs, hq, hx⟩ := hg
    obtain ⟨its, rv, p, hz⟩ := I.tuple hq
    obtain ⟨f0, f1, f2, f3, f4, f5⟩ := hf it (by simp)
    have hl := rv.length
    refine enum_endT (I.ok.hd hc) he hit p (by simp; omega) fun h' eb => ⟨rfl, I.turned (t' := s.toks) (fun b o hb q => eb b o hb q) f0 f1 f3 f4 f5⟩
  self := fun A i s Q E st h => let ⟨⟨_, he⟩, _⟩ := st; wpAny_pyIter_enum he h
def iEnumT (K : PySem.W.Frag) (ta : TA) : TI := fun σ H R => ta σ H fun vs H1 => ∃ a xs, vs = [.ref a] ∧ SqT K H1 a xs ∧ R (Iet K a) H1
theorem pi_enumT {X : Cx} {e : Expr} {ta : TA} {p pos tpos : Pos} {elts : List Expr} {kk : Nat} (hg : Gl X "enumerate") (hm : X.mg "enumerate" = none) (ha : PA X [e] ta) (hs : starEach [e] X.env = [(false, eval e X.env)] := by rfl) :
    PI X (.Tuple elts kk tpos) (.Call (.Name "enumerate" p) [e] [] pos) (iEnumT X.K ta) := by
  refine ⟨fun pins s σ H R I h => ?_⟩
  refine Call_ (ld_blt I hg hm boot_enumerate (PyProof.Rows.callWith_type1 (thn (ha.run pos pins s σ H _ I h) fun us s1 ⟨vs, H1, I1, r1, q1⟩ => ?_) hs rfl))
  obtain ⟨a, xs, ex, hq, q⟩ := q1
  subst ex
  cases r1 with
  | cons r rr =>
    cases rr
    cases r
    obtain ⟨its, rv, p', hz⟩ := I1.tuple hq
    refine begins1 (begins_tuple a its.toArray) p' fun h' he hit hsz hk => wpAny_pyIter_enum he ?_
    have I2 : Inv X pins σ H1 { s1 with heap := h' } := I1.kept (t' := s1.toks) hk
    refine ⟨s1.heap.objs.size + 1, [s1.heap.objs.size + 1, s1.heap.objs.size], _, _, H1, rfl, I2, turn_enumT a (s1.heap.objs.size + 1) s1.heap.objs.size, ⟨⟨.none, he⟩, ⟨_, hit, rfl, rfl⟩, Nat.succ_ne_self _⟩, fun b hb => ?_, q⟩
    have e' : b = s1.heap.objs.size + 1 ∨ b = s1.heap.objs.size := by simpa using hb
    have hle : s1.heap.objs.size ≤ b := by
      rcases e' with z | z
      · rw [z]; exact Nat.le_add_right _ _
      · rw [z]; exact Nat.le_refl _
    exact I1.fpOk hle (I1.hok.fresh hle)
end Et

/-! Own data: formulas as they stand in the heap. -/
namespace Fm
open PySem PySem.Spec PyProof.Rows L2 Evl Cm Et

abbrev FStep := Str × List Int
def stV (s : FStep) : List V := .str s.1 :: s.2.map V.int
def stD (s : FStep) : PyData := .tuple (.str s.1 :: s.2.map PyData.int)
def StepAt (H : Hp) (v : V) (s : FStep) : Prop := ∃ p, v = .ref p ∧ H p = some (.tup (stV s))
def StepsAt (H : Hp) (vs : List V) (ss : List FStep) : Prop := vs.length = ss.length ∧ ∀ (i : Nat) v s, vs[i]? = some v → ss[i]? = some s → StepAt H v s
section
variable {K : PySem.W.Frag} {σ : L2.St} {H H' : Hp} {ta tb tc te tx tl : TE} {t u : TT} {x y z v w : V} {r r' : R2} {D : Ends} {tu tz : TS} {vs ws : List V} {ss ts : List FStep} {s : FStep} {g : TG}
theorem StepAt.mono (e : Ex H H') (h : StepAt H v s) : StepAt H' v s := by
  obtain ⟨p, h1, h2⟩ := h
  exact ⟨p, h1, e _ _ h2⟩
theorem StepsAt.mono (e : Ex H H') (h : StepsAt H vs ss) : StepsAt H' vs ss := ⟨h.1, fun i v s a b => (h.2 i v s a b).mono e⟩
theorem StepsAt.nil : StepsAt H [] [] := ⟨rfl, fun i v s h _ => by simp at h⟩
theorem StepsAt.app (h1 : StepsAt H vs ss) (h2 : StepsAt H ws ts) : StepsAt H (vs ++ ws) (ss ++ ts) := by
  refine ⟨by rw [List.length_append, List.length_append, h1.1, h2.1], fun i v s a b => ?_⟩
  by_cases hi : i < vs.length
  · rw [List.getElem?_append_left hi] at a
    rw [List.getElem?_append_left (by rw [← h1.1]; exact hi)] at b
    exact h1.2 i v s a b
  · rw [List.getElem?_append_right (by omega)] at a
    rw [List.getElem?_append_right (by have := h1.1; omega)] at b
    rw [← h1.1] at b
    exact h2.2 _ v s a b
theorem StepsAt.one (h : StepAt H v s) : StepsAt H [v] [s] := ⟨rfl, fun i x y a b => by
  cases i with
  | zero =>
    cases Option.some.inj a
    cases Option.some.inj b
    exact h
  | succ i => simp at a⟩
theorem StepsAt.snoc (h1 : StepsAt H vs ss) (h : StepAt H v s) : StepsAt H (vs ++ [v]) (ss ++ [s]) := h1.app (.one h)
theorem StepsAt.get (h : StepsAt H vs ss) {i : Nat} (hi : vs[i]? = some v) : ∃ s, ss[i]? = some s ∧ StepAt H v s := by
  have h1 : i < ss.length := by
    rw [← h.1]
    exact (List.getElem?_eq_some_iff.mp hi).1
  exact ⟨ss[i], List.getElem?_eq_getElem h1, h.2 i v _ hi (List.getElem?_eq_getElem h1)⟩
theorem StepAt.dp (h : StepAt H v s) : Dp K H v (stD s) := by
  obtain ⟨p, rfl, h⟩ := h
  exact .tup (st_of h) (.cons (.str _) (dpInts _))
theorem StepsAt.dp : ∀ {vs : List V} {ss : List FStep}, StepsAt H vs ss → DpAll K H vs (ss.map stD)
  | [], [], _ => .nil
  | [], _ :: _, h => by simp [StepsAt] at h
  | _ :: _, [], h => by simp [StepsAt] at h
  | v :: vs, s :: ss, h => .cons (StepAt.dp (h.2 0 v s rfl rfl)) (StepsAt.dp ⟨by simpa using h.1, fun i x y a b => h.2 (i + 1) x y a b⟩)
theorem lay_ints : ∀ (is : List Int), PyData.canLayAll0 (is.map PyData.int) = true
  | [] => rfl
  | i :: r => by
    show (PyData.canLay0 (.int i) && PyData.canLayAll0 (r.map PyData.int)) = true
    rw [lay_ints r]
    rfl
theorem dep_ints : ∀ (is : List Int), PyData.depthAll (is.map PyData.int) = 0
  | [] => rfl
  | i :: r => by
    show max 0 (PyData.depthAll (r.map PyData.int)) = 0
    rw [dep_ints r]
    rfl
theorem dep_st (s : FStep) : PyData.depth (stD s) = 1 := by
  show max 0 (PyData.depthAll (s.2.map PyData.int)) + 1 = 1
  rw [dep_ints]
  rfl
theorem dep_sts : ∀ (ss : List FStep), PyData.depthAll (ss.map stD) ≤ 1
  | [] => Nat.zero_le _
  | s :: r => by
    show max (PyData.depth (stD s)) (PyData.depthAll (r.map stD)) ≤ 1
    rw [dep_st]
    have := dep_sts r
    omega
def OkS (s : FStep) : Prop := PyData.strOk s.1 = true
theorem lay_st {s : FStep} (h : OkS s) : PyData.canLay0 (stD s) = true := by
  show (PyData.canLay0 (.str s.1) && PyData.canLayAll0 (s.2.map PyData.int)) = true
  rw [lay_ints, Bool.and_true]
  exact h
theorem lay_sts : ∀ {ss : List FStep}, (∀ s ∈ ss, OkS s) → PyData.canLayAll0 (ss.map stD) = true
  | [], _ => rfl
  | s :: r, h => by
    show (PyData.canLay0 (stD s) && PyData.canLayAll0 (r.map stD)) = true
    rw [lay_st (h s (.head _)), lay_sts fun x hx => h x (.tail _ hx)]
    rfl
def foD (ss : List FStep) : PyData := .tuple (ss.map stD)
theorem sh_form (h : ∀ s ∈ ss, OkS s) : SeqAt.shaped (foD ss) = true := by
  unfold SeqAt.shaped
  rw [show PyData.canLay0 (foD ss) = PyData.canLayAll0 (ss.map stD) from rfl, lay_sts h, Bool.true_and]
  refine decide_eq_true ?_
  show PyData.depthAll (ss.map stD) + 1 ≤ 64
  have := dep_sts ss
  omega
theorem sh_list (h : ∀ s ∈ ss, OkS s) : SeqAt.shaped (.list (ss.map stD)) = true := sh_form h
/-! ### what is a formula -/
def W2 : List Str := ["add", "subtract", "times", "divide"]
def W1 : List Str := ["root", "sine", "cosine", "exp", "log", "arctan", "arcsine", "arccosine"]
def OkStep (k : Nat) (s : FStep) : Prop :=
  (∃ p q, s = (("number" : Str), [p, q]) ∧ 1 ≤ q) ∨ s = (("pi" : Str), []) ∨ (∃ w i j, w ∈ W2 ∧ s = (w, [i, j]) ∧ (0 ≤ i ∧ i < k) ∧ (0 ≤ j ∧ j < k)) ∨ (∃ w i, w ∈ W1 ∧ s = (w, [i]) ∧ (0 ≤ i ∧ i < k))
def OkForm (ss : List FStep) : Prop := ∀ k s, ss[k]? = some s → OkStep k s
theorem w2_all {P : Str → Prop} (h : P "add" ∧ P "subtract" ∧ P "times" ∧ P "divide") : ∀ w ∈ W2, P w := by
  intro w hw
  unfold W2 at hw
  simp only [List.mem_cons, List.not_mem_nil, or_false] at hw
  obtain ⟨h1, h2, h3, h4⟩ := h
  rcases hw with rfl | rfl | rfl | rfl <;> assumption
theorem w1_all {P : Str → Prop} (h : P "root" ∧ P "sine" ∧ P "cosine" ∧ P "exp" ∧ P "log" ∧ P "arctan" ∧ P "arcsine" ∧ P "arccosine") : ∀ w ∈ W1, P w := by
  intro w hw
  unfold W1 at hw
  simp only [List.mem_cons, List.not_mem_nil, or_false] at hw
  obtain ⟨h1, h2, h3, h4, h5, h6, h7, h8⟩ := h
  rcases hw with rfl | rfl | rfl | rfl | rfl | rfl | rfl | rfl <;> assumption
theorem w2_ok : ∀ w ∈ W2, PyData.strOk w = true := w2_all ⟨by decide +kernel, by decide +kernel, by decide +kernel, by decide +kernel⟩
theorem w1_ok : ∀ w ∈ W1, PyData.strOk w = true := w1_all ⟨by decide +kernel, by decide +kernel, by decide +kernel, by decide +kernel, by decide +kernel, by decide +kernel, by decide +kernel, by decide +kernel⟩
theorem w2_nn : ∀ w ∈ W2, w ≠ "number" := w2_all ⟨by decide +kernel, by decide +kernel, by decide +kernel, by decide +kernel⟩
theorem w2_np : ∀ w ∈ W2, w ≠ "pi" := w2_all ⟨by decide +kernel, by decide +kernel, by decide +kernel, by decide +kernel⟩
theorem w1_nn : ∀ w ∈ W1, w ≠ "number" := w1_all ⟨by decide +kernel, by decide +kernel, by decide +kernel, by decide +kernel, by decide +kernel, by decide +kernel, by decide +kernel, by decide +kernel⟩
theorem w1_np : ∀ w ∈ W1, w ≠ "pi" := w1_all ⟨by decide +kernel, by decide +kernel, by decide +kernel, by decide +kernel, by decide +kernel, by decide +kernel, by decide +kernel, by decide +kernel⟩
theorem pi_nn : ("pi" : Str) ≠ "number" := by decide +kernel
theorem ok_num : PyData.strOk "number" = true := by decide +kernel
theorem ok_pi : PyData.strOk "pi" = true := by decide +kernel
theorem OkStep.oks {k : Nat} (h : OkStep k s) : OkS s := by
  rcases h with ⟨p, q, rfl, _⟩ | rfl | ⟨w, i, j, hw, rfl, _⟩ | ⟨w, i, hw, rfl, _⟩
  · exact ok_num
  · exact ok_pi
  · exact w2_ok w hw
  · exact w1_ok w hw
theorem OkStep.mono {k m : Nat} (hk : k ≤ m) (h : OkStep k s) : OkStep m s := by
  rcases h with h | h | ⟨w, i, j, hw, rfl, h1, h2⟩ | ⟨w, i, hw, rfl, h1⟩
  · exact .inl h
  · exact .inr (.inl h)
  · exact .inr (.inr (.inl ⟨w, i, j, hw, rfl, ⟨h1.1, by omega⟩, ⟨h2.1, by omega⟩⟩))
  · exact .inr (.inr (.inr ⟨w, i, hw, rfl, ⟨h1.1, by omega⟩⟩))
theorem OkForm.oks (h : OkForm ss) : ∀ s ∈ ss, OkS s := fun s hs => by
  obtain ⟨k, hk⟩ := List.getElem?_of_mem hs
  exact (h k s hk).oks
theorem OkForm.nil : OkForm [] := fun k s h => by simp at h
theorem OkForm.snoc (h : OkForm ss) (hs : OkStep ss.length s) : OkForm (ss ++ [s]) := fun k x hk => by
  by_cases hi : k < ss.length
  · rw [List.getElem?_append_left hi] at hk
    exact h k x hk
  · rw [List.getElem?_append_right (by omega)] at hk
    have e : k - ss.length = 0 := by
      have := (List.getElem?_eq_some_iff.mp hk).1
      simp at this
      omega
    rw [e] at hk
    cases Option.some.inj hk
    exact hs.mono (by omega)
def shiftS (m : Nat) (s : FStep) : FStep := if s.1 = "number" then s else (s.1, s.2.map fun i => (m : Int) + i)
theorem OkStep.shift {k m : Nat} (h : OkStep k s) : OkStep (m + k) (shiftS m s) := by
  rcases h with ⟨p, q, rfl, hq⟩ | rfl | ⟨w, i, j, hw, rfl, h1, h2⟩ | ⟨w, i, hw, rfl, h1⟩
  · unfold shiftS
    rw [if_pos rfl]
    exact .inl ⟨p, q, rfl, hq⟩
  · unfold shiftS
    rw [if_neg pi_nn]
    exact .inr (.inl rfl)
  · unfold shiftS
    rw [if_neg (w2_nn w hw)]
    exact .inr (.inr (.inl ⟨w, (m : Int) + i, (m : Int) + j, hw, rfl, ⟨by omega, by omega⟩, ⟨by omega, by omega⟩⟩))
  · unfold shiftS
    rw [if_neg (w1_nn w hw)]
    exact .inr (.inr (.inr ⟨w, (m : Int) + i, hw, rfl, ⟨by omega, by omega⟩⟩))
def joinS (w : Str) (f g : List FStep) : List FStep := f ++ g.map (shiftS f.length) ++ [(w, [(f.length : Int) - 1, (f.length : Int) + (g.length : Int) - 1])]
theorem OkForm.app_shift {f gg : List FStep} (hf : OkForm f) (hg : OkForm gg) : OkForm (f ++ gg.map (shiftS f.length)) := fun k x hk => by
  by_cases hi : k < f.length
  · rw [List.getElem?_append_left hi] at hk
    exact hf k x hk
  · rw [List.getElem?_append_right (by omega), List.getElem?_map] at hk
    obtain ⟨s, h1, rfl⟩ := Option.map_eq_some_iff.mp hk
    have h2 := (hg _ s h1).shift (m := f.length)
    rw [show f.length + (k - f.length) = k by omega] at h2
    exact h2
theorem OkForm.join {f gg : List FStep} {w : Str} (hf : OkForm f) (hg : OkForm gg) (hw : w ∈ W2) (h1 : f ≠ []) (h2 : gg ≠ []) : OkForm (joinS w f gg) := by
  have l1 : 0 < f.length := List.length_pos_iff.mpr h1
  have l2 : 0 < gg.length := List.length_pos_iff.mpr h2
  refine OkForm.snoc (hf.app_shift hg) (.inr (.inr (.inl ⟨w, _, _, hw, rfl, ⟨by omega, ?_⟩, ⟨by omega, ?_⟩⟩)))
  · rw [List.length_append, List.length_map]
    omega
  · rw [List.length_append, List.length_map]
    omega
theorem OkForm.app1 {f : List FStep} {w : Str} (hf : OkForm f) (hw : w ∈ W1) (h1 : f ≠ []) : OkForm (f ++ [(w, [(f.length : Int) - 1])]) := by
  have l1 : 0 < f.length := List.length_pos_iff.mpr h1
  exact hf.snoc (.inr (.inr (.inr ⟨w, _, hw, rfl, by omega, by omega⟩)))
/-! ### what comes back -/
def RetF (ss : List FStep) (H : Hp) (Q : VK) : Prop := ∀ a H2 vs, H a = none → Ex H H2 → H2 a = some (.tup vs) → StepsAt H2 vs ss → Q (.ref a) H2
def RetS (s : FStep) (H : Hp) (Q : VK) : Prop := ∀ v H2, Ex H H2 → StepAt H2 v s → Q v H2
def EvF (te : TE) (σ : L2.St) (H : Hp) (ss : List FStep) : Prop := ∀ H1, Ex H H1 → ∀ Q : VK, RetF ss H1 Q → te σ H1 Q
def SpF (sp : Sp) (vs : List V) (H : Hp) (ss : List FStep) : Prop := ∀ H1, Ex H H1 → ∀ Q : VK, RetF ss H1 Q → ∀ E : XK, sp vs H1 Q E
theorem RetF.go {Q : VK} (k : RetF ss H Q) (e : Ex H H') {a : Addr} {H2 : Hp} (ha : H' a = none) (e2 : Ex H' H2) (h : H2 a = some (.tup vs)) (h2 : StepsAt H2 vs ss) : Q (.ref a) H2 := k a H2 vs (fresh_back e ha) (e.trans e2) h h2
theorem ef_call {sp : Sp} {dvs ws : List V} {E : XK} {ta : TA} (h : EvA ta σ H ws) (hs : SpF sp (ws ++ dvs) H ss) : EvF (tCall sp dvs E ta) σ H ss := fun H1 e Q q =>
  h H1 e _ fun H2 e2 => hs H2 (e.trans e2) Q (fun a H3 vs ha e3 h3 hs3 => q a H3 vs (fresh_back e2 ha) (e2.trans e3) h3 hs3) E
theorem q_asgF {i : Nat} (h : EvF te σ H ss) (k : ∀ a H1 vs, Ex H H1 → H1 a = some (.tup vs) → StepsAt H1 vs ss → tz D (σ.set i (some (.ref a))) H1) : tSeq (tAsg te (gName i)) tz D σ H :=
  h H (Ex.refl H) _ fun a H1 vs _ e h1 h2 => k a H1 vs e h1 h2
theorem q_asgP {i : Nat} (P : V → Hp → Prop) (h : ∀ Q : VK, (∀ v H1, Ex H H1 → P v H1 → Q v H1) → te σ H Q) (k : ∀ v H1, Ex H H1 → P v H1 → tz D (σ.set i (some v)) H1) : tSeq (tAsg te (gName i)) tz D σ H := h _ k
theorem s_retF (h : EvF te σ H ss) (k : RetF ss H D.rt) : tRet te D σ H := h H (Ex.refl H) _ k
theorem ev_neFF (ha : EvF ta σ H ss) (hb : EvF tb σ H ss) (hs : ∀ s ∈ ss, OkS s) : Ev (tOp (rNeD K) ta tb) σ H (.bl false) := fun H1 e Q q =>
  ha H1 e _ fun p H2 vs _ e2 hp hv => hb H2 (e.trans e2) _ fun p2 H3 ws _ e3 hp2 hw =>
    rv_neS (H := H3) (d := foD ss) (.tup (st_of (e3 _ _ hp)) (hv.mono e3).dp) (.tup (st_of hp2) hw.dp) (sh_form hs) H3 (Ex.refl _) Q fun H4 e4 => q H4 ((e2.trans e3).trans e4)
theorem ev_eqF {p : Addr} (h : H p = some (.tup vs)) (hv : StepsAt H vs ss) (ha : Ev ta σ H (.ref p)) (hb : EvF tb σ H ss) (hs : ∀ s ∈ ss, OkS s) : Ev (tOp (rEqD K) ta tb) σ H (.bl true) := fun H1 e Q q =>
  ha H1 e _ fun H2 e2 => hb H2 (e.trans e2) _ fun p2 H3 ws _ e3 hp2 hw =>
    rv_eqS (H := H3) (d := foD ss) (.tup (st_of (((e.trans e2).trans e3) _ _ h)) (hv.mono ((e.trans e2).trans e3)).dp) (.tup (st_of hp2) hw.dp) (sh_form hs) H3 (Ex.refl _) Q fun H4 e4 => q H4 ((e2.trans e3).trans e4)
/-- a call whose argument is a new formula -/
theorem ev_callF {sp : Sp} {dvs ws : List V} {E : XK} {tr : TA} (h1 : EvF te σ H ss) (h2 : EvA tr σ H ws) (hs : ∀ p H1 us, Ex H H1 → H1 p = some (.tup us) → StepsAt H1 us ss → SpV sp (.ref p :: ws ++ dvs) H1 z) : Ev (tCall sp dvs E (tCons te tr)) σ H z := fun H1 e Q q =>
  h1 H1 e _ fun p H2 us np e2 hp hu => h2 H2 (e.trans e2) _ fun H3 e3 => hs p H3 us ((e.trans e2).trans e3) (e3 _ _ hp) (hu.mono e3) H3 (Ex.refl H3) Q (fun H4 e4 => q H4 ((e2.trans e3).trans e4)) E
theorem rc_isiI {i : Int} : RC (rIsi K) [.int i, .ty "int"] H (.bl true) := fun H1 e _ q =>
  ⟨.int i, .ty "int", .type "int", .type "int", true, rfl, .ty _, .base (.int i), kit_ty (by decide +kernel), q H1 (Ex.refl H1)⟩
theorem rc_isiIB {i : Int} : RC (rIsi K) [.int i, .ty "bool"] H (.bl false) := fun H1 e _ q =>
  ⟨.int i, .ty "bool", .type "int", .type "bool", false, rfl, .ty _, .base (.int i), kit_ty (by decide +kernel), q H1 (Ex.refl H1)⟩
theorem rc_lenT {p : Addr} {xs : List V} (h : SqT K H p xs) : RC (fun xs H Q => ∃ x n, xs = [x] ∧ LenV K x H n ∧ Q (.int n) H) [.ref p] H (.int (xs.length : Int)) := fun H1 e _ q =>
  ⟨.ref p, (xs.length : Nat), rfl, .inr ⟨_, ex_t e h, rfl⟩, q H1 (Ex.refl H1)⟩
theorem cut1 (xs : List V) : cutV xs (some 1) none = xs.drop 1 := by
  unfold cutV
  rw [show HT.sIx xs.length 0 (some 1) = min 1 xs.length from HT.sIx_nat xs.length 0 1, HT.sIx_none]
  cases xs with
  | nil => rfl
  | cons x r =>
    rw [show min 1 (x :: r).length = 1 by
      rw [List.length_cons]
      omega]
    show (List.take ((x :: r).length - 1) r) = r
    rw [List.length_cons, Nat.add_sub_cancel]
    exact List.take_length
/-- t[1:] of a tuple that is not empty -/
theorem eu_tail {a : Addr} {xs : List V} (h : Ev te σ H (.ref a)) (hx : SqT K H a (y :: xs)) : EvU (tSl (rSlT K) te (tPart (tC (.int 1))) tNoPart) σ H xs := fun H1 e Q q =>
  h H1 e _ fun H2 e2 => ⟨1, rfl, a, y :: xs, rfl, ex_t (e.trans e2) hx, fun z => by
    have z1 : HT.sIx (y :: xs).length 0 (some 1) = min 1 (y :: xs).length := HT.sIx_nat (y :: xs).length 0 1
    have z2 := z.1
    rw [z1, List.length_cons] at z2
    omega, fun p hp => by
    have e3 : cutV (y :: xs) (some 1) none = xs := cut1 (y :: xs)
    rw [e3]
    exact q p _ (fresh_back e2 hp) (e2.trans (Ex.new hp)) upd_same⟩
/-- for over a new tuple -/
theorem s_forNT {xs : List V} (h : EvU tl σ H xs) (Pv : Addr → Nat → L2.St → Hp → Prop) (h0 : ∀ p H1, H p = none → Ex H H1 → H1 p = some (.tup xs) → Pv p 0 σ H1) (hl : ∀ p i σ' H', i ≤ xs.length → Pv p i σ' H' → SqT K H' p xs)
    (hs : ∀ p i x σ' H', xs[i]? = some x → Pv p i σ' H' → g x σ' H' fun σ2 H2 => tu { D with nx := Pv p (i + 1), ct := Pv p (i + 1), bk := D.nx } σ2 H2) (hd : ∀ p σ' H', Pv p xs.length σ' H' → D.nx σ' H') : tFor (iTup K tl) g tu D σ H :=
  h H (Ex.refl H) _ fun p H1 hp e h1 => ⟨p, rfl, ⟨xs, st_of h1⟩, for_tup (Pv p) (h0 p H1 hp e h1) (hl p) (hs p) (hd p)⟩
theorem q_forNT {xs : List V} (h : EvU tl σ H xs) (Pv : Addr → Nat → L2.St → Hp → Prop) (h0 : ∀ p H1, H p = none → Ex H H1 → H1 p = some (.tup xs) → Pv p 0 σ H1) (hl : ∀ p i σ' H', i ≤ xs.length → Pv p i σ' H' → SqT K H' p xs)
    (hs : ∀ p i x σ' H', xs[i]? = some x → Pv p i σ' H' → g x σ' H' fun σ2 H2 => tu { D with nx := Pv p (i + 1), ct := Pv p (i + 1), bk := tz D } σ2 H2) (hd : ∀ p σ' H', Pv p xs.length σ' H' → tz D σ' H') : tSeq (tFor (iTup K tl) g tu) tz D σ H :=
  s_forNT (D := { D with nx := tz D }) h Pv h0 hl hs hd
/-- for i, x in enumerate(t) -/
theorem q_forET {a : Addr} {xs : List V} {ta : TA} (h : EvA ta σ H [.ref a]) (hx : SqT K H a xs) (Pv : Nat → L2.St → Hp → Prop) (h0 : ∀ H1, Ex H H1 → Pv 0 σ H1) (hG : ∀ i σ' H', i ≤ xs.length → Pv i σ' H' → SqT K H' a xs)
    (hs : ∀ i x σ' H' T, xs[i]? = some x → Pv i σ' H' → H' T = none → g (.ref T) σ' (upd H' T (.tup [.int (i : Nat), x])) fun σ2 H2 => tu { D with nx := Pv (i + 1), ct := Pv (i + 1), bk := tz D } σ2 H2) (hd : ∀ σ' H', Pv xs.length σ' H' → tz D σ' H') :
    tSeq (tFor (iEnumT K ta) g tu) tz D σ H := h H (Ex.refl H) _ fun H1 e => by
  have wk : Walk (Iet K a) xs.length (fun H => SqT K H a xs) (YPair (fun i => some (.int (i : Nat))) (fun i => xs[i]?)) := by
    refine ⟨fun i _ hi q => ⟨xs, xs[i], q, by simp [hi]⟩, fun _ q => ⟨xs, q, Nat.le_refl _⟩, fun i H v H' _ q y => ?_⟩
    obtain ⟨T, x, h1, h2, h3, h4⟩ := y
    exact ⟨T, .int (i : Nat), x, h1, h2, h3, rfl, h4 xs q⟩
  refine ⟨a, xs, rfl, ex_t e hx, for_it (D := { D with nx := tz D }) wk Pv (h0 H1 e) hG (fun i x σ' H' H'' hi p y => ?_) hd⟩
  obtain ⟨T, x1, x2, rfl, hT, rfl, e1, e2⟩ := y
  cases Option.some.inj e1
  exact hs i x2 σ' H' T e2 p hT
/-- [e for x in a new tuple], e told -/
theorem el_mapNT {xs : List V} {j : Nat} {vs : List Nat} (fv : Nat → V) (h : EvU tl σ H xs) (hz : xs.length ≤ 40000) (hw : ∀ x, wipe ((wipe σ vs).set j (some x)) vs = wipe σ vs)
    (he : ∀ (i : Nat) (x : V) H1, Ex H H1 → xs[i]? = some x → Ev te ((wipe σ vs).set j (some x)) H1 (fv i)) :
    EvL (tLc (iTup K tl) (gName j) tYes te vs) σ H (given xs.length (fun _ => true) fv) := fun H0 e Q q => h H0 e _ fun a H1 ha e1 hx => ⟨a, rfl, ⟨xs, st_of hx⟩, fun Dl hD =>
  lc_tup (xs := xs) (Cw H1 (fun _ => true) fv Dl) ⟨hD, Ex.new hD, upd_same⟩ (fun i H' _ p => st_of (p.2.1 a _ hx)) (fun i x H' hi p => ⟨hw x, cw_turn p (by have := (List.getElem?_eq_some_iff.mp hi).1; omega) (fun H3 _ Q3 q3 => q3 H3 (Ex.refl H3)) (fun hf => he i x H1 (e.trans e1) hi)⟩)
    (fun H' p => q Dl H' (fresh_back e1 p.1) (e1.trans p.2.1) p.2.2)⟩
theorem given_all (n : Nat) (fv : Nat → V) : given n (fun _ => true) fv = (List.range n).map fv := by
  unfold given
  rw [List.filter_eq_self.mpr (fun _ _ => rfl)]
/-- a formula that grows in a list -/
structure FoAt (H H' : Hp) (l : Addr) (us : List V) (ss : List FStep) : Prop where
  ex : Ex H H'
  at_ : H' l = some (.lst us)
  st : StepsAt H' us ss
theorem FoAt.mono {H H1 H2 : Hp} {l : Addr} {us : List V} (F : FoAt H H1 l us ss) (e : Ex H1 H2) : FoAt H H2 l us ss := ⟨F.ex.trans e, e _ _ F.at_, F.st.mono e⟩
theorem steps_upd {l : Addr} {us zs : List V} {xs : List V} (hl : H l = some (.lst xs)) (h : StepsAt H us ss) : StepsAt (upd H l (.lst zs)) us ss := ⟨h.1, fun i v s a b => by
  obtain ⟨p, r1, r2⟩ := h.2 i v s a b
  refine ⟨p, r1, ?_⟩
  rw [upd_ne (fun z => by rw [z, hl] at r2; cases r2)]
  exact r2⟩
theorem step_upd {l : Addr} {zs : List V} {xs : List V} (hl : H l = some (.lst xs)) (h : StepAt H v s) : StepAt (upd H l (.lst zs)) v s := by
  obtain ⟨p, r1, r2⟩ := h
  refine ⟨p, r1, ?_⟩
  rw [upd_ne (fun z => by rw [z, hl] at r2; cases r2)]
  exact r2
theorem FoAt.push {H H1 H2 : Hp} {l : Addr} {us : List V} (hn : H l = none) (F : FoAt H H1 l us ss) (e : Ex H1 H2) (hs : StepAt H2 v s) : FoAt H (upd H2 l (.lst (us ++ [v]))) l (us ++ [v]) (ss ++ [s]) :=
  ⟨Ex.mut (F.ex.trans e) hn, upd_same, (steps_upd (e _ _ F.at_) (F.st.mono e)).snoc (step_upd (e _ _ F.at_) hs)⟩
/-- steps == [] -/
theorem ev_isEmpty {l : Addr} {us : List V} (hl : H l = some (.lst us)) (hs : StepsAt H us ss) (ho : ∀ s ∈ ss, OkS s) (ha : Ev ta σ H (.ref l)) : Ev (tOp (rEqD K) ta (tLst tNil)) σ H (.bl ss.isEmpty) :=
  ev_opL ha (el_lst ea_nil (show 0 ≤ 100000 by decide)) fun p H1 hp e H2 e2 Q q => ⟨.list (ss.map stD), .list [], .lst (sq_of ((e.trans e2) _ _ hl)) (hs.mono (e.trans e2)).dp, .lst (sq_of (e2 _ _ hp)) .nil, sh_list ho, rfl, by
    have e3 : PyData.eqv (.list (ss.map stD)) (.list []) = ss.isEmpty := by cases ss <;> rfl
    rw [e3]
    exact q H2 (Ex.refl _)⟩
theorem cut_take (xs : List V) (m : Nat) : cutV xs none (some (m : Int)) = xs.take m := by
  unfold cutV
  rw [HT.sIx_none, HT.sIx_nat, List.drop_zero, Nat.sub_zero]
  by_cases h : m ≤ xs.length
  · rw [Nat.min_eq_left h]
  · rw [Nat.min_eq_right (by omega), List.take_length, List.take_of_length_le (by omega)]
/-- f + (step,) -/
theorem ef_cat1 {a : Addr} {us : List V} {tt : TA} (ha : H a = some (.tup us)) (hs : StepsAt H us ss) (hne : ss ≠ []) (hl : ss.length ≤ 1000) (h : Ev ta σ H (.ref a)) (ht : EvA tt σ H (stV s)) (hz : s.2.length ≤ 100) : EvF (tOp (rCatT K) ta (tTup (tCons (tTup tt) tNil))) σ H (ss ++ [s]) := fun H1 e Q q =>
  h H1 e _ fun H2 e2 => ht H2 (e.trans e2) _ fun H3 e3 => ⟨by show (stV s).length ≤ sizeLine; exact sz_of (by simp [stV]; omega), fun p hp => ⟨by show 1 ≤ sizeLine; decide, fun r hr => by
    have e4 : Ex H3 (upd H3 p (.tup (stV s))) := Ex.new hp
    have e5 := e4.trans (Ex.new (o := .tup [V.ref p]) hr)
    have e6 := ((e.trans e2).trans e3).trans e5
    refine ⟨a, r, us, [.ref p], rfl, rfl, st_of (e6 _ _ ha), st_of upd_same, fun z => ?_, ?_, (fun z => nomatch z), fun _ c hc => ?_⟩
    · rw [z] at hs
      have := hs.1
      exact hne (List.eq_nil_of_length_eq_zero this.symm)
    · rw [hs.1]
      exact sz_of (by simp; omega)
    · refine q c _ _ (fresh_back ((e2.trans e3).trans e5) hc) (((e2.trans e3).trans e5).trans (Ex.new hc)) upd_same ?_
      exact ((hs.mono e6).snoc ⟨p, rfl, ex_app (Ex.new hr) upd_same⟩).mono (Ex.new hc)⟩⟩
/-- (step,) -/
theorem ef_one {tt : TA} (ht : EvA tt σ H (stV s)) (hz : s.2.length ≤ 100) : EvF (tTup (tCons (tTup tt) tNil)) σ H [s] := fun H1 e Q q =>
  ht H1 e _ fun H3 e3 => ⟨by show (stV s).length ≤ sizeLine; exact sz_of (by simp [stV]; omega), fun p hp => ⟨by show 1 ≤ sizeLine; decide, fun r hr => by
    have e4 : Ex H3 (upd H3 p (.tup (stV s))) := Ex.new hp
    exact q r _ _ (fresh_back (e3.trans e4) hr) ((e3.trans e4).trans (Ex.new hr)) upd_same (.one ⟨p, rfl, ex_app (Ex.new hr) upd_same⟩)⟩⟩
theorem ev_cbF {r : List V → Hp → VK → Prop} {tr : TA} {ws : List V} (h1 : EvF te σ H ss) (h2 : EvA tr σ H ws) (hr : ∀ p H1 us, H1 p = some (.tup us) → Ex H H1 → RC r (.ref p :: ws) H1 z) : Ev (tCB r (tCons te tr)) σ H z := fun H1 e Q q =>
  h1 H1 e _ fun p H2 us np e2 hp hu => h2 H2 (e.trans e2) _ fun H3 e3 => hr p H3 us (e3 _ _ hp) ((e.trans e2).trans e3) H3 (Ex.refl _) Q fun H4 e4 => q H4 ((e2.trans e3).trans e4)
theorem yes_go {A B : Hp → Prop} (h : A H) : tYes σ H fun b H3 => if b = true then A H3 else B H3 := by
  show (if true = true then A H else B H)
  rw [if_pos rfl]
  exact h
theorem at0 (st : FStep) : atI (stV st) 0 = some (.str st.1) := atI_nat (j := 0) rfl
end
end Fm

/-! Own data: values of drawn kinds, told by what a formula's judge asks of them. -/
namespace Kn
open PySem PySem.Spec PyProof.Rows L2 Evl Cm Et Fm

inductive Kd where
  | int (i : Int)
  | str (x : Str)
  | bl
  | oth
  | tup (ks : List Kd)
def WS : List Str := ["number", "pi", "add", "subtract", "times", "divide", "root", "sine", "cosine", "exp", "log", "arctan", "arcsine", "arccosine", "", "power", "Add"]
mutual
inductive Kn (H : Hp) : V → Kd → Prop
  | non : Kn H .non .oth
  | bl (b : Bool) : Kn H (.bl b) .bl
  | int (i : Int) : Kn H (.int i) (.int i)
  | str {x : Str} (h : x ∈ WS) : Kn H (.str x) (.str x)
  | lst {a : Addr} {xs : List V} (h : H a = some (.lst xs)) : Kn H (.ref a) .oth
  | dK {a : Addr} {kvs : List (Key × V)} (h : H a = some (.dK kvs)) : Kn H (.ref a) .oth
  | tup {a : Addr} {xs : List V} {ks : List Kd} (h : H a = some (.tup xs)) (hz : xs.length ≤ 1000) (hs : KnAll H xs ks) : Kn H (.ref a) (.tup ks)
inductive KnAll (H : Hp) : List V → List Kd → Prop
  | nil : KnAll H [] []
  | cons {v : V} {vs : List V} {k : Kd} {ks : List Kd} : Kn H v k → KnAll H vs ks → KnAll H (v :: vs) (k :: ks)
end
/-- what a turn may change: a list's items -/
structure Stab (H H' : Hp) : Prop where
  tup : ∀ a xs, H a = some (.tup xs) → H' a = some (.tup xs)
  lst : ∀ a xs, H a = some (.lst xs) → ∃ ys, H' a = some (.lst ys)
  dK : ∀ a kvs, H a = some (.dK kvs) → H' a = some (.dK kvs)
theorem Stab.ex {H H' : Hp} (e : Ex H H') : Stab H H' := ⟨fun a xs h => e _ _ h, fun a xs h => ⟨xs, e _ _ h⟩, fun a kvs h => e _ _ h⟩
theorem Stab.upd {H : Hp} {l : Addr} {xs ys : List V} (h : H l = some (.lst xs)) : Stab H (upd H l (.lst ys)) := by
  refine ⟨fun a zs h2 => ?_, fun a zs h2 => ?_, fun a zs h2 => ?_⟩
  · rw [upd_ne (fun z => by rw [z, h] at h2; cases h2)]
    exact h2
  · by_cases e : a = l
    · subst e
      exact ⟨ys, upd_same⟩
    · rw [upd_ne e]
      exact ⟨zs, h2⟩
  · rw [upd_ne (fun z => by rw [z, h] at h2; cases h2)]
    exact h2
theorem Stab.trans {A B C : Hp} (x : Stab A B) (y : Stab B C) : Stab A C := ⟨fun a xs h => y.tup _ _ (x.tup _ _ h), fun a xs h => let ⟨ys, h2⟩ := x.lst _ _ h; y.lst _ _ h2, fun a k h => y.dK _ _ (x.dK _ _ h)⟩
mutual
theorem kn_st {H H' : Hp} (e : Stab H H') : ∀ (v : V) (k : Kd), Kn H v k → Kn H' v k
  | _, _, .non => .non
  | _, _, .bl b => .bl b
  | _, _, .int i => .int i
  | _, _, .str h => .str h
  | _, _, .lst h => let ⟨_, h2⟩ := e.lst _ _ h; .lst h2
  | _, _, .dK h => .dK (e.dK _ _ h)
  | _, _, .tup h hz hs => .tup (e.tup _ _ h) hz (kns_st e _ _ hs)
theorem kns_st {H H' : Hp} (e : Stab H H') : ∀ (vs : List V) (ks : List Kd), KnAll H vs ks → KnAll H' vs ks
  | _, _, .nil => .nil
  | _, _, .cons h t => .cons (kn_st e _ _ h) (kns_st e _ _ t)
end
section
variable {K : PySem.W.Frag} {σ : L2.St} {H H' : Hp} {ta tb tc te tx tl : TE} {t u : TT} {x y z v w : V} {r r' : R2} {D : Ends} {tu tz : TS} {vs ws : List V} {k : Kd} {ks : List Kd}
theorem Kn.ex (h : Kn H v k) (e : Ex H H') : Kn H' v k := kn_st (.ex e) _ _ h
theorem KnAll.ex (h : KnAll H vs ks) (e : Ex H H') : KnAll H' vs ks := kns_st (.ex e) _ _ h
theorem KnAll.len : ∀ {vs : List V} {ks : List Kd}, KnAll H vs ks → vs.length = ks.length
  | _, _, .nil => rfl
  | _, _, .cons _ t => congrArg (· + 1) (KnAll.len t)
theorem KnAll.get : ∀ {vs : List V} {ks : List Kd} {i : Nat} {v : V}, KnAll H vs ks → vs[i]? = some v → ∃ k, ks[i]? = some k ∧ Kn H v k
  | _, _, 0, _, .cons h _, e => by
    cases Option.some.inj e
    exact ⟨_, rfl, h⟩
  | _, _, i + 1, _, .cons _ t, e => KnAll.get (i := i) t e
  | _, _, i, _, .nil, e => by simp at e
/-- of some kind each -/
def Kns (H : Hp) (vs : List V) : Prop := ∀ v ∈ vs, ∃ k, Kn H v k
theorem Kns.all : ∀ {vs : List V}, Kns H vs → ∃ ks, KnAll H vs ks
  | [], _ => ⟨[], .nil⟩
  | v :: vs, h => by
    obtain ⟨k, hk⟩ := h v (.head _)
    obtain ⟨ks, hs⟩ := Kns.all (vs := vs) fun w hw => h w (.tail _ hw)
    exact ⟨k :: ks, .cons hk hs⟩
theorem KnAll.kns : ∀ {vs : List V} {ks : List Kd}, KnAll H vs ks → Kns H vs
  | _, _, .nil => fun v hv => by simp at hv
  | _, _, .cons h t => fun v hv => by
    rcases List.mem_cons.mp hv with rfl | hv
    · exact ⟨_, h⟩
    · exact KnAll.kns t v hv
theorem Kns.st (h : Kns H vs) (e : Stab H H') : Kns H' vs := fun v hv => let ⟨k, hk⟩ := h v hv; ⟨k, kn_st e _ _ hk⟩
theorem Kns.ex (h : Kns H vs) (e : Ex H H') : Kns H' vs := h.st (.ex e)
theorem Kns.nil : Kns H [] := fun v hv => by simp at hv
theorem Kns.cons (h : ∃ k, Kn H v k) (hs : Kns H vs) : Kns H (v :: vs) := fun w hw => by
  rcases List.mem_cons.mp hw with rfl | hw
  · exact h
  · exact hs w hw
theorem Kns.app (h : Kns H vs) (hs : Kns H ws) : Kns H (vs ++ ws) := fun x hx => by
  rcases List.mem_append.mp hx with hx | hx
  · exact h x hx
  · exact hs x hx
theorem Kns.tupK {a : Addr} (h : H a = some (.tup vs)) (hz : vs.length ≤ 1000) (hs : Kns H vs) : ∃ k, Kn H (.ref a) k := by
  obtain ⟨ks, hk⟩ := hs.all
  exact ⟨_, .tup h hz hk⟩
/-! ### what is asked of kinds -/
def isTup : Kd → Bool
  | .tup _ => true
  | _ => false
def isStr : Kd → Bool
  | .str _ => true
  | _ => false
def isInt : Kd → Bool
  | .int _ => true
  | _ => false
def isInt0 : Kd → Bool
  | .int _ => true
  | .bl => true
  | _ => false
def isBl : Kd → Bool
  | .bl => true
  | _ => false
theorem rc_isiG (c : String) (f : Kd → Bool) (h : Kn H v k) (h1 : kitB "NoneType" c = some (f .oth)) (h2 : kitB "list" c = some (f .oth)) (h3 : kitB "dict" c = some (f .oth)) (h4 : kitB "bool" c = some (f .bl)) (h5 : ∀ i, kitB "int" c = some (f (.int i)))
    (h6 : ∀ x, kitB "str" c = some (f (.str x))) (h7 : ∀ ks, kitB "tuple" c = some (f (.tup ks))) : RC (rIsi K) [v, .ty c] H (.bl (f k)) := fun H1 e _ q => by
  replace h := h.ex e
  cases h with
  | non => exact ⟨_, .ty c, .type "NoneType", .type c, _, rfl, .ty _, .base .non, kit_ty h1, q H1 (Ex.refl H1)⟩
  | bl b => exact ⟨_, .ty c, .type "bool", .type c, _, rfl, .ty _, .base (.bl b), kit_ty h4, q H1 (Ex.refl H1)⟩
  | int i => exact ⟨_, .ty c, .type "int", .type c, _, rfl, .ty _, .base (.int i), kit_ty (h5 i), q H1 (Ex.refl H1)⟩
  | str h => exact ⟨_, .ty c, .type "str", .type c, _, rfl, .ty _, .base (.str _), kit_ty (h6 _), q H1 (Ex.refl H1)⟩
  | lst h => exact ⟨_, .ty c, .type "list", .type c, _, rfl, .ty _, .base (.lst h), kit_ty h2, q H1 (Ex.refl H1)⟩
  | dK h => exact ⟨_, .ty c, .type "dict", .type c, _, rfl, .ty _, .base (.dK h), kit_ty h3, q H1 (Ex.refl H1)⟩
  | tup h hz hs => exact ⟨_, .ty c, .type "tuple", .type c, _, rfl, .ty _, .base (.tup h), kit_ty (h7 _), q H1 (Ex.refl H1)⟩
theorem rc_isTup (h : Kn H v k) : RC (rIsi K) [v, .ty "tuple"] H (.bl (isTup k)) := rc_isiG "tuple" isTup h (by decide +kernel) (by decide +kernel) (by decide +kernel) (by decide +kernel) (fun _ => by show kitB "int" "tuple" = some false; decide +kernel) (fun _ => by show kitB "str" "tuple" = some false; decide +kernel) (fun _ => by show kitB "tuple" "tuple" = some true; decide +kernel)
theorem rc_isStr (h : Kn H v k) : RC (rIsi K) [v, .ty "str"] H (.bl (isStr k)) := rc_isiG "str" isStr h (by decide +kernel) (by decide +kernel) (by decide +kernel) (by decide +kernel) (fun _ => by show kitB "int" "str" = some false; decide +kernel) (fun _ => by show kitB "str" "str" = some true; decide +kernel) (fun _ => by show kitB "tuple" "str" = some false; decide +kernel)
theorem rc_isInt0 (h : Kn H v k) : RC (rIsi K) [v, .ty "int"] H (.bl (isInt0 k)) := rc_isiG "int" isInt0 h (by decide +kernel) (by decide +kernel) (by decide +kernel) (by decide +kernel) (fun _ => by show kitB "int" "int" = some true; decide +kernel) (fun _ => by show kitB "str" "int" = some false; decide +kernel) (fun _ => by show kitB "tuple" "int" = some false; decide +kernel)
theorem rc_isBl (h : Kn H v k) : RC (rIsi K) [v, .ty "bool"] H (.bl (isBl k)) := rc_isiG "bool" isBl h (by decide +kernel) (by decide +kernel) (by decide +kernel) (by decide +kernel) (fun _ => by show kitB "int" "bool" = some false; decide +kernel) (fun _ => by show kitB "str" "bool" = some false; decide +kernel) (fun _ => by show kitB "tuple" "bool" = some false; decide +kernel)
theorem isInt_eq (k : Kd) : (isInt0 k && !isBl k) = isInt k := by cases k <;> rfl
/-! ### the judge -/
def CNT : List (Str × Nat) := [("number", 2), ("pi", 0), ("add", 2), ("subtract", 2), ("times", 2), ("divide", 2), ("root", 1), ("sine", 1), ("cosine", 1), ("exp", 1), ("log", 1), ("arctan", 1), ("arcsine", 1), ("arccosine", 1)]
def cnt (x : Str) : Option Nat := (CNT.find? fun p => decide (p.1 = x)).map (·.2)
def inR (place : Nat) : Kd → Bool
  | .int i => !(decide (i < 0) || decide ((place : Int) ≤ i))
  | _ => false
def numOk : List Kd → Bool
  | [_, .int q] => decide (1 ≤ q)
  | _ => false
def stepK (place : Nat) : Kd → Bool
  | .tup (.str x :: r) => match cnt x with
    | none => false
    | some c => decide (r.length = c) && (r.all isInt && (if x = "number" then numOk r else r.all (inR place)))
  | _ => false
def FormP (k : Kd) : Prop := ∃ ks, k = .tup ks ∧ ks ≠ [] ∧ ∀ (j : Nat) s, ks[j]? = some s → stepK j s = true
open Classical in
noncomputable def formK (k : Kd) : Bool := decide (FormP k)
theorem formT (h : FormP k) : formK k = true := @decide_eq_true _ (Classical.propDecidable _) h
theorem formF (h : ¬ FormP k) : formK k = false := @decide_eq_false _ (Classical.propDecidable _) h
theorem formT_of (hn : ks ≠ []) (h : ∀ (j : Nat) s, ks[j]? = some s → stepK j s = true) : formK (.tup ks) = true := formT ⟨ks, rfl, hn, h⟩
theorem formF_at {j : Nat} {s : Kd} (h : ks[j]? = some s) (hs : stepK j s = false) : formK (.tup ks) = false := formF fun ⟨ks2, e, _, h2⟩ => by
  cases e
  rw [h2 j s h] at hs
  cases hs
theorem formF_nil : formK (.tup []) = false := formF fun ⟨ks2, e, hn, _⟩ => by
  cases e
  exact hn rfl
theorem formF_not (h : isTup k = false) : formK k = false := formF fun ⟨ks2, e, hn, _⟩ => by
  subst e
  cases h
theorem stepF_not (p : Nat) (h : isTup k = false) : stepK p k = false := by
  cases k with
  | tup ks => cases h
  | _ => rfl
theorem stepF_str (p : Nat) {s : Kd} {r : List Kd} (h : isStr s = false) : stepK p (.tup (s :: r)) = false := by
  cases s with
  | str x => cases h
  | _ => rfl
theorem all_true {f : Kd → Bool} (h : ∀ (j : Nat) s, ks[j]? = some s → f s = true) : ks.all f = true := List.all_eq_true.mpr fun s hs => by
  obtain ⟨j, hj⟩ := List.getElem?_of_mem hs
  exact h j s hj
theorem all_false {f : Kd → Bool} {j : Nat} {s : Kd} (h : ks[j]? = some s) (hf : f s = false) : ks.all f = false := by
  rw [List.all_eq_false]
  exact ⟨s, List.mem_of_getElem? h, by rw [hf]; exact Bool.false_ne_true⟩
/-! ### a tuple == () -/
def rEqE : R2 := fun x y H Q => ∃ a b xs, x = .ref a ∧ y = .ref b ∧ H a = some (.tup xs) ∧ H b = some (.tup []) ∧ Q (.bl xs.isEmpty) H
theorem tup_get {X : Cx} {pins : List (Addr × Obj)} {σ : L2.St} {H : Hp} {s : Shared} (I : Inv X pins σ H s) {a : Addr} {xs : List V} (h : H a = some (.tup xs)) : ∃ its : List Value, Vals xs its ∧ s.heap.IsTuple a its.toArray := by
  obtain ⟨_, its, rv, o, h1, h2, n, h3⟩ := (show ObjOk X.prog X.w H s.heap a (.tup xs) from I.hok a _ h)
  exact ⟨its, rv, o, h1, h2, n, h3⟩
theorem op_eqE {X : Cx} (hu : X.A.units + 64 < cLine) : OpR X (compareOp .Eq) rEqE := by
  intro pins s σ H x y v u Q I rx ry h
  obtain ⟨a, b, xs, rfl, rfl, ha, hb, q⟩ := h
  cases (show v = Value.ref a from rx)
  cases (show u = Value.ref b from ry)
  obtain ⟨us, r1, p1⟩ := tup_get I ha
  obtain ⟨ws, r2, p2⟩ := tup_get I hb
  have e2 : ws = [] := by
    cases r2
    rfl
  subst e2
  have hl := r1.length
  refine SeqAt.rcIn_tuples (e := fun _ => true) p1 p2 (by omega) (fun j h1 h2 => by simp at h2) ?_
  refine ⟨.bl xs.isEmpty, H, I, ?_, q⟩
  cases xs with
  | nil =>
    cases r1
    rfl
  | cons y r =>
    cases r1
    rfl
theorem ev_eqE {a : Addr} (h : H a = some (.tup vs)) (ha : Ev ta σ H (.ref a)) : Ev (tOp rEqE ta (tTup tNil)) σ H (.bl vs.isEmpty) :=
  ev_opU ha (eu_tup ea_nil (show 0 ≤ 100000 by decide)) fun p H1 hp e H2 e2 Q q => ⟨a, p, vs, rfl, rfl, (e.trans e2) _ _ h, e2 _ _ hp, q H2 (Ex.refl _)⟩
/-! ### values of some kind come back -/
def RetK (H : Hp) (Q : VK) : Prop := ∀ v H2, Ex H H2 → (∃ k, Kn H2 v k) → Q v H2
def EvK (te : TE) (σ : L2.St) (H : Hp) : Prop := ∀ H1, Ex H H1 → ∀ Q : VK, RetK H1 Q → te σ H1 Q
def EvKs (n : Nat) (t : TA) (σ : L2.St) (H : Hp) : Prop := ∀ H1, Ex H H1 → ∀ Q : List V → Hp → Prop, (∀ vs H2, Ex H1 H2 → Kns H2 vs → vs.length = n → Q vs H2) → t σ H1 Q
theorem RetK.go {Q : VK} (q : RetK H Q) (e : Ex H H') : RetK H' Q := fun v H2 e2 h => q v H2 (e.trans e2) h
theorem ek_c (h : ∀ H', ∃ k, Kn H' v k) : EvK (tC v) σ H := fun H1 e Q q => q v H1 (Ex.refl H1) (h H1)
theorem ek_ev (h : Ev te σ H v) (hk : ∃ k, Kn H v k) : EvK te σ H := fun H1 e Q q => h H1 e _ fun H2 e2 => q v H2 e2 (let ⟨k, hk⟩ := hk; ⟨k, hk.ex (e.trans e2)⟩)
theorem ek_int {i : Int} (h : Ev te σ H (.int i)) : EvK te σ H := fun H1 e Q q => h H1 e _ fun H2 e2 => q _ H2 e2 ⟨_, .int i⟩
theorem eks_nil : EvKs 0 tNil σ H := fun H1 e Q q => q [] H1 (Ex.refl H1) Kns.nil rfl
theorem eks_cons {n : Nat} {tr : TA} (h : EvK te σ H) (hr : EvKs n tr σ H) : EvKs (n + 1) (tCons te tr) σ H := fun H1 e Q q =>
  h H1 e _ fun v H2 e2 hv => hr H2 (e.trans e2) _ fun vs H3 e3 hs hl => q (v :: vs) H3 (e2.trans e3) (Kns.cons (let ⟨k, hk⟩ := hv; ⟨k, hk.ex e3⟩) hs) (by rw [List.length_cons, hl])
theorem ek_tup {n : Nat} {tr : TA} (h : EvKs n tr σ H) (hn : n ≤ 1000) : EvK (tTup tr) σ H := fun H1 e Q q =>
  h H1 e _ fun vs H2 e2 hs hl => ⟨sz_of (by omega), fun p hp => q (.ref p) _ (e2.trans (Ex.new hp)) (Kns.tupK upd_same (by omega) (hs.ex (Ex.new hp)))⟩
theorem ek_lst {n : Nat} {tr : TA} (h : EvKs n tr σ H) (hn : n ≤ 100000) : EvK (tLst tr) σ H := fun H1 e Q q =>
  h H1 e _ fun vs H2 e2 hs hl => ⟨sz_of (by omega), fun p hp => q (.ref p) _ (e2.trans (Ex.new hp)) ⟨_, .lst upd_same⟩⟩
theorem ek_dict : EvK tDNewK σ H := fun H1 e Q q p hp => q (.ref p) _ (Ex.new hp) ⟨_, .dK upd_same⟩
/-- a menu's item -/
theorem ek_menu {n : Nat} {tr : TA} {i : Int} (h : EvKs n tr σ H) (hn : n ≤ 100000) (hi : Ev te σ H (.int i)) (h0 : 0 ≤ i ∧ i < n) : EvK (tOp (rIxL K) (tLst tr) te) σ H := fun H1 e Q q =>
  h H1 e _ fun vs H2 e2 hs hl => ⟨sz_of (by omega), fun p hp => hi _ ((e.trans e2).trans (Ex.new hp)) _ fun H3 e3 => by
    obtain ⟨j, hj⟩ := Int.eq_ofNat_of_zero_le h0.1
    have hj2 : j < vs.length := by omega
    refine ⟨p, vs, i, vs[j], rfl, rfl, sq_of (e3 _ _ upd_same), ?_, q _ _ ((e2.trans (Ex.new hp)).trans e3) ?_⟩
    · rw [hj]
      exact atI_nat (List.getElem?_eq_getElem hj2)
    · obtain ⟨k, hk⟩ := hs _ (List.getElem_mem hj2)
      exact ⟨k, hk.ex ((Ex.new hp).trans e3)⟩⟩
theorem q_asgK {i : Nat} (h : EvK te σ H) (k : ∀ v H1, Ex H H1 → (∃ k, Kn H1 v k) → tz D (σ.set i (some v)) H1) : tSeq (tAsg te (gName i)) tz D σ H := h H (Ex.refl H) _ k
theorem s_asgK {i : Nat} (h : EvK te σ H) (k : ∀ v H1, Ex H H1 → (∃ k, Kn H1 v k) → D.nx (σ.set i (some v)) H1) : tAsg te (gName i) D σ H := h H (Ex.refl H) _ k
/-- a formula's step is of its kind -/
theorem knInts : ∀ (is : List Int), KnAll H (is.map V.int) (is.map Kd.int)
  | [] => .nil
  | i :: r => .cons (.int i) (knInts r)
theorem w2_ws : ∀ x ∈ W2, x ∈ WS := w2_all ⟨by simp [WS], by simp [WS], by simp [WS], by simp [WS]⟩
theorem w1_ws : ∀ x ∈ W1, x ∈ WS := w1_all ⟨by simp [WS], by simp [WS], by simp [WS], by simp [WS], by simp [WS], by simp [WS], by simp [WS], by simp [WS]⟩
theorem kn_step {n : Nat} {s : FStep} {a : Addr} (hs : OkStep n s) : KnAll H (stV s) (.str s.1 :: s.2.map Kd.int) := by
  refine .cons (.str ?_) (knInts _)
  rcases hs with ⟨p, q, rfl, _⟩ | rfl | ⟨w, i, j, hw, rfl, h1, h2⟩ | ⟨w, i, hw, rfl, h1⟩
  · simp [WS]
  · simp [WS]
  · exact w2_ws w hw
  · exact w1_ws w hw
/-- tuples of values of some kind -/
def Tups (H : Hp) (vs : List V) : Prop := ∀ v ∈ vs, ∃ a xs, v = .ref a ∧ H a = some (.tup xs) ∧ Kns H xs ∧ xs.length ≤ 100
theorem Tups.kns (h : Tups H vs) : Kns H vs := fun v hv => by
  obtain ⟨a, xs, rfl, h1, h2, h3⟩ := h v hv
  exact Kns.tupK h1 (by omega) h2
theorem Tups.st (h : Tups H vs) (e : Stab H H') : Tups H' vs := fun v hv => by
  obtain ⟨a, xs, rfl, h1, h2, h3⟩ := h v hv
  exact ⟨a, xs, rfl, e.tup _ _ h1, h2.st e, h3⟩
theorem Kns.eraseIdx (h : Kns H vs) (i : Nat) : Kns H (vs.eraseIdx i) := fun v hv => h v (List.mem_of_mem_eraseIdx hv)
theorem Kns.set (h : Kns H vs) (i : Nat) (hv : ∃ k, Kn H v k) : Kns H (vs.set i v) := fun x hx => by
  rcases List.mem_or_eq_of_mem_set hx with hx | rfl
  · exact h x hx
  · exact hv
theorem Tups.set (h : Tups H vs) (i : Nat) {a : Addr} {xs : List V} (h1 : H a = some (.tup xs)) (h2 : Kns H xs) (h3 : xs.length ≤ 100) : Tups H (vs.set i (.ref a)) := fun x hx => by
  rcases List.mem_or_eq_of_mem_set hx with hx | rfl
  · exact h x hx
  · exact ⟨a, xs, rfl, h1, h2, h3⟩
/-- the head and the rest of a tuple's items -/
theorem KnAll.split : ∀ {vs : List V} {s : Kd} {r : List Kd}, KnAll H vs (s :: r) → ∃ v ws, vs = v :: ws ∧ Kn H v s ∧ KnAll H ws r
  | _, _, _, .cons h t => ⟨_, _, rfl, h, t⟩
theorem kn_tup (h : Kn H v k) (ht : isTup k = true) : ∃ a xs ks, v = .ref a ∧ k = .tup ks ∧ H a = some (.tup xs) ∧ KnAll H xs ks ∧ xs.length ≤ 1000 := by
  cases h with
  | tup h hz hs => exact ⟨_, _, _, rfl, rfl, h, hs, hz⟩
  | _ => cases ht
theorem kn_str (h : Kn H v k) (ht : isStr k = true) : ∃ x, v = .str x ∧ k = .str x ∧ x ∈ WS := by
  cases h with
  | str h => exact ⟨_, rfl, rfl, h⟩
  | _ => cases ht
theorem kn_int (h : Kn H v k) (ht : isInt k = true) : ∃ i, v = .int i ∧ k = .int i := by
  cases h with
  | int i => exact ⟨i, rfl, rfl⟩
  | _ => cases ht
theorem KnAll.nil_of (h : KnAll H vs []) : vs = [] := by
  cases h
  rfl
theorem stepK_none {p : Nat} {x : Str} {r : List Kd} (h : cnt x = none) : stepK p (.tup (.str x :: r)) = false := by
  show (match cnt x with | none => false | some c => decide (r.length = c) && (r.all isInt && (if x = "number" then numOk r else r.all (inR p)))) = false
  rw [h]
theorem stepK_some {p c : Nat} {x : Str} {r : List Kd} (h : cnt x = some c) : stepK p (.tup (.str x :: r)) = (decide (r.length = c) && (r.all isInt && (if x = "number" then numOk r else r.all (inR p)))) := by
  show (match cnt x with | none => false | some c => decide (r.length = c) && (r.all isInt && (if x = "number" then numOk r else r.all (inR p)))) = _
  rw [h]
theorem cnt_number : cnt "number" = some 2 := by decide +kernel
theorem cnt_pi : cnt "pi" = some 0 := by decide +kernel
theorem cnt_w2 : ∀ x ∈ W2, cnt x = some 2 := w2_all ⟨by decide +kernel, by decide +kernel, by decide +kernel, by decide +kernel⟩
theorem cnt_w1 : ∀ x ∈ W1, cnt x = some 1 := w1_all ⟨by decide +kernel, by decide +kernel, by decide +kernel, by decide +kernel, by decide +kernel, by decide +kernel, by decide +kernel, by decide +kernel⟩
/-- the words there are -/
theorem ws_cases {x : Str} (h : x ∈ WS) : x = "number" ∨ x = "pi" ∨ x ∈ W2 ∨ x ∈ W1 ∨ x = "" ∨ x = "power" ∨ x = "Add" := by
  unfold WS at h
  unfold W2 W1
  simp only [List.mem_cons, List.not_mem_nil, or_false] at h ⊢
  rcases h with h | h | h | h | h | h | h | h | h | h | h | h | h | h | h | h | h <;> simp [h]
theorem cnt_e : cnt "" = none := by decide +kernel
theorem cnt_power : cnt "power" = none := by decide +kernel
theorem cnt_Add : cnt "Add" = none := by decide +kernel
theorem ek_call {sp : Sp} {dvs ws : List V} {E : XK} {ta : TA} (h : EvA ta σ H ws) (hs : ∀ H1, Ex H H1 → ∀ Q : VK, RetK H1 Q → ∀ E : XK, sp (ws ++ dvs) H1 Q E) : EvK (tCall sp dvs E ta) σ H := fun H1 e Q q =>
  h H1 e _ fun H2 e2 => hs H2 (e.trans e2) Q (q.go e2) E
/-- xs[i] = e, e of some kind -/
theorem s_setK {l : Addr} {xs : List V} {j : Nat} (hl : H l = some (.lst xs)) (h : EvK te σ H) (ho : Ev ta σ H (.ref l)) (hi : Ev tb σ H (.int (j : Int))) (hj : j < xs.length) (k : ∀ v H1, Ex H H1 → (∃ k, Kn H1 v k) → D.nx σ (upd H1 l (.lst (xs.set j v)))) :
    tAsg te (gSub ta tb rSetL) D σ H := h H (Ex.refl H) _ fun v H1 e1 hv => ho H1 e1 _ fun H2 e2 => hi H2 (e1.trans e2) _ fun H3 e3 =>
  ⟨l, xs, (j : Int), j, rfl, rfl, ((e1.trans e2).trans e3) l _ hl, ixN_nat hj, k v H3 ((e1.trans e2).trans e3) (let ⟨k, hk⟩ := hv; ⟨k, hk.ex (e2.trans e3)⟩)⟩
theorem q_setU {l : Addr} {xs ys : List V} {j : Nat} (hl : H l = some (.lst xs)) (h : EvU te σ H ys) (ho : Ev ta σ H (.ref l)) (hi : Ev tb σ H (.int (j : Int))) (hj : j < xs.length) (k : ∀ p H1, Ex H H1 → H1 p = some (.tup ys) → tz D σ (upd H1 l (.lst (xs.set j (.ref p))))) :
    tSeq (tAsg te (gSub ta tb rSetL)) tz D σ H := h H (Ex.refl H) _ fun p H1 _ e1 hp => ho H1 e1 _ fun H2 e2 => hi H2 (e1.trans e2) _ fun H3 e3 =>
  ⟨l, xs, (j : Int), j, rfl, rfl, ((e1.trans e2).trans e3) l _ hl, ixN_nat hj, k p H3 ((e1.trans e2).trans e3) ((e2.trans e3) _ _ hp)⟩
theorem seqIx {j n : Nat} (h : j < n) : seqIndex? (j : Int) n = some j := by
  unfold seqIndex?
  have h1 : ¬ ((j : Int) < 0) := by omega
  simp [h1, h]
/-- xs.pop(i) -/
theorem s_popAt {l : Addr} {xs : List V} {j : Nat} (hl : H l = some (.lst xs)) (ha : Ev ta σ H (.ref l)) (hi : Ev te σ H (.int (j : Int))) (hj : j < xs.length) (hz : xs.length ≤ 1000) (k : ∀ H1, Ex H H1 → D.nx σ (upd H1 l (.lst (xs.eraseIdx j)))) :
    tDrop (tBM K "list" rPopAt ta (tCons te tNil)) D σ H := ha H (Ex.refl H) _ fun H1 e1 =>
  ⟨Or.inl ⟨rfl, xs, sq_of (e1 l _ hl)⟩, hi H1 e1 _ fun H2 e2 => ⟨l, xs, (j : Int), j, xs[j], rfl, rfl, e2 l _ (e1 l _ hl), by omega, by omega, seqIx hj, List.getElem?_eq_getElem hj, k H2 (e1.trans e2)⟩⟩
/-- tuple(xs), xs a list -/
theorem eu_tuple {l : Addr} {xs : List V} (ha : Ev ta σ H (.ref l)) (h : SqL K H l xs) : EvU (tCB (fun xs H Q => ∃ p ys, xs = [.ref p] ∧ ((SqL K H p ys ∧ ∀ l, H l = none → Q (.ref l) (upd H l (.tup ys))) ∨ (SqT K H p ys ∧ Q (.ref p) H))) (tCons ta tNil)) σ H xs := fun H1 e Q q =>
  ha H1 e _ fun H2 e2 => ⟨l, xs, rfl, .inl ⟨ex_l (e.trans e2) h, fun r hr => q r _ (fresh_back e2 hr) (e2.trans (Ex.new hr)) upd_same⟩⟩
theorem el_listT {l : Addr} {xs : List V} (ha : Ev ta σ H (.ref l)) (h : SqT K H l xs) : EvL (tCB (rListS K) (tCons ta tNil)) σ H xs := fun H1 e Q q =>
  ha H1 e _ fun H2 e2 => ⟨l, xs, rfl, Or.inr (ex_t (e.trans e2) h), fun l hl => q l _ (fresh_back e2 hl) (e2.trans (Ex.new hl)) upd_same⟩
/-- steps != [] -/
theorem ev_isFull {l : Addr} {us : List V} {ss : List FStep} (hl : H l = some (.lst us)) (hs : StepsAt H us ss) (ho : ∀ s ∈ ss, OkS s) (ha : Ev ta σ H (.ref l)) : Ev (tOp (rNeD K) ta (tLst tNil)) σ H (.bl (!ss.isEmpty)) :=
  ev_opL ha (el_lst ea_nil (show 0 ≤ 100000 by decide)) fun p H1 hp e H2 e2 Q q => ⟨.list (ss.map stD), .list [], .lst (sq_of ((e.trans e2) _ _ hl)) (hs.mono (e.trans e2)).dp, .lst (sq_of (e2 _ _ hp)) .nil, sh_list ho, rfl, by
    have e3 : PyData.eqv (.list (ss.map stD)) (.list []) = ss.isEmpty := by cases ss <;> rfl
    rw [e3]
    exact q H2 (Ex.refl _)⟩
theorem tups_of {us : List V} {ss : List FStep} (h : StepsAt H us ss) (ho : OkForm ss) : Tups H us := fun v hv => by
  obtain ⟨i, hi⟩ := List.getElem?_of_mem hv
  obtain ⟨s, hs, p, rfl, hp⟩ := h.get hi
  have ok := ho i s hs
  have kk := kn_step (H := H) (a := p) ok
  refine ⟨p, stV s, rfl, hp, kk.kns, ?_⟩
  rcases ok with ⟨p0, q0, rfl, h⟩ | rfl | ⟨x, i, j, hx, rfl, h1, h2⟩ | ⟨x, i, hx, rfl, h1⟩ <;> simp [stV]
/-- tuple([list(x) for x in xs]) -/
theorem ek_lists {l : Addr} {us : List V} {i j : Nat} (hl : H l = some (.lst us)) (ht : Tups H us) (hz : us.length ≤ 100) (h2 : σ[i]? = some (some (.ref l))) (hw : ∀ x, wipe ((wipe σ [j]).set j (some x)) [j] = wipe σ [j]) (hj : ∀ x, ((wipe σ [j]).set j (some x))[j]? = some (some x)) :
    EvK (tCB (fun xs H Q => ∃ p ys, xs = [.ref p] ∧ ((SqL K H p ys ∧ ∀ l, H l = none → Q (.ref l) (upd H l (.tup ys))) ∨ (SqT K H p ys ∧ Q (.ref p) H))) (tCons (tLc (iList K (tVar i)) (gName j) tYes (tCB (rListS K) (tCons (tVar j) tNil)) [j]) tNil)) σ H := fun H1 e Q q =>
  ⟨.ref l, h2, l, rfl, ⟨us, sq_of (e _ _ hl)⟩, fun Dl hD =>
    lc_list (xs := us) (fun n H' => Ex H1 H' ∧ ∃ acc, H' Dl = some (.lst acc) ∧ Kns H' acc ∧ acc.length = n) ⟨Ex.new hD, [], upd_same, Kns.nil, rfl⟩ (fun n H' _ p => sq_of (p.1 _ _ (e _ _ hl))) (fun n x H' hx p => by
      obtain ⟨e2, acc, hacc, hk, hn⟩ := p
      have hn2 := (List.getElem?_eq_some_iff.mp hx).1
      obtain ⟨a, xs, rfl, ha, hxs, hxl⟩ := ht x (List.mem_of_getElem? hx)
      refine ⟨hw _, yes_go ⟨.ref a, hj _, a, xs, rfl, .inr (st_of ((e.trans e2) _ _ ha)), fun l3 hl3 => ⟨acc, Ex.new hl3 _ _ hacc, sz_lt (by omega), ?_, acc ++ [.ref l3], upd_same, ?_, by rw [List.length_append, hn]; rfl⟩⟩⟩
      · exact Ex.mut (e2.trans (Ex.new hl3)) hD
      · have hD3 : (upd H' l3 (.lst xs)) Dl = some (.lst acc) := Ex.new hl3 _ _ hacc
        exact ((hk.ex (Ex.new hl3)).app (Kns.cons ⟨_, .lst upd_same⟩ Kns.nil)).st (Stab.upd hD3)) (fun H' p => by
      obtain ⟨e2, acc, hacc, hk, hn⟩ := p
      exact ⟨Dl, acc, rfl, .inl ⟨sq_of hacc, fun r hr => q (.ref r) _ (e2.trans (Ex.new hr)) (Kns.tupK upd_same (by omega) (hk.ex (Ex.new hr)))⟩⟩)⟩
end
end Kn


namespace K06
open PySem PySem.Spec PyProof.Rows L2 Evl Cm Et Fm Kn
def topS (i : Nat) : Stmt := PySem.Challenge.pw_portolan_k06_formulas_told.main.body.getD i (.Pass ⟨0, 0, 0, 0⟩)
abbrev s_is_integer : Stmt := topS 1
theorem sc_is_integer : FnScope ["value"] ["value"] (defScope s_is_integer) := ⟨rfl, rfl, rfl, by decide +kernel, rfl, by decide +kernel, by decide +kernel⟩
abbrev s_are_integers : Stmt := topS 2
theorem sc_are_integers : FnScope ["values", "value"] ["values"] (defScope s_are_integers) := ⟨rfl, rfl, rfl, by decide +kernel, rfl, by decide +kernel, by decide +kernel⟩
abbrev s_is_formula : Stmt := topS 5
theorem sc_is_formula : FnScope ["value", "place", "step"] ["value"] (defScope s_is_formula) := ⟨rfl, rfl, rfl, by decide +kernel, rfl, by decide +kernel, by decide +kernel⟩
abbrev s_is_step : Stmt := topS 6
theorem sc_is_step : FnScope ["step", "place", "word", "index"] ["step", "place"] (defScope s_is_step) := ⟨rfl, rfl, rfl, by decide +kernel, rfl, by decide +kernel, by decide +kernel⟩
abbrev s_law_cell : Stmt := topS 8
theorem sc_law_cell : FnScope ["script", "k"] ["script", "k"] (defScope s_law_cell) := ⟨rfl, rfl, rfl, by decide +kernel, rfl, by decide +kernel, by decide +kernel⟩
abbrev s_law_numbers : Stmt := topS 9
theorem sc_law_numbers : FnScope ["script", "first", "most", "found", "at", "cell", "k", "mixed"] ["script", "first", "most"] (defScope s_law_numbers) := ⟨rfl, rfl, rfl, by decide +kernel, rfl, by decide +kernel, by decide +kernel⟩
abbrev s_law_is_integer : Stmt := topS 10
theorem sc_law_is_integer : FnScope ["actual"] ["actual"] (defScope s_law_is_integer) := ⟨rfl, rfl, rfl, by decide +kernel, rfl, by decide +kernel, by decide +kernel⟩
abbrev s_law_formula : Stmt := topS 11
theorem sc_law_formula : FnScope ["numbers", "most", "steps", "figure", "kind", "a", "i", "j"] ["numbers", "most"] (defScope s_law_formula) := ⟨rfl, rfl, rfl, by decide +kernel, rfl, by decide +kernel, by decide +kernel⟩
abbrev s_law_odd : Stmt := topS 12
theorem sc_law_odd : FnScope ["figure", "values"] ["figure"] (defScope s_law_odd) := ⟨rfl, rfl, rfl, by decide +kernel, rfl, by decide +kernel, by decide +kernel⟩
abbrev s_law_is_formula : Stmt := topS 13
theorem sc_law_is_formula : FnScope ["value", "k", "step", "item", "pair", "single"] ["value"] (defScope s_law_is_formula) := ⟨rfl, rfl, rfl, by decide +kernel, rfl, by decide +kernel, by decide +kernel⟩
abbrev s_law : Stmt := topS 14
theorem sc_law : FnScope ["script", "digit", "steps", "way", "pick", "value", "at", "item", "place", "step", "actual"] ["script"] (defScope s_law) := ⟨rfl, rfl, rfl, by decide +kernel, rfl, by decide +kernel, by decide +kernel⟩
section
variable {P : Program} {w : World} {K : PySem.W.Frag} {mg : Str → Option Value} {base : Heap}
/-! ### the program: is_formula of values of any kind -/
def spInteger : Sp := fun vs H Q _ => ∃ (v : V) (k : Kd), vs = [v] ∧ Kn H v k ∧ RetV (.bl (isInt k)) H Q
theorem ok_integer {f : Addr} {fd : FuncData} (F : Fun K "is_integer" "is_integer" s_is_integer f fd) (m_isinstance : mg "isinstance" = none) (m_int : mg "int" = none) (m_bool : mg "bool" = none) : FnOk P w K mg base CX0 1 f fd ["value"] spInteger := by
  refine F.ok sc_is_integer (fun vs H Q E h => ?_) (fun cdv A outer s H vs Q E hr h => ?_)
  · obtain ⟨v, k, rfl, _⟩ := h
    rfl
  · obtain ⟨v, k, rfl, hk, q⟩ := h
    refine ⟨_, (pss_one (ps_ret (pe_and (pe_callB call_isi (by rfl) m_isinstance (by decide +kernel) (pa_cons (pv 0) (pa_cons (pe_bltn (by rfl) m_int (by decide +kernel) (show RelV (.ty "int") _ from rfl)) pa_nil))) (pe_one (pe_not (pe_callB call_isi (by rfl) m_isinstance (by decide +kernel) (pa_cons (pv 0) (pa_cons (pe_bltn (by rfl) m_bool (by decide +kernel) (show RelV (.ty "bool") _ from rfl)) pa_nil)))))))), ?_⟩
    exact s_ret (ev_is (ev_andV (ev_cb (ea_cons (ev_var rfl) (ea_cons ev_c ea_nil)) (rc_isInt0 (K := K) hk)) fun _ => ev_notV (ev_cb (ea_cons (ev_var rfl) (ea_cons ev_c ea_nil)) (rc_isBl (K := K) hk))) (congrArg V.bl (isInt_eq k))) q
theorem ok_linteger {f : Addr} {fd : FuncData} (F : Fun K "_law_is_integer" "_law_is_integer" s_law_is_integer f fd) (m_isinstance : mg "isinstance" = none) (m_int : mg "int" = none) (m_bool : mg "bool" = none) : FnOk P w K mg base CX0 1 f fd ["actual"] spInteger := by
  refine F.ok sc_law_is_integer (fun vs H Q E h => ?_) (fun cdv A outer s H vs Q E hr h => ?_)
  · obtain ⟨v, k, rfl, _⟩ := h
    rfl
  · obtain ⟨v, k, rfl, hk, q⟩ := h
    refine ⟨_, (pss_one (ps_ret (pe_and (pe_callB call_isi (by rfl) m_isinstance (by decide +kernel) (pa_cons (pv 0) (pa_cons (pe_bltn (by rfl) m_int (by decide +kernel) (show RelV (.ty "int") _ from rfl)) pa_nil))) (pe_one (pe_not (pe_callB call_isi (by rfl) m_isinstance (by decide +kernel) (pa_cons (pv 0) (pa_cons (pe_bltn (by rfl) m_bool (by decide +kernel) (show RelV (.ty "bool") _ from rfl)) pa_nil)))))))), ?_⟩
    exact s_ret (ev_is (ev_andV (ev_cb (ea_cons (ev_var rfl) (ea_cons ev_c ea_nil)) (rc_isInt0 (K := K) hk)) fun _ => ev_notV (ev_cb (ea_cons (ev_var rfl) (ea_cons ev_c ea_nil)) (rc_isBl (K := K) hk))) (congrArg V.bl (isInt_eq k))) q
def spInts : Sp := fun vs H Q _ => ∃ (a : Addr) (xs : List V) (ks : List Kd), vs = [.ref a] ∧ H a = some (.tup xs) ∧ KnAll H xs ks ∧ RetV (.bl (ks.all isInt)) H Q
theorem ok_ints {f f0 : Addr} {fd fd0 : FuncData} (F : Fun K "are_integers" "are_integers" s_are_integers f fd) (F_is_integer : Fun K "is_integer" "is_integer" s_is_integer f0 fd0) (b_is_integer : Binds K fd0 ["value"] []) (g_is_integer : mg "is_integer" = some (.ref f0))
    (m_isinstance : mg "isinstance" = none) (m_int : mg "int" = none) (m_bool : mg "bool" = none) : FnOk P w K mg base CX0 2 f fd ["values"] spInts := by
  have G_is_integer : FnOk P w K mg base CX0 1 f0 fd0 _ spInteger := ok_integer F_is_integer m_isinstance m_int m_bool
  refine F.ok sc_are_integers (fun vs H Q E h => ?_) (fun cdv A outer s H vs Q E hr h => ?_)
  · obtain ⟨a, xs, ks, rfl, _⟩ := h
    rfl
  · obtain ⟨a, xs, ks, rfl, ht, hk, q⟩ := h
    refine ⟨_, (pss_cons (ps_for PassesOwn.never rfl (pi_tup (pv 0)) (pg_name (i := 1) sc_are_integers.nd rfl (.inl rfl)) (pss_one (ps_if (pt_not (pt_val (pe_call G_is_integer (hr.mono (by decide)) (by rfl) g_is_integer F_is_integer.kp b_is_integer .nil pass0 (pa_cons (pv 1) pa_nil)))) (pss_one (ps_ret pe_bl)) pss_nil)))
        (pss_one (ps_ret pe_bl))), ?_⟩
    refine q_forT (ev_var rfl) (st_of ht) (fun i σ' H' => ∃ x, σ' = [some (.ref a), x] ∧ Ex H H' ∧ ∀ (j : Nat) s, j < i → ks[j]? = some s → isInt s = true) (fun H1 e1 => ⟨_, rfl, e1, fun j s hj => absurd hj (Nat.not_lt_zero j)⟩) (fun i σ' H' _ p => ?_) (fun i x σ' H' hx p => ?_) (fun σ' H' p => ?_)
    · obtain ⟨x, rfl, e, _⟩ := p
      exact st_of (e _ _ ht)
    · obtain ⟨x1, rfl, e, hall⟩ := p
      obtain ⟨s, hs, kn⟩ := hk.get hx
      show tIfS _ _ tNext _ [some (.ref a), some x] H'
      refine s_when (b := !isInt s) (et_not (et_B (ev_call (z := .bl (isInt s)) (ea_cons (ev_var rfl) ea_nil) (fun H1 e1 Q1 q1 E1 => ⟨x, s, rfl, kn.ex (e.trans e1), q1⟩)))) (fun hb H1 e1 => ?_) fun hb H1 e1 => ⟨_, rfl, e.trans e1, fun j y hj hy => ?_⟩
      · refine s_ret ev_c fun H2 e2 => ?_
        have h2 := q H2 ((e.trans e1).trans e2)
        rw [all_false hs (by simpa using hb)] at h2
        exact h2
      · by_cases hji : j < i
        · exact hall j y hji hy
        · have : j = i := by omega
          subst this
          rw [hs] at hy
          cases Option.some.inj hy
          simpa using hb
    · obtain ⟨x, rfl, e, hall⟩ := p
      refine s_ret ev_c fun H1 e1 => ?_
      have h2 := q H1 (e.trans e1)
      rw [all_true fun j s hj => hall j s (by
        have h3 := (List.getElem?_eq_some_iff.mp hj).1
        rw [hk.len]
        exact h3) hj] at h2
      exact h2
/-- the counts behind the words, as the top has written them -/
structure Counts (K : PySem.W.Frag) (w : World) (d : Addr) : Prop where
  dict : ∃ es n, KDict K w d es n
  cnum : ∃ t, PySem.W.nsIn K d "number" = some (some (.int 2 t))
  cpi : ∃ t, PySem.W.nsIn K d "pi" = some (some (.int 0 t))
  c2 : ∀ x ∈ W2, ∃ t, PySem.W.nsIn K d x = some (some (.int 2 t))
  c1 : ∀ x ∈ W1, ∃ t, PySem.W.nsIn K d x = some (some (.int 1 t))
structure Nots (K : PySem.W.Frag) (d : Addr) : Prop where
  n0 : PySem.W.nsIn K d "" = some none
  n1 : PySem.W.nsIn K d "power" = some none
  n2 : PySem.W.nsIn K d "Add" = some none
theorem Counts.of {d : Addr} (C : Counts K w d) (N : Nots K d) {x : Str} (h : x ∈ WS) : (∃ (c : Nat) (t : Tok), cnt x = some c ∧ PySem.W.nsIn K d x = some (some (.int (c : Int) t))) ∨ (cnt x = none ∧ PySem.W.nsIn K d x = some none) := by
  rcases ws_cases h with rfl | rfl | h | h | rfl | rfl | rfl
  · obtain ⟨t, h⟩ := C.cnum
    exact .inl ⟨2, t, cnt_number, h⟩
  · obtain ⟨t, h⟩ := C.cpi
    exact .inl ⟨0, t, cnt_pi, h⟩
  · obtain ⟨t, h2⟩ := C.c2 x h
    exact .inl ⟨2, t, cnt_w2 x h, h2⟩
  · obtain ⟨t, h2⟩ := C.c1 x h
    exact .inl ⟨1, t, cnt_w1 x h, h2⟩
  · exact .inr ⟨cnt_e, N.n0⟩
  · exact .inr ⟨cnt_power, N.n1⟩
  · exact .inr ⟨cnt_Add, N.n2⟩
def spIsStep : Sp := fun vs H Q _ => ∃ (v : V) (k : Kd) (p : Nat), vs = [v, .int (p : Int)] ∧ Kn H v k ∧ RetV (.bl (stepK p k)) H Q
theorem ok_isstep {f f0 f1 d : Addr} {fd fd0 fd1 : FuncData} (F : Fun K "is_step" "is_step" s_is_step f fd) (F_is_integer : Fun K "is_integer" "is_integer" s_is_integer f0 fd0) (b_is_integer : Binds K fd0 ["value"] []) (g_is_integer : mg "is_integer" = some (.ref f0))
    (F_are_integers : Fun K "are_integers" "are_integers" s_are_integers f1 fd1) (b_are_integers : Binds K fd1 ["values"] []) (g_are_integers : mg "are_integers" = some (.ref f1)) (g_COUNTS : mg "COUNTS" = some (.ref d)) (C : Counts K w d) (N : Nots K d)
    (m_isinstance : mg "isinstance" = none) (m_int : mg "int" = none) (m_bool : mg "bool" = none) (m_len : mg "len" = none) (m_tuple : mg "tuple" = none) (m_str : mg "str" = none) : FnOk P w K mg base CX0 3 f fd ["step", "place"] spIsStep := by
  have G_are_integers : FnOk P w K mg base CX0 2 f1 fd1 _ spInts := ok_ints F_are_integers F_is_integer b_is_integer g_is_integer m_isinstance m_int m_bool
  obtain ⟨es, nn, D_COUNTS⟩ := C.dict
  refine F.ok sc_is_step (fun vs H Q E h => ?_) (fun cdv A outer s H vs Q E hr h => ?_)
  · obtain ⟨v, k, p, rfl, _⟩ := h
    rfl
  · obtain ⟨v, k, p, rfl, hk, q⟩ := h
    refine ⟨_, (pss_cons (ps_if (PW.pt (pw_or (pt_not (pt_val (pe_callB call_isi (by rfl) m_isinstance (by decide +kernel) (pa_cons (pv 0) (pa_cons (pe_bltn (by rfl) m_tuple (by decide +kernel) (show RelV (.ty "tuple") _ from rfl)) pa_nil))))) (pw_or (pt_cmpR op_eq (pe_callB call_len (by rfl) m_len (by decide +kernel) (pa_cons (pv 0) pa_nil)) pe_int (nomark _)) (pw_or1 (pt_not (pt_val (pe_callB call_isi (by rfl) m_isinstance (by decide +kernel) (pa_cons (pe_ix ix_tup (pv 0) pe_int (fun _ _ => rfl)) (pa_cons (pe_bltn (by rfl) m_str (by decide +kernel) (show RelV (.ty "str") _ from rfl)) pa_nil))))))))) (pss_one (ps_ret pe_bl)) pss_nil)
        (pss_cons (ps_set (i := 2) sc_is_step.nd rfl (.inl rfl) (pe_ix ix_tup (pv 0) pe_int (fun _ _ => rfl)))
        (pss_cons (ps_if (PW.pt (pw_or (pt_cmpR (op_notIn_kd D_COUNTS) (pv 2) (pe_glob (by rfl) g_COUNTS (show RelV (.ref _) _ from rfl)) (by rfl)) (pw_or (pt_cmpR op_ne (pe_callB call_len (by rfl) m_len (by decide +kernel) (pa_cons (pv 0) pa_nil)) (pe_op op_add (pe_ix ix_kdict (pe_glob (by rfl) g_COUNTS (show RelV (.ref _) _ from rfl)) (pv 2) (fun _ _ => rfl)) pe_int) (nomark _)) (pw_or1 (pt_not (pt_val (pe_call G_are_integers (hr.mono (by decide)) (by rfl) g_are_integers F_are_integers.kp b_are_integers .nil pass0 (pa_cons (pe_slice sl_tup (pv 0) (po_some pe_int) po_none) pa_nil)))))))) (pss_one (ps_ret pe_bl)) pss_nil)
        (pss_cons (ps_if (pt_cmpR op_eq (pv 2) pe_str (nomark _)) (pss_one (ps_ret (pe_cmpR op_ge (pe_ix ix_tup (pv 0) pe_int (fun _ _ => rfl)) pe_int (nomark _)))) pss_nil)
        (pss_cons (ps_for PassesOwn.never rfl (pi_tup (pe_slice sl_tup (pv 0) (po_some pe_int) po_none)) (pg_name (i := 3) sc_is_step.nd rfl (.inl rfl)) (pss_one (ps_if (PW.pt (pw_or (pt_cmpR op_lt (pv 3) pe_int (nomark _)) (pw_or1 (pt_cmpR op_ge (pv 3) (pv 1) (nomark _))))) (pss_one (ps_ret pe_bl)) pss_nil)))
        (pss_one (ps_ret pe_bl))))))), ?_⟩
    have out : ∀ {H1 H2 : Hp}, stepK p k = false → Ex H H1 → Ex H1 H2 → Q (.bl false) H2 := fun h e1 e2 => by
      have h2 := q _ (e1.trans e2)
      rw [h] at h2
      exact h2
    cases ht : isTup k with
    | false =>
      refine q_when (b := true) (et_is (et_or (a := true) (b := true) (et_is (et_not (et_B (ev_cb (ea_cons (ev_var rfl) (ea_cons ev_c ea_nil)) (rc_isTup (K := K) hk)))) (by rw [ht]; rfl)) (fun z => nomatch z)) rfl) (fun _ H1 e1 => s_ret ev_c fun H2 e2 => out (stepF_not p ht) e1 e2) (fun z => nomatch z)
    | true =>
      obtain ⟨a, xs, ks, rfl, rfl, ha, hs, _⟩ := kn_tup hk ht
      cases ks with
      | nil =>
        have hx := hs.nil_of
        subst hx
        refine q_when (b := true) (et_is (et_or (a := false) (b := true) (et_is (et_not (et_B (ev_cb (ea_cons (ev_var rfl) (ea_cons ev_c ea_nil)) (rc_isTup (K := K) hk)))) rfl) fun _ => (et_or (a := true) (b := true) (et_is (et_test (ev_op (ev_cb (ea_cons (ev_var rfl) ea_nil) (rc_lenT (K := K) (st_of ha))) ev_c (rv_eq rfl))) (decide_eq_true rfl)) (fun z => nomatch z))) rfl)
          (fun _ H1 e1 => s_ret ev_c fun H2 e2 => out rfl e1 e2) (fun z => nomatch z)
      | cons s r =>
        obtain ⟨v0, ws, rfl, k0, kr⟩ := hs.split
        have lw : ws.length = r.length := kr.len
        have zlen : decide (V.int ((V.str "" :: ws).length : Int) = V.int 0) = false := decide_eq_false fun z => by
          have h2 := V.int.inj z
          rw [List.length_cons] at h2
          omega
        cases hstr : isStr s with
        | false =>
          refine q_when (b := true) (et_is (et_or (a := false) (b := true) (et_is (et_not (et_B (ev_cb (ea_cons (ev_var rfl) (ea_cons ev_c ea_nil)) (rc_isTup (K := K) hk)))) rfl) fun _ => (et_or (a := false) (b := true) (et_is (et_test (ev_op (ev_cb (ea_cons (ev_var rfl) ea_nil) (rc_lenT (K := K) (st_of ha))) ev_c (rv_eq rfl))) zlen)
            fun _ => (et_is (et_not (et_B (ev_cb (ea_cons (ev_op (ev_var rfl) ev_c (rv_ixT (st_of ha) (atI_nat (j := 0) rfl))) (ea_cons ev_c ea_nil)) (rc_isStr (K := K) k0)))) (by rw [hstr]; rfl)))) rfl) (fun _ H1 e1 => s_ret ev_c fun H2 e2 => out (stepF_str p hstr) e1 e2) (fun z => nomatch z)
        | true =>
          obtain ⟨x, rfl, rfl, hx⟩ := kn_str k0 hstr
          refine q_when (b := false) (et_is (et_or (a := false) (b := false) (et_is (et_not (et_B (ev_cb (ea_cons (ev_var rfl) (ea_cons ev_c ea_nil)) (rc_isTup (K := K) hk)))) rfl) fun _ => (et_or (a := false) (b := false) (et_is (et_test (ev_op (ev_cb (ea_cons (ev_var rfl) ea_nil) (rc_lenT (K := K) (st_of ha))) ev_c (rv_eq rfl))) zlen)
            fun _ => (et_is (et_not (et_B (ev_cb (ea_cons (ev_op (ev_var rfl) ev_c (rv_ixT (st_of ha) (atI_nat (j := 0) rfl))) (ea_cons ev_c ea_nil)) (rc_isStr (K := K) k0)))) rfl))) rfl) (fun z => nomatch z) fun _ H1 e1 => ?_
          replace ha := e1 _ _ ha
          replace kr := kr.ex e1
          -- word
          refine q_asg (ev_op (ev_var rfl) ev_c (rv_ixT (st_of ha) (atI_nat (j := 0) rfl))) fun H2 e2 => ?_
          refine st_is (σ' := [_, _, _, _]) rfl ?_
          replace ha := e2 _ _ ha
          replace kr := kr.ex e2
          have out2 : ∀ {H3 H4 : Hp}, stepK p (.tup (.str x :: r)) = false → Ex H2 H3 → Ex H3 H4 → Q (.bl false) H4 := fun h e3 e4 => out h (e1.trans e2) (e3.trans e4)
          rcases C.of N hx with ⟨c, t, hc, hn⟩ | ⟨hc, hn⟩
          · have kd : KDct K w d x (.int (c : Nat)) := ⟨es, nn, _, D_COUNTS.at_, D_COUNTS.lit, hn, ⟨_, rfl⟩⟩
            have t1 : ∀ {σ : L2.St}, σ[2]? = some (some (.str x)) → EvT (tTest (tOp (fun x y H Q => ∃ (z : Str) (r : Option Value), x = .str z ∧ y = .ref d ∧ PySem.W.nsIn K d z = some r ∧ Q (.bl (!r.isSome)) H) (tVar 2) (tC (.ref d)))) σ H2 false := fun h => et_is (et_test (ev_op (ev_var h) ev_c (show RV _ _ _ _ (.bl false) from fun H3 _ Q3 q3 => ⟨x, _, rfl, rfl, hn, q3 H3 (Ex.refl H3)⟩))) rfl
            by_cases hl : r.length = c
            · cases hall : r.all isInt with
              | false =>
                refine q_when (b := true) (et_is (et_or (a := false) (b := true) (t1 rfl)
                  fun _ => (et_or (a := false) (b := true) (et_is (et_test (ev_op (ev_cb (ea_cons (ev_var rfl) ea_nil) (rc_lenT (K := K) (st_of ha))) (ev_op (ev_op ev_c (ev_var rfl) (show RV (rIxD K w) _ _ _ (.int (c : Nat)) from fun H3 _ Q3 q3 => ⟨d, x, _, rfl, rfl, kd, q3 H3 (Ex.refl H3)⟩)) ev_c rv_I0) (rv_ne rfl))) (by
                      rw [List.length_cons]
                      exact congrArg (fun b => !b) (decide_eq_true (congrArg V.int (by omega)))))
                  fun _ => (et_is (et_not (et_B (ev_callU (z := .bl false) (eu_tail (ev_var rfl) (st_of ha)) ea_nil (fun p1 H3 e3 h3 H4 e4 Q4 q4 E4 => ⟨p1, ws, r, rfl, e4 _ _ h3, kr.ex (e3.trans e4), by rw [hall]; exact q4⟩)))) rfl))) rfl) (fun _ H3 e3 => s_ret ev_c fun H4 e4 => out2 (by rw [stepK_some hc, hall, Bool.false_and, Bool.and_false]) e3 e4) (fun z => nomatch z)
              | true =>
                refine q_when (b := false) (et_is (et_or (a := false) (b := false) (t1 rfl)
                  fun _ => (et_or (a := false) (b := false) (et_is (et_test (ev_op (ev_cb (ea_cons (ev_var rfl) ea_nil) (rc_lenT (K := K) (st_of ha))) (ev_op (ev_op ev_c (ev_var rfl) (show RV (rIxD K w) _ _ _ (.int (c : Nat)) from fun H3 _ Q3 q3 => ⟨d, x, _, rfl, rfl, kd, q3 H3 (Ex.refl H3)⟩)) ev_c rv_I0) (rv_ne rfl))) (by
                      rw [List.length_cons]
                      exact congrArg (fun b => !b) (decide_eq_true (congrArg V.int (by omega)))))
                  fun _ => (et_is (et_not (et_B (ev_callU (z := .bl true) (eu_tail (ev_var rfl) (st_of ha)) ea_nil (fun p1 H3 e3 h3 H4 e4 Q4 q4 E4 => ⟨p1, ws, r, rfl, e4 _ _ h3, kr.ex (e3.trans e4), by rw [hall]; exact q4⟩)))) rfl))) rfl) (fun z => nomatch z) fun _ H3 e3 => ?_
                replace ha := e3 _ _ ha
                replace kr := kr.ex e3
                have eall := (e1.trans e2).trans e3
                have hstep : stepK p (.tup (.str x :: r)) = (if x = "number" then numOk r else r.all (inR p)) := by
                  rw [stepK_some hc, hall, decide_eq_true hl, Bool.true_and, Bool.true_and]
                rw [hstep] at q
                by_cases hnum : x = "number"
                · refine q_when (b := true) (et_is (et_test (ev_op (ev_var rfl) ev_c (rv_eq rfl))) (decide_eq_true (congrArg V.str hnum))) (fun _ H4 e4 => ?_) (fun hb => nomatch hb)
                  rw [hnum, cnt_number] at hc
                  cases Option.some.inj hc
                  rw [if_pos hnum] at q
                  obtain ⟨s1, s2, rfl⟩ : ∃ s1 s2, r = [s1, s2] := by
                    match r, hl with
                    | [s1, s2], _ => exact ⟨s1, s2, rfl⟩
                  obtain ⟨v1, ws1, rfl, k1, kr1⟩ := kr.split
                  obtain ⟨v2, ws2, rfl, k2, kr2⟩ := kr1.split
                  have hall2 := List.all_eq_true.mp hall s2 (by simp)
                  obtain ⟨n2, rfl, rfl⟩ := kn_int k2 hall2
                  exact s_ret (ev_op (ev_op (ev_var rfl) ev_c (rv_ixT (st_of (e4 _ _ ha)) (atI_nat (j := 2) rfl))) ev_c rv_I0) fun H5 e5 => q H5 (eall.trans (e4.trans e5))
                · refine q_when (b := false) (et_is (et_test (ev_op (ev_var rfl) ev_c (rv_eq rfl))) (decide_eq_false fun z => hnum (V.str.inj z))) (fun hb => nomatch hb) (fun _ H4 e4 => ?_)
                  rw [if_neg hnum] at q
                  replace kr := kr.ex e4
                  refine q_forNT (eu_tail (ev_var rfl) (st_of (e4 _ _ ha))) (fun p1 i σ' H' => ∃ y, σ' = [some (.ref a), some (.int (p : Int)), some (.str x), y] ∧ Ex H4 H' ∧ H' p1 = some (.tup ws) ∧ ∀ (j : Nat) s, j < i → r[j]? = some s → inR p s = true) (fun p1 H5 _ e5 h5 => ⟨_, rfl, e5, h5, fun j s hj => absurd hj (Nat.not_lt_zero j)⟩) (fun p1 i σ' H' _ pp => ?_) (fun p1 i y σ' H' hy pp => ?_) (fun p1 σ' H' pp => ?_)
                  · obtain ⟨y, _, _, h5, _⟩ := pp
                    exact st_of h5
                  · obtain ⟨y1, rfl, e5, h5, hin⟩ := pp
                    obtain ⟨s, hs2, kn⟩ := kr.get hy
                    have hi := List.all_eq_true.mp hall s (List.mem_of_getElem? hs2)
                    obtain ⟨n, rfl, rfl⟩ := kn_int kn hi
                    show tIfS _ _ tNext _ [some (.ref a), some (.int (p : Int)), some (.str x), some (.int n)] H'
                    refine s_when (b := decide (n < 0) || decide ((p : Int) ≤ n)) (et_or (et_test (ev_op (ev_var rfl) ev_c rv_I0)) fun _ => (et_test (ev_op (ev_var rfl) (ev_var rfl) rv_I0))) (fun hb H6 e6 => ?_) fun hb H6 e6 => ⟨_, rfl, e5.trans e6, e6 _ _ h5, fun j z hj hz => ?_⟩
                    · refine s_ret ev_c fun H7 e7 => ?_
                      have h2 := q H7 (eall.trans ((e4.trans e5).trans (e6.trans e7)))
                      rw [all_false hs2 (show (!(decide (n < 0) || decide ((p : Int) ≤ n))) = false by rw [hb]; rfl)] at h2
                      exact h2
                    · by_cases hji : j < i
                      · exact hin j z hji hz
                      · have hji2 : j = i := by omega
                        subst hji2
                        rw [hs2] at hz
                        cases Option.some.inj hz
                        show (!(decide (n < 0) || decide ((p : Int) ≤ n))) = true
                        rw [hb]
                        rfl
                  · obtain ⟨y1, rfl, e5, h5, hin⟩ := pp
                    refine s_ret ev_c fun H6 e6 => ?_
                    have h2 := q H6 (eall.trans ((e4.trans e5).trans e6))
                    rw [all_true fun j s hj => hin j s (by
                      have h3 := (List.getElem?_eq_some_iff.mp hj).1
                      rw [lw]
                      exact h3) hj] at h2
                    exact h2
            · refine q_when (b := true) (et_is (et_or (a := false) (b := true) (t1 rfl)
                fun _ => (et_or (a := true) (b := true) (et_is (et_test (ev_op (ev_cb (ea_cons (ev_var rfl) ea_nil) (rc_lenT (K := K) (st_of ha))) (ev_op (ev_op ev_c (ev_var rfl) (show RV (rIxD K w) _ _ _ (.int (c : Nat)) from fun H3 _ Q3 q3 => ⟨d, x, _, rfl, rfl, kd, q3 H3 (Ex.refl H3)⟩)) ev_c rv_I0) (rv_ne rfl))) (by
                    rw [List.length_cons]
                    exact congrArg (fun b => !b) (decide_eq_false fun z => hl (by have := V.int.inj z; omega)))) fun z => nomatch z)) rfl)
                (fun _ H3 e3 => s_ret ev_c fun H4 e4 => out2 (by rw [stepK_some hc, decide_eq_false hl, Bool.false_and]) e3 e4) (fun z => nomatch z)
          · refine q_when (b := true) (et_is (et_or (a := true) (b := true) (et_is (et_test (ev_op (ev_var rfl) ev_c (show RV _ _ _ _ (.bl true) from fun H3 _ Q3 q3 => ⟨x, _, rfl, rfl, hn, q3 H3 (Ex.refl H3)⟩))) rfl) fun z => nomatch z) rfl)
              (fun _ H3 e3 => s_ret ev_c fun H4 e4 => out2 (stepK_none hc) e3 e4) (fun z => nomatch z)
def spIsForm : Sp := fun vs H Q _ => ∃ (v : V) (k : Kd), vs = [v] ∧ Kn H v k ∧ RetV (.bl (formK k)) H Q
theorem ok_isform {f f2 : Addr} {fd fd2 : FuncData} (F : Fun K "is_formula" "is_formula" s_is_formula f fd) (F_is_step : Fun K "is_step" "is_step" s_is_step f2 fd2) (G_is_step : FnOk P w K mg base CX0 3 f2 fd2 ["step", "place"] spIsStep) (b_is_step : Binds K fd2 ["step", "place"] []) (g_is_step : mg "is_step" = some (.ref f2))
    (m_isinstance : mg "isinstance" = none) (m_len : mg "len" = none) (m_tuple : mg "tuple" = none) (m_enumerate : mg "enumerate" = none) : FnOk P w K mg base CX0 4 f fd ["value"] spIsForm := by
  refine F.ok sc_is_formula (fun vs H Q E h => ?_) (fun cdv A outer s H vs Q E hr h => ?_)
  · obtain ⟨v, k, rfl, _⟩ := h
    rfl
  · obtain ⟨v, k, rfl, hk, q⟩ := h
    refine ⟨_, (pss_cons (ps_if (PW.pt (pw_or (pt_not (pt_val (pe_callB call_isi (by rfl) m_isinstance (by decide +kernel) (pa_cons (pv 0) (pa_cons (pe_bltn (by rfl) m_tuple (by decide +kernel) (show RelV (.ty "tuple") _ from rfl)) pa_nil))))) (pw_or1 (pt_cmpR op_eq (pe_callB call_len (by rfl) m_len (by decide +kernel) (pa_cons (pv 0) pa_nil)) pe_int (nomark _))))) (pss_one (ps_ret pe_bl)) pss_nil)
        (pss_cons (ps_for PassesOwn.never rfl (pi_enumT (by rfl) m_enumerate (pa_cons (pv 0) pa_nil)) (pg_tup rfl (pgs_cons (pg_name (i := 1) sc_is_formula.nd rfl (.inl rfl)) (pgs_cons (pg_name (i := 2) sc_is_formula.nd rfl (.inl rfl)) pgs_nil))) (pss_one (ps_if (pt_not (pt_val (pe_call G_is_step (hr.mono (by decide)) (by rfl) g_is_step F_is_step.kp b_is_step .nil pass0 (pa_cons (pv 2) (pa_cons (pv 1) pa_nil))))) (pss_one (ps_ret pe_bl)) pss_nil)))
        (pss_one (ps_ret pe_bl)))), ?_⟩
    have out : ∀ {H1 : Hp}, formK k = false → Ex H H1 → Q (.bl false) H1 := fun h e1 => by
      have h2 := q _ e1
      rw [h] at h2
      exact h2
    cases ht : isTup k with
    | false =>
      refine q_when (b := true) (et_is (et_or (a := true) (b := true) (et_is (et_not (et_B (ev_cb (ea_cons (ev_var rfl) (ea_cons ev_c ea_nil)) (rc_isTup (K := K) hk)))) (by rw [ht]; rfl)) (fun z => nomatch z)) rfl) (fun _ H1 e1 => s_ret ev_c fun H2 e2 => out (formF_not ht) (e1.trans e2)) (fun z => nomatch z)
    | true =>
      obtain ⟨a, xs, ks, rfl, rfl, ha, hs, _⟩ := kn_tup hk ht
      have lx := hs.len
      cases hks : ks with
      | nil =>
        subst hks
        have hx := hs.nil_of
        subst hx
        refine q_when (b := true) (et_is (et_or (a := false) (b := true) (et_is (et_not (et_B (ev_cb (ea_cons (ev_var rfl) (ea_cons ev_c ea_nil)) (rc_isTup (K := K) hk)))) rfl) fun _ => (et_is (et_test (ev_op (ev_cb (ea_cons (ev_var rfl) ea_nil) (rc_lenT (K := K) (st_of ha))) ev_c (rv_eq rfl))) (decide_eq_true rfl))) rfl)
          (fun _ H1 e1 => s_ret ev_c fun H2 e2 => out formF_nil (e1.trans e2)) (fun z => nomatch z)
      | cons s r =>
        have hne : ks ≠ [] := by
          rw [hks]
          exact List.cons_ne_nil _ _
        have hl : 0 < ks.length := List.length_pos_iff.mpr hne
        clear hks
        refine q_when (b := false) (et_is (et_or (a := false) (b := false) (et_is (et_not (et_B (ev_cb (ea_cons (ev_var rfl) (ea_cons ev_c ea_nil)) (rc_isTup (K := K) hk)))) rfl) fun _ => (et_is (et_test (ev_op (ev_cb (ea_cons (ev_var rfl) ea_nil) (rc_lenT (K := K) (st_of ha))) ev_c (rv_eq rfl))) (decide_eq_false fun z => by
            have := V.int.inj z
            omega))) rfl) (fun z => nomatch z) fun _ H1 e1 => ?_
        replace ha := e1 _ _ ha
        replace hs := hs.ex e1
        refine q_forET (ea_cons (ev_var rfl) ea_nil) (st_of ha) (fun i σ' H' => ∃ x y, σ' = [some (.ref a), x, y] ∧ Ex H1 H' ∧ ∀ (j : Nat) s, j < i → ks[j]? = some s → stepK j s = true) (fun H2 e2 => ⟨_, _, rfl, e2, fun j s hj => absurd hj (Nat.not_lt_zero j)⟩) (fun i σ' H' _ pp => ?_) (fun i x σ' H' T hx pp hT => ?_) (fun σ' H' pp => ?_)
        · obtain ⟨x, y, _, e2, _⟩ := pp
          exact st_of (e2 _ _ ha)
        · obtain ⟨x1, y1, rfl, e2, hin⟩ := pp
          obtain ⟨s, hs2, kn⟩ := hs.get hx
          have e3 : Ex H1 (upd H' T (.tup [.int (i : Nat), x])) := e2.trans (Ex.new hT)
          refine ⟨T, [.int (i : Nat), x], rfl, .inl (.inl upd_same), rfl, _, _, rfl, _, _, rfl, rfl, ?_⟩
          show tIfS _ _ tNext _ [some (.ref a), some (.int (i : Nat)), some x] _
          refine s_when (b := !stepK i s) (et_not (et_B (ev_call (z := .bl (stepK i s)) (ea_cons (ev_var rfl) (ea_cons (ev_var rfl) ea_nil)) (fun H5 e5 Q5 q5 E5 => ⟨x, s, i, rfl, kn.ex (e3.trans e5), q5⟩)))) (fun hb H6 e6 => s_ret ev_c fun H7 e7 => out (formF_at hs2 (by simpa using hb)) (e1.trans (e3.trans (e6.trans e7)))) fun hb H6 e6 => ⟨_, _, rfl, e3.trans e6, fun j z hj hz => ?_⟩
          by_cases hji : j < i
          · exact hin j z hji hz
          · have hji2 : j = i := by omega
            subst hji2
            rw [hs2] at hz
            cases Option.some.inj hz
            simpa using hb
        · obtain ⟨x1, y1, rfl, e2, hin⟩ := pp
          refine s_ret ev_c fun H6 e6 => ?_
          have h2 := q H6 (e1.trans (e2.trans e6))
          rw [formT_of hne fun j s hj => hin j s (by
            have h3 := (List.getElem?_eq_some_iff.mp hj).1
            rw [lx]
            exact h3) hj] at h2
          exact h2
/-! ### the law's own defs -/
theorem ok_cell {f : Addr} {fd : FuncData} (F : Fun K "_law_cell" "_law_cell" s_law_cell f fd) (m_len : mg "len" = none) : FnOk P w K mg base CX0 1 f fd ["script", "k"] (spCell K) := by
  refine F.ok sc_law_cell (fun vs H Q E h => ?_) (fun cdv A outer s H vs Q E hr h => ?_)
  · obtain ⟨l, ns, j, rfl, _⟩ := h
    rfl
  · obtain ⟨l, ns, j, rfl, hs, q⟩ := h
    refine ⟨_, (pss_cons (ps_if (pt_cmpR op_lt (pv 1) (pe_callB call_len (by rfl) m_len (by decide +kernel) (pa_cons (pv 0) pa_nil)) (nomark _)) (pss_one (ps_ret (pe_ix ix_list (pv 0) (pv 1) (fun _ _ => rfl)))) pss_nil)
        (pss_one (ps_ret pe_int))), ?_⟩
    refine ⟨_, rfl, _, rfl, .ref l, ((ns.map V.int).length : Nat), rfl, .inl ⟨_, hs, rfl⟩, _, _, rfl, rfl, _, rfl, ite2 (fun e => ?_) (fun e => ?_)⟩
    · have hj : j < ns.length := by
        have := of_decide_eq_true e
        rw [List.length_map] at this
        omega
      exact ⟨_, rfl, _, rfl, l, _, _, _, rfl, rfl, hs, atI_cell hj, q⟩
    · have hj : ¬ j < ns.length := fun z => e (decide_eq_true (by rw [List.length_map]; omega))
      rw [cell_out hj] at q
      exact q
def spNumbers (K : PySem.W.Frag) : Sp := fun vs H Q _ => ∃ (sa : Addr) (ns : List Int) (first most : Nat), vs = [.ref sa, .int (first : Int), .int (most : Int)] ∧ SqL K H sa (ns.map V.int) ∧ ns.length ≤ 63 ∧ first ≤ 10 ∧ most ≤ 100 ∧
  ∀ p H2 (xs : List Int), H p = none → Ex H H2 → H2 p = some (.lst (xs.map V.int)) → (∀ x ∈ xs, 0 ≤ x ∧ x < 4096) → xs.length ≤ most → Q (.ref p) H2
/-- what a turn keeps -/
structure NumAt (H H' : Hp) (l : Addr) (most : Nat) (xs : List Int) : Prop where
  ex : Ex H H'
  at_ : H' l = some (.lst (xs.map V.int))
  all : ∀ x ∈ xs, 0 ≤ x ∧ x < 4096
  len : xs.length ≤ most
theorem NumAt.push {H H1 H2 : Hp} {l : Addr} {most : Nat} {xs : List Int} (hn : H l = none) (N : NumAt H H1 l most xs) (e : Ex H1 H2) {x : Int} (h0 : 0 ≤ x) (h1 : x < 4096) (hl : xs.length < most) : NumAt H (upd H2 l (.lst (xs.map V.int ++ [V.int x]))) l most (xs ++ [x]) :=
  ⟨Ex.mut (N.ex.trans e) hn, by rw [upd_same, List.map_append]; rfl, fun y hy => by
    rcases List.mem_append.mp hy with h | h
    · exact N.all y h
    · rw [List.mem_singleton] at h
      subst h
      exact ⟨h0, h1⟩, by rw [List.length_append]; exact hl⟩
theorem NumAt.mono {H H1 H2 : Hp} {l : Addr} {most : Nat} {xs : List Int} (N : NumAt H H1 l most xs) (e : Ex H1 H2) : NumAt H H2 l most xs := ⟨N.ex.trans e, e _ _ N.at_, N.all, N.len⟩
theorem ok_numbers {f : Addr} {fd : FuncData} (F : Fun K "_law_numbers" "_law_numbers" s_law_numbers f fd) (m_len : mg "len" = none) (m_abs : mg "abs" = none) (m_int : mg "int" = none) (m_range : mg "range" = none) : FnOk P w K mg base CX0 1 f fd ["script", "first", "most"] (spNumbers K) := by
  refine F.ok sc_law_numbers (fun vs H Q E h => ?_) (fun cdv A outer s H vs Q E hr h => ?_)
  · obtain ⟨sa, ns, first, most, rfl, _⟩ := h
    rfl
  · obtain ⟨sa, ns, first, most, rfl, hS, hl, hf, hm, q⟩ := h
    refine ⟨_, (pss_cons (ps_set (i := 3) sc_law_numbers.nd rfl (.inl rfl) (pe_lst pa_nil))
        (pss_cons (ps_for PassesOwn.never rfl (pi_range2 (by rfl) m_range (pa_cons (pv 1) (pa_cons (pe_callB call_len (by rfl) m_len (by decide +kernel) (pa_cons (pv 0) pa_nil)) pa_nil))) (pg_name (i := 4) sc_law_numbers.nd rfl (.inl rfl)) (pss_cons (ps_set (i := 5) sc_law_numbers.nd rfl (.inl rfl) (pe_callB call_abs (by rfl) m_abs (by decide +kernel) (pa_cons (pe_ix ix_list (pv 0) (pv 4) (fun _ _ => rfl)) pa_nil)))
        (pss_one (ps_if (pt_cmpR op_ge (pv 5) pe_int (nomark _)) (pss_one (ps_for PassesOwn.never rfl (pi_range1 (by rfl) m_range (pa_cons pe_int pa_nil)) (pg_name (i := 6) sc_law_numbers.nd rfl (.inl rfl)) (pss_one (ps_if (PW.pt (pw_and (pt_cmpR op_gt (pv 5) pe_int (nomark _)) (pw_and1 (pt_cmpR op_lt (pe_callB call_len (by rfl) m_len (by decide +kernel) (pa_cons (pv 3) pa_nil)) (pv 2) (nomark _))))) (pss_cons (ps_expr (pe_bm PySem.F.plainAttrs_list PySem.F.slot_list_append PySem.F.type_list_append mt_append (pv 3) (pa_cons (pe_op op_mod (pe_callTy call_int1 (by rfl) m_int (by decide +kernel) (pa_cons (pv 5) pa_nil)) pe_int) pa_nil)))
        (pss_one (ps_set (i := 5) sc_law_numbers.nd rfl (.inl rfl) (pe_op op_fdiv (pv 5) pe_int)))) pss_nil)))) (pss_one (ps_if (pt_cmpR op_lt (pe_callB call_len (by rfl) m_len (by decide +kernel) (pa_cons (pv 3) pa_nil)) (pv 2) (nomark _)) (pss_cons (ps_set (i := 7) sc_law_numbers.nd rfl (.inl rfl) (pe_op op_mod (pe_callTy call_int1 (by rfl) m_int (by decide +kernel) (pa_cons (pe_op op_add (pe_op op_add (pe_op op_mulX (pv 5) pe_int) (pe_op op_mulX (pv 4) pe_int)) pe_int) pa_nil)) pe_int))
        (pss_cons (ps_set (i := 7) sc_law_numbers.nd rfl (.inl rfl) (pe_op op_mod (pe_callTy call_int1 (by rfl) m_int (by decide +kernel) (pa_cons (pe_op op_add (pe_op op_mulX (pv 7) pe_int) (pe_op op_fdiv (pv 7) pe_int)) pa_nil)) pe_int))
        (pss_one (ps_expr (pe_bm PySem.F.plainAttrs_list PySem.F.slot_list_append PySem.F.type_list_append mt_append (pv 3) (pa_cons (pe_op op_mod (pe_callTy call_int1 (by rfl) m_int (by decide +kernel) (pa_cons (pv 7) pa_nil)) pe_int) pa_nil)))))) pss_nil))))))
        (pss_one (ps_ret (pv 3))))), ?_⟩
    refine q_asgL (el_lst ea_nil (show 0 ≤ 100000 by decide)) fun l H1 nl e1 hl1 => ?_
    refine st_is (σ' := [_, _, _, _, _, _, _, _]) rfl ?_
    have nl0 : H l = none := nl
    have lenS : ∀ {H' : Hp}, Ex H H' → EvA (tCons (tVar 0) tNil) [some (.ref sa), some (.int (first : Int)), some (.int (most : Int)), some (.ref l), none, none, none, none] H' [.ref sa] := fun _ => ea_cons (ev_var rfl) ea_nil
    refine q_forR2 (lo := (first : Int)) (n := (ns.length : Int)) (ea_cons (ev_var rfl) (ea_cons (ev_is (ev_cb (ea_cons (ev_var rfl) ea_nil) (rc_lenL (ex_l e1 hS))) (congrArg V.int (by rw [List.length_map]))) ea_nil)) ⟨by omega, by omega, by omega, by omega⟩
      (fun i σ' H' => ∃ (x4 x5 x6 x7 : Option V) (xs : List Int), σ' = [some (.ref sa), some (.int (first : Int)), some (.int (most : Int)), some (.ref l), x4, x5, x6, x7] ∧ NumAt H H' l most xs) (fun H2 e2 => ⟨_, _, _, _, [], rfl, ⟨e1.trans e2, e2 _ _ hl1, fun x hx => by simp at hx, Nat.zero_le _⟩⟩) (fun i σ' H' hi pp => ?_) (fun σ' H' pp => ?_)
    · obtain ⟨x4, x5, x6, x7, xs, rfl, N⟩ := pp
      refine st_is (σ' := [_, _, _, _, _, _, _, _]) rfl ?_
      -- cell
      have hix : first + i < ns.length := by omega
      have hat : atI (ns.map V.int) ((first : Int) + (i : Int)) = some (.int (ns.getD (first + i) 0)) := by
        have := atI_cell (ns := ns) (j := first + i) hix
        rw [show ((first + i : Nat) : Int) = (first : Int) + (i : Int) by omega] at this
        exact this
      refine q_asg (ev_cb (ea_cons (ev_op (ev_var rfl) (ev_var rfl) (rv_ixL (ex_l N.ex hS) hat)) ea_nil) rc_abs) fun H2 e2 => ?_
      refine st_is (σ' := [_, _, _, _, _, _, _, _]) rfl ?_
      replace N := N.mono e2
      obtain ⟨c, hc⟩ : ∃ c : Nat, (ns.getD (first + i) 0).natAbs = c := ⟨_, rfl⟩
      rw [hc]
      refine s_if (b := decide ((1000000000000000000 : Int) ≤ (c : Int))) (et_test (ev_op (ev_var rfl) ev_c rv_I0)) (fun hb H3 e3 => ?_) (fun hb H3 e3 => ?_)
      · replace N := N.mono e3
        refine s_forR1 (n := 60) (ea_cons ev_c ea_nil) ⟨by decide, by decide⟩ (fun j σ' H' => ∃ (c5 : Nat) (x6 x7 : Option V) (xs : List Int), σ' = [some (.ref sa), some (.int (first : Int)), some (.int (most : Int)), some (.ref l), some (.int ((first : Int) + (i : Int))), some (.int (c5 : Int)), x6, x7] ∧ NumAt H H' l most xs) (fun H4 e4 => ⟨c, _, _, xs, rfl, N.mono e4⟩) (fun j σ' H' hj pp => ?_) (fun σ' H' pp => ?_)
        · obtain ⟨c5, x6, x7, xs, rfl, N⟩ := pp
          refine st_is (σ' := [_, _, _, _, _, _, _, _]) rfl ?_
          refine s_when (b := decide ((0 : Int) < (c5 : Int)) && decide ((xs.length : Int) < (most : Int))) (et_and (et_test (ev_op (ev_var rfl) ev_c rv_I0)) fun _ => (et_test (ev_op (ev_is (ev_cb (ea_cons (ev_var rfl) ea_nil) (rc_lenL (sq_of N.at_))) (congrArg V.int (by rw [List.length_map]))) (ev_var rfl) rv_I0))) (fun hb H4 e4 => ?_) (fun hb H4 e4 => ⟨c5, _, _, xs, rfl, N.mono e4⟩)
          rw [Bool.and_eq_true] at hb
          have hlt := of_decide_eq_true hb.2
          replace N := N.mono e4
          refine q_app N.at_ (ev_var rfl) (v := .int ((c5 : Int) % 4096)) (ev_op (ev_cb (ea_cons (ev_var rfl) ea_nil) rc_intI) ev_c (rv_I (by decide))) (by rw [List.length_map]; omega) fun H5 e5 => ?_
          have N2 := N.push nl0 e5 (x := (c5 : Int) % 4096) (by omega) (by omega) (by omega)
          refine s_asg (ev_is (ev_op (ev_var rfl) ev_c (rv_I ⟨by decide, by decide⟩)) (congrArg V.int (show (c5 : Int) / 4096 = ((c5 / 4096 : Nat) : Int) by omega))) fun H6 e6 => ⟨c5 / 4096, _, _, _, rfl, N2.mono e6⟩
        · obtain ⟨c5, x6, x7, xs, rfl, N⟩ := pp
          exact ⟨_, _, _, _, xs, rfl, N⟩
      · replace N := N.mono e3
        have hcb : c < 1000000000000000000 := by
          have := of_decide_eq_false hb
          omega
        refine s_when (b := decide ((xs.length : Int) < (most : Int))) (et_test (ev_op (ev_is (ev_cb (ea_cons (ev_var rfl) ea_nil) (rc_lenL (sq_of N.at_))) (congrArg V.int (by rw [List.length_map]))) (ev_var rfl) rv_I0)) (fun hb H4 e4 => ?_) (fun hb H4 e4 => ⟨_, _, _, _, xs, rfl, N.mono e4⟩)
        have hlt := of_decide_eq_true hb
        replace N := N.mono e4
        obtain ⟨m1, hm1, hm2⟩ : ∃ m : Int, ((c : Int) * 48271 + ((first : Int) + (i : Int)) * 69621 + 12345) % 2147483647 = m ∧ (0 ≤ m ∧ m < 2147483647) := ⟨_, rfl, by omega, by omega⟩
        refine q_asg (ev_is (ev_op (ev_cb (ea_cons (ev_op (ev_op (ev_op (ev_var rfl) ev_c (rv_I (mulx_ok (a := 60) (b := 16) (by omega) (by decide) (by decide)))) (ev_op (ev_var rfl) ev_c (rv_I (mulx_ok (a := 10) (b := 17) (by omega) (by decide) (by decide)))) rv_I0) ev_c rv_I0) ea_nil) rc_intI) ev_c (rv_I (by decide))) (congrArg V.int hm1)) fun H5 e5 => ?_
        refine st_is (σ' := [_, _, _, _, _, _, _, _]) rfl ?_
        obtain ⟨m2, hm3, hm4⟩ : ∃ m : Int, (m1 * 69621 + m1 / 1009) % 1000003 = m ∧ (0 ≤ m ∧ m < 1000003) := ⟨_, rfl, by omega, by omega⟩
        refine q_asg (ev_is (ev_op (ev_cb (ea_cons (ev_op (ev_op (ev_var rfl) ev_c (rv_I (mulx_ok (a := 31) (b := 17) (by omega) (by decide) (by decide)))) (ev_op (ev_var rfl) ev_c (rv_I ⟨by decide, by decide⟩)) rv_I0) ea_nil) rc_intI) ev_c (rv_I (by decide))) (congrArg V.int hm3)) fun H6 e6 => ?_
        refine st_is (σ' := [_, _, _, _, _, _, _, _]) rfl ?_
        replace N := N.mono (e5.trans e6)
        refine s_app N.at_ (ev_var rfl) (v := .int (m2 % 4096)) (ev_op (ev_cb (ea_cons (ev_var rfl) ea_nil) rc_intI) ev_c (rv_I (by decide))) (by rw [List.length_map]; omega) fun H7 e7 => ⟨_, _, _, _, _, rfl, N.push nl0 e7 (x := m2 % 4096) (by omega) (by omega) (by omega)⟩
    · obtain ⟨x4, x5, x6, x7, xs, rfl, N⟩ := pp
      refine s_ret (ev_var rfl) fun H3 e3 => q l H3 xs nl0 (N.ex.trans e3) (e3 _ _ N.at_) N.all N.len
def spFormula (K : PySem.W.Frag) : Sp := fun vs H Q _ => ∃ (na : Addr) (nums : List Int) (most : Nat), vs = [.ref na, .int (most : Int)] ∧ SqL K H na (nums.map V.int) ∧ (∀ x ∈ nums, 0 ≤ x ∧ Bd 2000000 x) ∧ 1 ≤ most ∧ most ≤ 100 ∧
  ∀ ss, OkForm ss → ss.length ≤ most → RetF ss H Q
theorem item4 {x y : Int} {i : Int} (h : 0 ≤ i ∧ i < 4) (hx : 1 ≤ x) (hy : 1 ≤ y) : ∃ c : Int, atI [V.int 1, V.int 1, V.int x, V.int y] i = some (.int c) ∧ 1 ≤ c := by
  have h3 : i = 0 ∨ i = 1 ∨ i = 2 ∨ i = 3 := by omega
  rcases h3 with rfl | rfl | rfl | rfl
  · exact ⟨1, rfl, by decide⟩
  · exact ⟨1, rfl, by decide⟩
  · exact ⟨x, rfl, hx⟩
  · exact ⟨y, rfl, hy⟩
theorem itemW2 {i : Int} (h : 0 ≤ i ∧ i < 4) : ∃ x : Str, atI [V.str "add", V.str "subtract", V.str "times", V.str "divide"] i = some (.str x) ∧ x ∈ W2 := by
  have h3 : i = 0 ∨ i = 1 ∨ i = 2 ∨ i = 3 := by omega
  rcases h3 with rfl | rfl | rfl | rfl
  · exact ⟨_, rfl, by simp [W2]⟩
  · exact ⟨_, rfl, by simp [W2]⟩
  · exact ⟨_, rfl, by simp [W2]⟩
  · exact ⟨_, rfl, by simp [W2]⟩
theorem itemW1 {i : Int} (h : 0 ≤ i ∧ i < 8) : ∃ x : Str, atI [V.str "root", V.str "sine", V.str "cosine", V.str "exp", V.str "log", V.str "arctan", V.str "arcsine", V.str "arccosine"] i = some (.str x) ∧ x ∈ W1 := by
  have h3 : i = 0 ∨ i = 1 ∨ i = 2 ∨ i = 3 ∨ i = 4 ∨ i = 5 ∨ i = 6 ∨ i = 7 := by omega
  rcases h3 with rfl | rfl | rfl | rfl | rfl | rfl | rfl | rfl
  · exact ⟨_, rfl, by simp [W1]⟩
  · exact ⟨_, rfl, by simp [W1]⟩
  · exact ⟨_, rfl, by simp [W1]⟩
  · exact ⟨_, rfl, by simp [W1]⟩
  · exact ⟨_, rfl, by simp [W1]⟩
  · exact ⟨_, rfl, by simp [W1]⟩
  · exact ⟨_, rfl, by simp [W1]⟩
  · exact ⟨_, rfl, by simp [W1]⟩
theorem ok_formula {f : Addr} {fd : FuncData} (F : Fun K "_law_formula" "_law_formula" s_law_formula f fd) (m_len : mg "len" = none) (m_max : mg "max" = none) (m_int : mg "int" = none) (m_tuple : mg "tuple" = none) : FnOk P w K mg base CX0 1 f fd ["numbers", "most"] (spFormula K) := by
  refine F.ok sc_law_formula (fun vs H Q E h => ?_) (fun cdv A outer s H vs Q E hr h => ?_)
  · obtain ⟨na, nums, most, rfl, _⟩ := h
    rfl
  · obtain ⟨na, nums, most, rfl, hN, hall, hm1, hm2, q⟩ := h
    refine ⟨_, (pss_cons (ps_set (i := 2) sc_law_formula.nd rfl (.inl rfl) (pe_lst pa_nil))
        (pss_cons (ps_for PassesOwn.never rfl (pi_list (pe_slice sl_list (pv 0) po_none (po_some (pv 1)))) (pg_name (i := 3) sc_law_formula.nd rfl (.inl rfl)) (pss_cons (ps_set (i := 4) sc_law_formula.nd rfl (.inl rfl) (pe_op op_mod (pe_callTy call_int1 (by rfl) m_int (by decide +kernel) (pa_cons (pv 3) pa_nil)) pe_int))
        (pss_cons (ps_set (i := 5) sc_law_formula.nd rfl (.inl rfl) (pe_op op_fdiv (pe_callTy call_int1 (by rfl) m_int (by decide +kernel) (pa_cons (pv 3) pa_nil)) pe_int))
        (pss_cons (ps_set (i := 6) sc_law_formula.nd rfl (.inl rfl) (pe_op op_mod (pe_callTy call_int1 (by rfl) m_int (by decide +kernel) (pa_cons (pv 5) pa_nil)) (pe_callB (call_max2 rfl) (by rfl) m_max (by decide +kernel) (pa_cons pe_int (pa_cons (pe_callB call_len (by rfl) m_len (by decide +kernel) (pa_cons (pv 2) pa_nil)) pa_nil)))))
        (pss_cons (ps_set (i := 7) sc_law_formula.nd rfl (.inl rfl) (pe_op op_mod (pe_op op_fdiv (pv 5) pe_int) (pe_callB (call_max2 rfl) (by rfl) m_max (by decide +kernel) (pa_cons pe_int (pa_cons (pe_callB call_len (by rfl) m_len (by decide +kernel) (pa_cons (pv 2) pa_nil)) pa_nil)))))
        (pss_one (ps_if (PW.pt (pw_or (pt_cmpR op_lt (pv 4) pe_int (nomark _)) (pw_or1 (pt_cmpR (op_eqD hr.units) (pv 2) (pe_lst pa_nil) (nomark _))))) (pss_one (ps_expr (pe_bm PySem.F.plainAttrs_list PySem.F.slot_list_append PySem.F.type_list_append mt_append (pv 2) (pa_cons (pe_tup (pa_cons pe_str (pa_cons (pe_op op_sub (pe_op op_mod (pe_op op_mulX (pe_callTy call_int1 (by rfl) m_int (by decide +kernel) (pa_cons (pv 5) pa_nil)) pe_int) pe_int) pe_int) (pa_cons (pe_ix ix_list (pe_lst (pa_cons pe_int (pa_cons pe_int (pa_cons (pe_op op_add pe_int (pe_op op_mod (pe_op op_fdiv (pv 5) pe_int) pe_int)) (pa_cons (pe_op op_add pe_int (pe_op op_mod (pe_op op_mulX (pe_callTy call_int1 (by rfl) m_int (by decide +kernel) (pa_cons (pv 5) pa_nil)) pe_int) pe_int)) pa_nil))))) (pe_op op_mod (pe_op op_fdiv (pv 5) pe_int) pe_int) (fun _ _ => rfl)) pa_nil)))) pa_nil)))) (pss_one (ps_if (pt_cmpR op_eq (pv 4) pe_int (nomark _)) (pss_one (ps_expr (pe_bm PySem.F.plainAttrs_list PySem.F.slot_list_append PySem.F.type_list_append mt_append (pv 2) (pa_cons (pe_tup (pa_cons pe_str pa_nil)) pa_nil)))) (pss_one (ps_if (pt_cmpR op_lt (pv 4) pe_int (nomark _)) (pss_one (ps_expr (pe_bm PySem.F.plainAttrs_list PySem.F.slot_list_append PySem.F.type_list_append mt_append (pv 2) (pa_cons (pe_tup (pa_cons (pe_ix ix_list (pe_lst (pa_cons pe_str (pa_cons pe_str (pa_cons pe_str (pa_cons pe_str pa_nil))))) (pe_op op_sub (pv 4) pe_int) (fun _ _ => rfl)) (pa_cons (pv 6) (pa_cons (pv 7) pa_nil)))) pa_nil)))) (pss_one (ps_expr (pe_bm PySem.F.plainAttrs_list PySem.F.slot_list_append PySem.F.type_list_append mt_append (pv 2) (pa_cons (pe_tup (pa_cons (pe_ix ix_list (pe_lst (pa_cons pe_str (pa_cons pe_str (pa_cons pe_str (pa_cons pe_str (pa_cons pe_str (pa_cons pe_str (pa_cons pe_str (pa_cons pe_str pa_nil))))))))) (pe_op op_sub (pv 4) pe_int) (fun _ _ => rfl)) (pa_cons (pv 6) pa_nil))) pa_nil)))))))))))))))
        (pss_one (ps_ret (pe_callTy call_tuple_of (by rfl) m_tuple (by decide +kernel) (pa_cons (pv 2) pa_nil)))))), ?_⟩
    refine q_asgL (el_lst ea_nil (show 0 ≤ 100000 by decide)) fun l H1 nl e1 hl1 => ?_
    refine st_is (σ' := [_, _, _, _, _, _, _, _]) rfl ?_
    have hsl := el_sl (σ := [some (.ref na), some (.int (most : Int)), some (.ref l), none, none, none, none, none]) (te := tVar 0) (th := tPart (tVar 1)) (ev_var rfl) eo_none (eo_some (ev_var rfl)) (ex_l e1 hN)
    rw [cut_take, ← List.map_take] at hsl
    have hall2 : ∀ x ∈ nums.take most, 0 ≤ x ∧ Bd 2000000 x := fun x hx => hall x (List.mem_of_mem_take hx)
    have hlen : (nums.take most).length ≤ most := by
      rw [List.length_take]
      omega
    generalize nums.take most = nus at *
    refine q_forNLn hsl (fun p i σ' H' => p ≠ l ∧ H' p = some (.lst (nus.map V.int)) ∧ ∃ (x3 x4 x5 x6 x7 : Option V) (us : List V) (ss : List FStep), σ' = [some (.ref na), some (.int (most : Int)), some (.ref l), x3, x4, x5, x6, x7] ∧ FoAt H H' l us ss ∧ OkForm ss ∧ ss.length = i)
      (fun p H2 hp e2 h2 => ⟨(fun z => by rw [z, hl1] at hp; cases hp), h2, _, _, _, _, _, [], [], rfl, ⟨e1.trans e2, e2 _ _ hl1, .nil⟩, OkForm.nil, rfl⟩) (fun p i σ' H' _ pp => sq_of pp.2.1) (fun p i x σ' H' hx pp => ?_) (fun p σ' H' pp => ?_)
    · obtain ⟨hpl, hp, x3, x4, x5, x6, x7, us, ss, rfl, F, hok, hsl2⟩ := pp
      obtain ⟨n, hn, rfl⟩ : ∃ n, nus[i]? = some n ∧ x = V.int n := by
        rw [List.getElem?_map] at hx
        obtain ⟨n, h1, h2⟩ := Option.map_eq_some_iff.mp hx
        exact ⟨n, h1, h2.symm⟩
      obtain ⟨n0, nb⟩ := hall2 n (List.mem_of_getElem? hn)
      have hi100 : ss.length ≤ 100 := by
        have := (List.getElem?_eq_some_iff.mp hn).1
        omega
      refine st_is (σ' := [_, _, _, _, _, _, _, _]) rfl ?_
      -- kind, a, i, j
      obtain ⟨kd, hkd, hkd2⟩ : ∃ k : Int, n % 16 = k ∧ 0 ≤ k ∧ k < 16 := ⟨_, rfl, by omega, by omega⟩
      refine q_asg (ev_is (ev_op (ev_cb (ea_cons (ev_var rfl) ea_nil) rc_intI) ev_c (rv_I (by decide))) (congrArg V.int hkd)) fun H2 e2 => ?_
      refine st_is (σ' := [_, _, _, _, _, _, _, _]) rfl ?_
      have hab : Bd 2000000 (n / 16) := ab_div (by decide) nb
      obtain ⟨a, ha, ha0⟩ : ∃ a : Int, n / 16 = a ∧ 0 ≤ a := ⟨_, rfl, by omega⟩
      rw [ha] at hab
      refine q_asg (ev_is (ev_op (ev_cb (ea_cons (ev_var rfl) ea_nil) rc_intI) ev_c (rv_I ⟨by decide, by decide⟩)) (congrArg V.int ha)) fun H3 e3 => ?_
      refine st_is (σ' := [_, _, _, _, _, _, _, _]) rfl ?_
      replace F := F.mono (e2.trans e3)
      replace hp := (e2.trans e3) _ _ hp
      obtain ⟨M, hM, hM0, hM1⟩ : ∃ M : Int, max 1 (us.length : Int) = M ∧ 0 < M ∧ (0 < ss.length → M = (ss.length : Int)) := ⟨_, rfl, by omega, by have := F.st.1; omega⟩
      have evM : ∀ {σ : L2.St} {H' : Hp}, σ[2]? = some (some (.ref l)) → Ex H3 H' → Ev (tCB (fun xs H Q => ∃ i j, xs = [.int i, .int j] ∧ Q (.int (if j > i then j else i)) H) (tCons (tC (.int 1)) (tCons (tCB (fun xs H Q => ∃ x n, xs = [x] ∧ LenV K x H n ∧ Q (.int n) H) (tCons (tVar 2) tNil)) tNil))) σ H' (.int M) := fun h e => by
        rw [← hM]
        exact ev_cb (ea_cons ev_c (ea_cons (ev_cb (ea_cons (ev_var h) ea_nil) (rc_lenL (sq_of (e _ _ F.at_)))) ea_nil)) rc_max2
      obtain ⟨ii, hii, hi0, hi1⟩ : ∃ k : Int, a % M = k ∧ 0 ≤ k ∧ k < M := ⟨_, rfl, Int.emod_nonneg _ (by omega), Int.emod_lt_of_pos _ hM0⟩
      refine q_asg (ev_is (ev_op (ev_cb (ea_cons (ev_var rfl) ea_nil) rc_intI) (evM rfl (Ex.refl _)) (rv_I hM0)) (congrArg V.int hii)) fun H4 e4 => ?_
      refine st_is (σ' := [_, _, _, _, _, _, _, _]) rfl ?_
      obtain ⟨jj, hjj, hj0, hj1⟩ : ∃ k : Int, a / 16 % M = k ∧ 0 ≤ k ∧ k < M := ⟨_, rfl, Int.emod_nonneg _ (by omega), Int.emod_lt_of_pos _ hM0⟩
      refine q_asg (ev_is (ev_op (ev_op (ev_var rfl) ev_c (rv_I ⟨by decide, by decide⟩)) (evM rfl e4) (rv_I hM0)) (congrArg V.int hjj)) fun H5 e5 => ?_
      refine st_is (σ' := [_, _, _, _, _, _, _, _]) rfl ?_
      replace F := F.mono (e4.trans e5)
      replace hp := (e4.trans e5) _ _ hp
      clear evM
      have hus : us.length < 100000 := by
        have := F.st.1
        omega
      -- what each way ends in
      have done : ∀ {q : Addr} {H6 : Hp} {st : FStep}, Ex H5 H6 → H6 q = some (.tup (stV st)) → OkStep ss.length st → (p ≠ l ∧ (upd H6 l (.lst (us ++ [.ref q]))) p = some (.lst (nus.map V.int)) ∧ ∃ (x3 x4 x5 x6 x7 : Option V) (us' : List V) (ss' : List FStep), [some (V.ref na), some (.int (most : Int)), some (.ref l), some (.int n), some (.int kd), some (.int a), some (.int ii), some (.int jj)] = [some (.ref na), some (.int (most : Int)), some (.ref l), x3, x4, x5, x6, x7] ∧ FoAt H (upd H6 l (.lst (us ++ [.ref q]))) l us' ss' ∧ OkForm ss' ∧ ss'.length = i + 1) := fun {q H6 st} e6 h6 hs => by
        refine ⟨hpl, ?_, _, _, _, _, _, _, _, rfl, F.push nl e6 ⟨q, rfl, h6⟩, hok.snoc hs, ?_⟩
        · rw [upd_ne hpl]
          exact e6 _ _ hp
        · rw [List.length_append, hsl2]
          rfl
      by_cases hA : kd < 3 ∨ ss = []
      · refine s_if (b := true) (et_is (et_or (et_test (ev_op (ev_var rfl) ev_c rv_I0)) fun _ => (et_test (ev_isEmpty F.at_ F.st hok.oks (ev_var rfl)))) (by
          rcases hA with h | h
          · rw [decide_eq_true h]
            rfl
          · rw [h]
            exact Bool.or_true _)) (fun _ H6 e6 => ?_) (fun hb => nomatch hb)
        obtain ⟨c, hc, hc1⟩ := item4 (x := 1 + a / 512 % 60) (y := 1 + a * 7 % 60) (i := a / 4 % 4) ⟨by omega, by omega⟩ (by omega) (by omega)
        replace F := F.mono e6
        refine s_appU (ys := stV (("number" : Str), [a * 41 % 401 - 200, c])) F.at_ (ev_var rfl) (eu_tup (ea_cons ev_c (ea_cons (ev_op (ev_op (ev_op (ev_cb (ea_cons (ev_var rfl) ea_nil) rc_intI) ev_c (rv_I (mulx_ok (b := 6) hab (by decide) (by decide)))) ev_c (rv_I (by decide))) ev_c rv_I0)
          (ea_cons (ev_opL1 (el_lst (ea_cons ev_c (ea_cons ev_c (ea_cons (ev_op ev_c (ev_op (ev_op (ev_var rfl) ev_c (rv_I ⟨by decide, by decide⟩)) ev_c (rv_I (by decide))) rv_I0) (ea_cons (ev_op ev_c (ev_op (ev_op (ev_cb (ea_cons (ev_var rfl) ea_nil) rc_intI) ev_c (rv_I (mulx_ok (b := 6) hab (by decide) (by decide)))) ev_c (rv_I (by decide))) rv_I0) ea_nil)))) (show 4 ≤ 100000 by decide))
            (fun _ _ => ev_op (ev_op (ev_var rfl) ev_c (rv_I ⟨by decide, by decide⟩)) ev_c (rv_I (by decide))) (fun _ _ hp _ => rv_ixL (sq_of hp) hc)) ea_nil))) (show 3 ≤ 100000 by decide)) hus fun q H7 _ e7 h7 => ?_
        exact done (e6.trans e7) h7 (.inl ⟨_, c, rfl, hc1⟩)
      · have hA1 : ¬ kd < 3 := fun z => hA (.inl z)
        have hA2 : ss ≠ [] := fun z => hA (.inr z)
        have hss : 0 < ss.length := List.length_pos_iff.mpr hA2
        have hMs := hM1 hss
        refine s_if (b := false) (et_is (et_or (et_test (ev_op (ev_var rfl) ev_c rv_I0)) fun _ => (et_test (ev_isEmpty F.at_ F.st hok.oks (ev_var rfl)))) (by
          rw [decide_eq_false hA1, Bool.false_or]
          cases ss with
          | nil => exact absurd rfl hA2
          | cons x r => rfl)) (fun hb => nomatch hb) (fun _ H6 e6 => ?_)
        replace F := F.mono e6
        by_cases hB : kd = 3
        · refine s_if (b := true) (et_is (et_test (ev_op (ev_var rfl) ev_c (rv_eq rfl))) (decide_eq_true (congrArg V.int hB))) (fun _ H7 e7 => ?_) (fun hb => nomatch hb)
          replace F := F.mono e7
          refine s_appU (ys := stV (("pi" : Str), [])) F.at_ (ev_var rfl) (eu_tup (ea_cons ev_c ea_nil) (show 1 ≤ 100000 by decide)) hus fun q H8 _ e8 h8 => ?_
          exact done ((e6.trans e7).trans e8) h8 (.inr (.inl rfl))
        · refine s_if (b := false) (et_is (et_test (ev_op (ev_var rfl) ev_c (rv_eq rfl))) (decide_eq_false fun z => hB (V.int.inj z))) (fun hb => nomatch hb) (fun _ H7 e7 => ?_)
          replace F := F.mono e7
          by_cases hC : kd < 8
          · refine s_if (b := true) (et_is (et_test (ev_op (ev_var rfl) ev_c rv_I0)) (decide_eq_true hC)) (fun _ H8 e8 => ?_) (fun hb => nomatch hb)
            replace F := F.mono e8
            obtain ⟨x, hx2, hxw⟩ := itemW2 (i := kd - 4) ⟨by omega, by omega⟩
            refine s_appU (ys := stV (x, [ii, jj])) F.at_ (ev_var rfl) (eu_tup (ea_cons (ev_opL1 (el_lst (ea_cons ev_c (ea_cons ev_c (ea_cons ev_c (ea_cons ev_c ea_nil)))) (show 4 ≤ 100000 by decide)) (fun _ _ => ev_op (ev_var rfl) ev_c rv_I0) (fun _ _ hp _ => rv_ixL (sq_of hp) hx2)) (ea_cons (ev_var rfl) (ea_cons (ev_var rfl) ea_nil))) (show 3 ≤ 100000 by decide)) hus fun q H9 _ e9 h9 => ?_
            exact done (((e6.trans e7).trans e8).trans e9) h9 (.inr (.inr (.inl ⟨x, ii, jj, hxw, rfl, ⟨hi0, by omega⟩, ⟨hj0, by omega⟩⟩)))
          · refine s_if (b := false) (et_is (et_test (ev_op (ev_var rfl) ev_c rv_I0)) (decide_eq_false hC)) (fun hb => nomatch hb) (fun _ H8 e8 => ?_)
            replace F := F.mono e8
            obtain ⟨x, hx2, hxw⟩ := itemW1 (i := kd - 8) ⟨by omega, by omega⟩
            refine s_appU (ys := stV (x, [ii])) F.at_ (ev_var rfl) (eu_tup (ea_cons (ev_opL1 (el_lst (ea_cons ev_c (ea_cons ev_c (ea_cons ev_c (ea_cons ev_c (ea_cons ev_c (ea_cons ev_c (ea_cons ev_c (ea_cons ev_c ea_nil)))))))) (show 8 ≤ 100000 by decide)) (fun _ _ => ev_op (ev_var rfl) ev_c rv_I0) (fun _ _ hp _ => rv_ixL (sq_of hp) hx2)) (ea_cons (ev_var rfl) ea_nil)) (show 2 ≤ 100000 by decide)) hus fun q H9 _ e9 h9 => ?_
            exact done (((e6.trans e7).trans e8).trans e9) h9 (.inr (.inr (.inr ⟨x, ii, hxw, rfl, ⟨hi0, by omega⟩⟩)))
    · obtain ⟨hpl, hp, x3, x4, x5, x6, x7, us, ss, rfl, F, hok, hsl2⟩ := pp
      rw [List.length_map] at hsl2
      refine ⟨_, rfl, l, us, rfl, .inl ⟨sq_of F.at_, fun r hr2 => ?_⟩⟩
      exact q ss hok (by omega) r _ us (fresh_back F.ex hr2) (F.ex.trans (Ex.new hr2)) upd_same (F.st.mono (Ex.new hr2))
/-! ### odd values, and the law's own judge -/
def spOdd : Sp := fun vs H Q _ => ∃ i : Int, vs = [.int i] ∧ RetK H Q
theorem q_asgKs {σ : L2.St} {H : Hp} {D : Ends} {tz : TS} {n i : Nat} {tr : TA} (h : EvKs n tr σ H) (hn : n ≤ 100000) (k : ∀ l vs H1, H l = none → Ex H H1 → H1 l = some (.lst vs) → Kns H1 vs → vs.length = n → tz D (σ.set i (some (.ref l))) H1) : tSeq (tAsg (tLst tr) (gName i)) tz D σ H :=
  h H (Ex.refl H) _ fun vs H2 e2 hs hl => ⟨sz_of (by omega), fun p hp => k p vs _ (fresh_back e2 hp) (e2.trans (Ex.new hp)) upd_same (hs.ex (Ex.new hp)) hl⟩
theorem ok_odd {f : Addr} {fd : FuncData} (F : Fun K "_law_odd" "_law_odd" s_law_odd f fd) (m_int : mg "int" = none) : FnOk P w K mg base CX0 1 f fd ["figure"] spOdd := by
  refine F.ok sc_law_odd (fun vs H Q E h => ?_) (fun cdv A outer s H vs Q E hr h => ?_)
  · obtain ⟨i, rfl, _⟩ := h
    rfl
  · obtain ⟨i, rfl, q⟩ := h
    refine ⟨_, (pss_cons (ps_set (i := 1) sc_law_odd.nd rfl (.inl rfl) (pe_lst (pa_cons pe_non (pa_cons pe_bl (pa_cons pe_int (pa_cons (pe_un un_neg pe_int) (pa_cons pe_str (pa_cons pe_str (pa_cons (pe_tup pa_nil) (pa_cons (pe_lst pa_nil) (pa_cons pe_dnewK (pa_cons (pe_tup (pa_cons pe_int pa_nil)) (pa_cons (pe_tup (pa_cons pe_str pa_nil)) (pa_cons (pe_lst (pa_cons (pe_tup (pa_cons pe_str pa_nil)) pa_nil)) (pa_cons (pe_tup (pa_cons (pe_tup (pa_cons pe_str pa_nil)) (pa_cons pe_int pa_nil))) (pa_cons (pe_tup (pa_cons pe_str (pa_cons pe_int (pa_cons pe_int pa_nil)))) (pa_cons pe_int pa_nil)))))))))))))))))
        (pss_one (ps_ret (pe_ix ix_list (pv 1) (pe_op op_mod (pe_callTy call_int1 (by rfl) m_int (by decide +kernel) (pa_cons (pv 0) pa_nil)) pe_int) (fun _ _ => rfl))))), ?_⟩
    have kS : ∀ (x : Str), x ∈ WS → ∀ H' : Hp, ∃ k, Kn H' (.str x) k := fun x hx H' => ⟨_, .str hx⟩
    have kI : ∀ (i : Int) (H' : Hp), ∃ k, Kn H' (.int i) k := fun i H' => ⟨_, .int i⟩
    have sP : ("pi" : Str) ∈ WS := by simp [WS]
    have sE : ("" : Str) ∈ WS := by simp [WS]
    have sN : ("number" : Str) ∈ WS := by simp [WS]
    refine q_asgKs (n := 15) ?h (by decide) fun l vs H2 hn e2 hl1 hs hl => ?_
    case h => exact eks_cons (ek_c fun H' => ⟨_, .non⟩) (eks_cons (ek_c fun H' => ⟨_, .bl _⟩) (eks_cons (ek_c (kI 0)) (eks_cons (ek_int (ev_un (x := .int 1) ev_c ru_neg)) (eks_cons (ek_c (kS "pi" sP)) (eks_cons (ek_c (kS "" sE)) (eks_cons (ek_tup eks_nil (by decide)) (eks_cons (ek_lst eks_nil (by decide)) (eks_cons ek_dict
      (eks_cons (ek_tup (eks_cons (ek_c (kI 1)) eks_nil) (by decide)) (eks_cons (ek_tup (eks_cons (ek_c (kS "pi" sP)) eks_nil) (by decide)) (eks_cons (ek_lst (eks_cons (ek_tup (eks_cons (ek_c (kS "pi" sP)) eks_nil) (by decide)) eks_nil) (by decide)) (eks_cons (ek_tup (eks_cons (ek_tup (eks_cons (ek_c (kS "pi" sP)) eks_nil) (by decide)) (eks_cons (ek_c (kI 1)) eks_nil)) (by decide))
      (eks_cons (ek_tup (eks_cons (ek_c (kS "number" sN)) (eks_cons (ek_c (kI 1)) (eks_cons (ek_c (kI 2)) eks_nil))) (by decide)) (eks_cons (ek_c (kI 1000)) eks_nil))))))))))))))
    refine st_is (σ' := [_, _]) rfl ?_
    have h0 : 0 ≤ i % 15 ∧ i % 15 < 15 := by omega
    obtain ⟨j, hj⟩ := Int.eq_ofNat_of_zero_le h0.1
    have hj2 : j < vs.length := by omega
    obtain ⟨k, hk⟩ := hs _ (List.getElem_mem hj2)
    refine s_ret (v := vs[j]) (ev_op (ev_var rfl) (ev_op (ev_cb (ea_cons (ev_var rfl) ea_nil) rc_intI) ev_c (rv_I (by decide))) (rv_ixL (sq_of hl1) (by
      rw [hj]
      exact atI_nat (List.getElem?_eq_getElem hj2)))) fun H3 e3 => q _ _ (e2.trans e3) ⟨k, hk.ex e3⟩
theorem stepF_ints {p : Nat} {x : Str} {r : List Kd} (h : r.all isInt = false) : stepK p (.tup (.str x :: r)) = false := by
  cases hc : cnt x with
  | none => exact stepK_none hc
  | some c => rw [stepK_some hc, h, Bool.false_and, Bool.and_false]
theorem stepF_len {p c : Nat} {x : Str} {r : List Kd} (hc : cnt x = some c) (h : r.length ≠ c) : stepK p (.tup (.str x :: r)) = false := by
  rw [stepK_some hc, decide_eq_false h, Bool.false_and]
def L4 : List V := [.str "add", .str "subtract", .str "times", .str "divide"]
def L8 : List V := [.str "root", .str "sine", .str "cosine", .str "exp", .str "log", .str "arctan", .str "arcsine", .str "arccosine"]
theorem in_w2 : ∀ x ∈ W2, inV (.str x) L4 = true ∧ inV (.str x) L8 = false := w2_all ⟨by decide +kernel, by decide +kernel, by decide +kernel, by decide +kernel⟩
theorem in_w1 : ∀ x ∈ W1, inV (.str x) L4 = false ∧ inV (.str x) L8 = true := w1_all ⟨by decide +kernel, by decide +kernel, by decide +kernel, by decide +kernel, by decide +kernel, by decide +kernel, by decide +kernel, by decide +kernel⟩
theorem in_no {x : Str} (h : x = "" ∨ x = "power" ∨ x = "Add") : inV (.str x) L4 = false ∧ inV (.str x) L8 = false ∧ cnt x = none ∧ x ≠ "number" ∧ x ≠ "pi" := by
  rcases h with rfl | rfl | rfl <;> decide +kernel
/-- how a word's count is found by the law: two menus -/
theorem word_ways {x : Str} (h : x ∈ WS) (h1 : x ≠ "number") (h2 : x ≠ "pi") (n : Nat) : ∃ b4 b8 : Bool, inV (.str x) L4 = b4 ∧ inV (.str x) L8 = b8 ∧ (((b4 && decide (V.int ((n + 1 : Nat) : Int) = V.int 3)) = false ∧ (b8 && decide (V.int ((n + 1 : Nat) : Int) = V.int 2)) = false ∧ ∀ (p : Nat) (r : List Kd), r.length = n → stepK p (.tup (.str x :: r)) = false) ∨
    ((!(b4 && decide (V.int ((n + 1 : Nat) : Int) = V.int 3)) && !(b8 && decide (V.int ((n + 1 : Nat) : Int) = V.int 2))) = false ∧ ∀ (p : Nat) (r : List Kd), r.length = n → r.all isInt = true → stepK p (.tup (.str x :: r)) = r.all (inR p))) := by
  have d3 : ∀ m : Nat, decide (V.int ((n + 1 : Nat) : Int) = V.int ((m + 1 : Nat) : Int)) = decide (n = m) := fun m => by
    by_cases h : n = m
    · subst h
      rw [decide_eq_true rfl, decide_eq_true rfl]
    · rw [decide_eq_false h, decide_eq_false fun z => h (by have := V.int.inj z; omega)]
  have e3 := d3 2
  have e2 := d3 1
  rw [show ((2 + 1 : Nat) : Int) = 3 from rfl] at e3
  rw [show ((1 + 1 : Nat) : Int) = 2 from rfl] at e2
  rw [e3, e2]
  rcases ws_cases h with h | h | h | h | h
  · exact absurd h h1
  · exact absurd h h2
  · obtain ⟨i1, i2⟩ := in_w2 x h
    refine ⟨true, false, i1, i2, ?_⟩
    by_cases hn : n = 2
    · refine .inr ⟨by rw [decide_eq_true hn]; rfl, fun p r hr hall => ?_⟩
      rw [stepK_some (cnt_w2 x h), decide_eq_true (hr.trans hn), hall, if_neg h1, Bool.true_and, Bool.true_and]
    · exact .inl ⟨by rw [decide_eq_false hn]; rfl, rfl, fun p r hr => stepF_len (cnt_w2 x h) fun z => hn (hr.symm.trans z)⟩
  · obtain ⟨i1, i2⟩ := in_w1 x h
    refine ⟨false, true, i1, i2, ?_⟩
    by_cases hn : n = 1
    · refine .inr ⟨by rw [decide_eq_true hn]; rfl, fun p r hr hall => ?_⟩
      rw [stepK_some (cnt_w1 x h), decide_eq_true (hr.trans hn), hall, if_neg h1, Bool.true_and, Bool.true_and]
    · exact .inl ⟨rfl, by rw [decide_eq_false hn]; rfl, fun p r hr => stepF_len (cnt_w1 x h) fun z => hn (hr.symm.trans z)⟩
  · obtain ⟨i1, i2, i3, _⟩ := in_no h
    exact ⟨false, false, i1, i2, .inl ⟨rfl, rfl, fun p r _ => stepK_none i3⟩⟩
def spLForm : Sp := fun vs H Q _ => ∃ (v : V) (k : Kd), vs = [v] ∧ Kn H v k ∧ RetV (.bl (formK k)) H Q
theorem ok_lform {f f0 : Addr} {fd fd0 : FuncData} (F : Fun K "_law_is_formula" "_law_is_formula" s_law_is_formula f fd) (F_law_is_integer : Fun K "_law_is_integer" "_law_is_integer" s_law_is_integer f0 fd0) (b_law_is_integer : Binds K fd0 ["actual"] []) (g_law_is_integer : mg "_law_is_integer" = some (.ref f0))
    (m_isinstance : mg "isinstance" = none) (m_int : mg "int" = none) (m_bool : mg "bool" = none) (m_len : mg "len" = none) (m_tuple : mg "tuple" = none) (m_str : mg "str" = none) (m_range : mg "range" = none) : FnOk P w K mg base CX0 2 f fd ["value"] spLForm := by
  have G_law_is_integer : FnOk P w K mg base CX0 1 f0 fd0 _ spInteger := ok_linteger F_law_is_integer m_isinstance m_int m_bool
  refine F.ok sc_law_is_formula (fun vs H Q E h => ?_) (fun cdv A outer s H vs Q E hr h => ?_)
  · obtain ⟨v, k, rfl, _⟩ := h
    rfl
  · obtain ⟨v, k, rfl, hk, q⟩ := h
    refine ⟨_, (pss_cons (ps_if (PW.pt (pw_or (pt_not (pt_val (pe_callB call_isi (by rfl) m_isinstance (by decide +kernel) (pa_cons (pv 0) (pa_cons (pe_bltn (by rfl) m_tuple (by decide +kernel) (show RelV (.ty "tuple") _ from rfl)) pa_nil))))) (pw_or1 (pt_cmpR (op_eqE hr.units) (pv 0) (pe_tup pa_nil) (nomark _))))) (pss_one (ps_ret pe_bl)) pss_nil)
        (pss_cons (ps_for PassesOwn.never rfl (pi_range1 (by rfl) m_range (pa_cons (pe_callB call_len (by rfl) m_len (by decide +kernel) (pa_cons (pv 0) pa_nil)) pa_nil)) (pg_name (i := 1) sc_law_is_formula.nd rfl (.inl rfl)) (pss_cons (ps_set (i := 2) sc_law_is_formula.nd rfl (.inl rfl) (pe_ix ix_tup (pv 0) (pv 1) (fun _ _ => rfl)))
        (pss_cons (ps_if (PW.pt (pw_or (pt_not (pt_val (pe_callB call_isi (by rfl) m_isinstance (by decide +kernel) (pa_cons (pv 2) (pa_cons (pe_bltn (by rfl) m_tuple (by decide +kernel) (show RelV (.ty "tuple") _ from rfl)) pa_nil))))) (pw_or (pt_cmpR (op_eqE hr.units) (pv 2) (pe_tup pa_nil) (nomark _)) (pw_or1 (pt_not (pt_val (pe_callB call_isi (by rfl) m_isinstance (by decide +kernel) (pa_cons (pe_ix ix_tup (pv 2) pe_int (fun _ _ => rfl)) (pa_cons (pe_bltn (by rfl) m_str (by decide +kernel) (show RelV (.ty "str") _ from rfl)) pa_nil))))))))) (pss_one (ps_ret pe_bl)) pss_nil)
        (pss_cons (ps_for PassesOwn.never rfl (pi_tup (pe_slice sl_tup (pv 2) (po_some pe_int) po_none)) (pg_name (i := 3) sc_law_is_formula.nd rfl (.inl rfl)) (pss_one (ps_if (pt_not (pt_val (pe_call G_law_is_integer (hr.mono (by decide)) (by rfl) g_law_is_integer F_law_is_integer.kp b_law_is_integer .nil pass0 (pa_cons (pv 3) pa_nil)))) (pss_one (ps_ret pe_bl)) pss_nil)))
        (pss_one (ps_if (pt_cmpR op_eq (pe_ix ix_tup (pv 2) pe_int (fun _ _ => rfl)) pe_str (nomark _)) (pss_one (ps_if (PW.pt (pw_or (pt_cmpR op_ne (pe_callB call_len (by rfl) m_len (by decide +kernel) (pa_cons (pv 2) pa_nil)) pe_int (nomark _)) (pw_or1 (pt_cmpR op_lt (pe_ix ix_tup (pv 2) pe_int (fun _ _ => rfl)) pe_int (nomark _))))) (pss_one (ps_ret pe_bl)) pss_nil)) (pss_one (ps_if (pt_cmpR op_eq (pe_ix ix_tup (pv 2) pe_int (fun _ _ => rfl)) pe_str (nomark _)) (pss_one (ps_if (pt_cmpR op_ne (pe_callB call_len (by rfl) m_len (by decide +kernel) (pa_cons (pv 2) pa_nil)) pe_int (nomark _)) (pss_one (ps_ret pe_bl)) pss_nil)) (pss_cons (ps_set (i := 4) sc_law_is_formula.nd rfl (.inl rfl) (pe_and (pe_cmpR op_in_seq (pe_ix ix_tup (pv 2) pe_int (fun _ _ => rfl)) (pe_tup (pa_cons pe_str (pa_cons pe_str (pa_cons pe_str (pa_cons pe_str pa_nil))))) (by rfl)) (pe_one (pe_cmpR op_eq (pe_callB call_len (by rfl) m_len (by decide +kernel) (pa_cons (pv 2) pa_nil)) pe_int (nomark _)))))
        (pss_cons (ps_set (i := 5) sc_law_is_formula.nd rfl (.inl rfl) (pe_and (pe_cmpR op_in_seq (pe_ix ix_tup (pv 2) pe_int (fun _ _ => rfl)) (pe_tup (pa_cons pe_str (pa_cons pe_str (pa_cons pe_str (pa_cons pe_str (pa_cons pe_str (pa_cons pe_str (pa_cons pe_str (pa_cons pe_str pa_nil))))))))) (by rfl)) (pe_one (pe_cmpR op_eq (pe_callB call_len (by rfl) m_len (by decide +kernel) (pa_cons (pv 2) pa_nil)) pe_int (nomark _)))))
        (pss_cons (ps_if (PW.pt (pw_and (pt_not (pt_val (pv 4))) (pw_and1 (pt_not (pt_val (pv 5)))))) (pss_one (ps_ret pe_bl)) pss_nil)
        (pss_one (ps_for PassesOwn.never rfl (pi_tup (pe_slice sl_tup (pv 2) (po_some pe_int) po_none)) (pg_name (i := 3) sc_law_is_formula.nd rfl (.inl rfl)) (pss_one (ps_if (PW.pt (pw_or (pt_cmpR op_lt (pv 3) pe_int (nomark _)) (pw_or1 (pt_cmpR op_ge (pv 3) (pv 1) (nomark _))))) (pss_one (ps_ret pe_bl)) pss_nil)))))))))))))))
        (pss_one (ps_ret pe_bl)))), ?_⟩
    have out : ∀ {H1 : Hp}, formK k = false → Ex H H1 → Q (.bl false) H1 := fun h e1 => by
      have h2 := q _ e1
      rw [h] at h2
      exact h2
    cases ht : isTup k with
    | false =>
      refine q_when (b := true) (et_is (et_or (a := true) (b := true) (et_is (et_not (et_B (ev_cb (ea_cons (ev_var rfl) (ea_cons ev_c ea_nil)) (rc_isTup (K := K) hk)))) (by rw [ht]; rfl)) (fun z => nomatch z)) rfl) (fun _ H1 e1 => s_ret ev_c fun H2 e2 => out (formF_not ht) (e1.trans e2)) (fun z => nomatch z)
    | true =>
      obtain ⟨a, xs, ks, rfl, rfl, ha, hs, hmost2⟩ := kn_tup hk ht
      have lx := hs.len
      cases hks : ks with
      | nil =>
        subst hks
        have hx := hs.nil_of
        subst hx
        refine q_when (b := true) (et_is (et_or (a := false) (b := true) (et_is (et_not (et_B (ev_cb (ea_cons (ev_var rfl) (ea_cons ev_c ea_nil)) (rc_isTup (K := K) hk)))) rfl) fun _ => (et_test (ev_eqE ha (ev_var rfl)))) rfl)
          (fun _ H1 e1 => s_ret ev_c fun H2 e2 => out formF_nil (e1.trans e2)) (fun z => nomatch z)
      | cons s0 r0 =>
        have hne : ks ≠ [] := by
          rw [hks]
          exact List.cons_ne_nil _ _
        have hxe : xs.isEmpty = false := by
          cases xs with
          | nil => rw [hks] at lx; simp at lx
          | cons y r => rfl
        clear hks
        refine q_when (b := false) (et_is (et_or (a := false) (b := false) (et_is (et_not (et_B (ev_cb (ea_cons (ev_var rfl) (ea_cons ev_c ea_nil)) (rc_isTup (K := K) hk)))) rfl) fun _ => (et_is (et_test (ev_eqE ha (ev_var rfl))) hxe)) rfl) (fun z => nomatch z) fun _ H1 e1 => ?_
        replace ha := e1 _ _ ha
        replace hs := hs.ex e1
        refine q_forR1 (n := (xs.length : Int)) (ea_cons (ev_cb (ea_cons (ev_var rfl) ea_nil) (rc_lenT (K := K) (st_of ha))) ea_nil) ⟨by omega, by omega⟩ (fun i σ' H' => ∃ x1 x2 x3 x4 x5, σ' = [some (.ref a), x1, x2, x3, x4, x5] ∧ Ex H1 H' ∧ ∀ (j : Nat) s, j < i → ks[j]? = some s → stepK j s = true)
          (fun H2 e2 => ⟨_, _, _, _, _, rfl, e2, fun j s hj => absurd hj (Nat.not_lt_zero j)⟩) (fun i σ' H' hi pp => ?_) (fun σ' H' pp => ?_)
        · obtain ⟨x1, x2, x3, x4, x5, rfl, e2, hin⟩ := pp
          refine st_is (σ' := [_, _, _, _, _, _]) rfl ?_
          have hi2 : i < xs.length := by omega
          have hx : xs[i]? = some xs[i] := List.getElem?_eq_getElem hi2
          generalize xs[i] = v at hx
          obtain ⟨s, hs2, kn⟩ := hs.get hx
          have outS : ∀ {H3 : Hp}, stepK i s = false → Ex H1 H3 → Q (.bl false) H3 := fun h e3 => out (formF_at hs2 h) (e1.trans e3)
          -- step
          refine q_asg (ev_op (ev_var rfl) (ev_var rfl) (rv_ixT (st_of (e2 _ _ ha)) (atI_nat hx))) fun H3 e3 => ?_
          refine st_is (σ' := [_, _, _, _, _, _]) rfl ?_
          have e13 := e2.trans e3
          replace kn := kn.ex e13
          cases hts : isTup s with
          | false =>
            refine q_when (b := true) (et_is (et_or (a := true) (b := true) (et_is (et_not (et_B (ev_cb (ea_cons (ev_var rfl) (ea_cons ev_c ea_nil)) (rc_isTup (K := K) kn)))) (by rw [hts]; rfl)) (fun z => nomatch z)) rfl) (fun _ H4 e4 => s_ret ev_c fun H5 e5 => outS (stepF_not i hts) (e13.trans (e4.trans e5))) (fun z => nomatch z)
          | true =>
            obtain ⟨b, ys, rs, rfl, rfl, hb, hr2, _⟩ := kn_tup kn hts
            cases rs with
            | nil =>
              have hx2 := hr2.nil_of
              subst hx2
              refine q_when (b := true) (et_is (et_or (a := false) (b := true) (et_is (et_not (et_B (ev_cb (ea_cons (ev_var rfl) (ea_cons ev_c ea_nil)) (rc_isTup (K := K) kn)))) rfl) fun _ => (et_or (a := true) (b := true) (et_test (ev_eqE hb (ev_var rfl))) (fun z => nomatch z))) rfl)
                (fun _ H4 e4 => s_ret ev_c fun H5 e5 => outS rfl (e13.trans (e4.trans e5))) (fun z => nomatch z)
            | cons s1 r =>
              obtain ⟨v0, ws, rfl, k0, kr⟩ := hr2.split
              have lw : ws.length = r.length := kr.len
              cases hstr : isStr s1 with
              | false =>
                refine q_when (b := true) (et_is (et_or (a := false) (b := true) (et_is (et_not (et_B (ev_cb (ea_cons (ev_var rfl) (ea_cons ev_c ea_nil)) (rc_isTup (K := K) kn)))) rfl) fun _ => (et_or (a := false) (b := true) (et_test (ev_eqE hb (ev_var rfl)))
                  fun _ => (et_is (et_not (et_B (ev_cb (ea_cons (ev_op (ev_var rfl) ev_c (rv_ixT (st_of hb) (atI_nat (j := 0) rfl))) (ea_cons ev_c ea_nil)) (rc_isStr (K := K) k0)))) (by rw [hstr]; rfl)))) rfl) (fun _ H4 e4 => s_ret ev_c fun H5 e5 => outS (stepF_str i hstr) (e13.trans (e4.trans e5))) (fun z => nomatch z)
              | true =>
                obtain ⟨x, rfl, rfl, hxw⟩ := kn_str k0 hstr
                refine q_when (b := false) (et_is (et_or (a := false) (b := false) (et_is (et_not (et_B (ev_cb (ea_cons (ev_var rfl) (ea_cons ev_c ea_nil)) (rc_isTup (K := K) kn)))) rfl) fun _ => (et_or (a := false) (b := false) (et_test (ev_eqE hb (ev_var rfl)))
                  fun _ => (et_is (et_not (et_B (ev_cb (ea_cons (ev_op (ev_var rfl) ev_c (rv_ixT (st_of hb) (atI_nat (j := 0) rfl))) (ea_cons ev_c ea_nil)) (rc_isStr (K := K) k0)))) rfl))) rfl) (fun z => nomatch z) fun _ H4 e4 => ?_
                replace hb := e4 _ _ hb
                replace kr := kr.ex e4
                have e14 := e13.trans e4
                -- the items are integers
                refine q_forNT (eu_tail (ev_var rfl) (st_of hb)) (fun p1 j σ' H' => ∃ y, σ' = [some (.ref a), some (.int (i : Int)), some (.ref b), y, x4, x5] ∧ Ex H4 H' ∧ H' p1 = some (.tup ws) ∧ ∀ (m : Nat) s, m < j → r[m]? = some s → isInt s = true) (fun p1 H5 _ e5 h5 => ⟨_, rfl, e5, h5, fun j s hj => absurd hj (Nat.not_lt_zero j)⟩) (fun p1 j σ' H' _ pp => ?_) (fun p1 j y σ' H' hy pp => ?_) (fun p1 σ' H' pp => ?_)
                · obtain ⟨y, _, _, h5, _⟩ := pp
                  exact st_of h5
                · obtain ⟨y1, rfl, e5, h5, hint⟩ := pp
                  obtain ⟨z, hz, kz⟩ := kr.get hy
                  show tIfS _ _ tNext _ [some (.ref a), some (.int (i : Int)), some (.ref b), some y, x4, x5] H'
                  refine s_when (b := !isInt z) (et_not (et_B (ev_call (z := .bl (isInt z)) (ea_cons (ev_var rfl) ea_nil) (fun H6 e6 Q6 q6 E6 => ⟨y, z, rfl, kz.ex (e5.trans e6), q6⟩)))) (fun hb H6 e6 => ?_) fun hb H6 e6 => ⟨_, rfl, e5.trans e6, e6 _ _ h5, fun m u hm hu => ?_⟩
                  · exact s_ret ev_c fun H7 e7 => outS (stepF_ints (all_false hz (by simpa using hb))) (e14.trans (e5.trans (e6.trans e7)))
                  · by_cases hmj : m < j
                    · exact hint m u hmj hu
                    · have hmj2 : m = j := by omega
                      subst hmj2
                      rw [hz] at hu
                      cases Option.some.inj hu
                      simpa using hb
                · obtain ⟨y1, rfl, e5, h5, hint⟩ := pp
                  have hall : r.all isInt = true := all_true fun m s hm => hint m s (by
                    have h3 := (List.getElem?_eq_some_iff.mp hm).1
                    rw [lw]
                    exact h3) hm
                  clear hint h5
                  replace hb := e5 _ _ hb
                  replace kr := kr.ex e5
                  have e15 := e14.trans e5
                  have nx : ∀ {H6 : Hp} {x3 x4 x5 : Option V}, stepK i (.tup (.str x :: r)) = true → Ex H1 H6 → ∃ y1 y2 y3 y4 y5, [some (.ref a), some (.int (i : Int)), some (.ref b), x3, x4, x5] = [some (.ref a), y1, y2, y3, y4, y5] ∧ Ex H1 H6 ∧ ∀ (j : Nat) s, j < i + 1 → ks[j]? = some s → stepK j s = true := fun h e6 => ⟨_, _, _, _, _, rfl, e6, fun j u hj hu => by
                    by_cases hji : j < i
                    · exact hin j u hji hu
                    · have hji2 : j = i := by omega
                      subst hji2
                      rw [hs2] at hu
                      cases Option.some.inj hu
                      exact h⟩
                  by_cases hnum : x = "number"
                  · refine s_if (b := true) (et_is (et_test (ev_op (ev_op (ev_var rfl) ev_c (rv_ixT (st_of hb) (atI_nat (j := 0) rfl))) ev_c (rv_eq rfl))) (decide_eq_true (congrArg V.str hnum))) (fun _ H6 e6 => ?_) (fun hb => nomatch hb)
                    subst hnum
                    replace hb := e6 _ _ hb
                    replace kr := kr.ex e6
                    by_cases hl : r.length = 2
                    · obtain ⟨s1, s2, rfl⟩ : ∃ s1 s2, r = [s1, s2] := by
                        match r, hl with
                        | [s1, s2], _ => exact ⟨s1, s2, rfl⟩
                      obtain ⟨v1, ws1, rfl, k1, kr1⟩ := kr.split
                      obtain ⟨v2, ws2, rfl, k2, kr2⟩ := kr1.split
                      have hall2 := List.all_eq_true.mp hall s2 (by simp)
                      obtain ⟨n2, rfl, rfl⟩ := kn_int k2 hall2
                      have hw3 := kr2.nil_of
                      subst hw3
                      have hst : stepK i (.tup (.str "number" :: [s1, .int n2])) = decide (1 ≤ n2) := by
                        rw [stepK_some cnt_number, hall, if_pos rfl]
                        rfl
                      refine s_when (b := decide (n2 < 1)) (et_is (et_or (a := false) (et_is (et_test (ev_op (ev_cb (ea_cons (ev_var rfl) ea_nil) (rc_lenT (K := K) (st_of hb))) ev_c (rv_ne rfl))) (congrArg (fun b => !b) (decide_eq_true rfl))) fun _ => (et_test (ev_op (ev_op (ev_var rfl) ev_c (rv_ixT (st_of hb) (atI_nat (j := 2) rfl))) ev_c rv_I0))) (Bool.false_or _)) (fun hb2 H7 e7 => ?_) (fun hb2 H7 e7 => ?_)
                      · exact s_ret ev_c fun H8 e8 => outS (by
                          rw [hst]
                          have := of_decide_eq_true hb2
                          exact decide_eq_false (by omega)) (e15.trans (e6.trans (e7.trans e8)))
                      · exact nx (by
                          rw [hst]
                          have := of_decide_eq_false hb2
                          exact decide_eq_true (by omega)) (e15.trans (e6.trans e7))
                    · refine s_when (b := true) (et_is (et_or (a := true) (b := true) (et_is (et_test (ev_op (ev_cb (ea_cons (ev_var rfl) ea_nil) (rc_lenT (K := K) (st_of hb))) ev_c (rv_ne rfl))) (by
                          rw [List.length_cons]
                          exact congrArg (fun b => !b) (decide_eq_false fun z => hl (by have := V.int.inj z; omega)))) fun z => nomatch z) rfl) (fun _ H7 e7 => ?_) (fun z => nomatch z)
                      exact s_ret ev_c fun H8 e8 => outS (stepF_len cnt_number hl) (e15.trans (e6.trans (e7.trans e8)))
                  · refine s_if (b := false) (et_is (et_test (ev_op (ev_op (ev_var rfl) ev_c (rv_ixT (st_of hb) (atI_nat (j := 0) rfl))) ev_c (rv_eq rfl))) (decide_eq_false fun z => hnum (V.str.inj z))) (fun hb => nomatch hb) (fun _ H6 e6 => ?_)
                    replace hb := e6 _ _ hb
                    replace kr := kr.ex e6
                    by_cases hpi : x = "pi"
                    · refine s_if (b := true) (et_is (et_test (ev_op (ev_op (ev_var rfl) ev_c (rv_ixT (st_of hb) (atI_nat (j := 0) rfl))) ev_c (rv_eq rfl))) (decide_eq_true (congrArg V.str hpi))) (fun _ H7 e7 => ?_) (fun hb => nomatch hb)
                      subst hpi
                      replace hb := e7 _ _ hb
                      by_cases hl : r.length = 0
                      · have hr0 : r = [] := List.eq_nil_of_length_eq_zero hl
                        subst hr0
                        refine s_when (b := false) (et_is (et_test (ev_op (ev_cb (ea_cons (ev_var rfl) ea_nil) (rc_lenT (K := K) (st_of hb))) ev_c (rv_ne rfl))) (by
                          rw [List.length_cons]
                          exact congrArg (fun b => !b) (decide_eq_true (congrArg V.int (by omega))))) (fun z => nomatch z) (fun _ H8 e8 => ?_)
                        exact nx (by
                          rw [stepK_some cnt_pi, if_neg hnum]
                          rfl) (e15.trans (e6.trans (e7.trans e8)))
                      · refine s_when (b := true) (et_is (et_test (ev_op (ev_cb (ea_cons (ev_var rfl) ea_nil) (rc_lenT (K := K) (st_of hb))) ev_c (rv_ne rfl))) (by
                          rw [List.length_cons]
                          exact congrArg (fun b => !b) (decide_eq_false fun z => hl (by have := V.int.inj z; omega)))) (fun _ H8 e8 => ?_) (fun z => nomatch z)
                        exact s_ret ev_c fun H9 e9 => outS (stepF_len cnt_pi hl) (e15.trans (e6.trans (e7.trans (e8.trans e9))))
                    · refine s_if (b := false) (et_is (et_test (ev_op (ev_op (ev_var rfl) ev_c (rv_ixT (st_of hb) (atI_nat (j := 0) rfl))) ev_c (rv_eq rfl))) (decide_eq_false fun z => hpi (V.str.inj z))) (fun hb => nomatch hb) (fun _ H7 e7 => ?_)
                      replace hb := e7 _ _ hb
                      replace kr := kr.ex e7
                      have e17 := e15.trans (e6.trans e7)
                      obtain ⟨b4, b8, i4, i8, ways⟩ := word_ways hxw hnum hpi ws.length
                      -- pair, single
                      refine q_asg (v := .bl (b4 && decide (V.int ((ws.length + 1 : Nat) : Int) = V.int 3))) (ev_andV (ev_is (ev_inU (xs := L4) (ev_op (ev_var rfl) ev_c (rv_ixT (st_of hb) (atI_nat (j := 0) rfl))) (eu_tup (ea_cons ev_c (ea_cons ev_c (ea_cons ev_c (ea_cons ev_c ea_nil)))) (show 4 ≤ 100000 by decide)) rfl rfl) (congrArg V.bl i4)) fun _ => (ev_op (ev_cb (ea_cons (ev_var rfl) ea_nil) (rc_lenT (K := K) (st_of hb))) ev_c (rv_eq rfl))) fun H8 e8 => ?_
                      refine st_is (σ' := [_, _, _, _, _, _]) rfl ?_
                      replace hb := e8 _ _ hb
                      refine q_asg (v := .bl (b8 && decide (V.int ((ws.length + 1 : Nat) : Int) = V.int 2))) (ev_andV (ev_is (ev_inU (xs := L8) (ev_op (ev_var rfl) ev_c (rv_ixT (st_of hb) (atI_nat (j := 0) rfl))) (eu_tup (ea_cons ev_c (ea_cons ev_c (ea_cons ev_c (ea_cons ev_c (ea_cons ev_c (ea_cons ev_c (ea_cons ev_c (ea_cons ev_c ea_nil)))))))) (show 8 ≤ 100000 by decide)) rfl rfl) (congrArg V.bl i8)) fun _ => (ev_op (ev_cb (ea_cons (ev_var rfl) ea_nil) (rc_lenT (K := K) (st_of hb))) ev_c (rv_eq rfl))) fun H9 e9 => ?_
                      refine st_is (σ' := [_, _, _, _, _, _]) rfl ?_
                      replace hb := e9 _ _ hb
                      replace kr := kr.ex (e8.trans e9)
                      have e19 := e17.trans (e8.trans e9)
                      clear i4 i8
                      rcases ways with ⟨w1, w2, w3⟩ | ⟨w1, w3⟩
                      · rw [w1, w2]
                        refine q_when (b := true) (et_is (et_and (a := true) (b := true) (et_is (et_not (et_B (ev_var rfl))) rfl) fun _ => et_is (et_not (et_B (ev_var rfl))) rfl) rfl) (fun _ H10 e10 => ?_) (fun z => nomatch z)
                        exact s_ret ev_c fun H11 e11 => outS (w3 i r lw.symm) (e19.trans (e10.trans e11))
                      · refine q_when (b := false) (et_is (et_and (et_not (et_B (ev_var rfl))) fun _ => et_not (et_B (ev_var rfl))) w1) (fun z => nomatch z) (fun _ H10 e10 => ?_)
                        have hst := w3 i r lw.symm hall
                        generalize (b4 && decide (V.int ((ws.length + 1 : Nat) : Int) = V.int 3)) = c4
                        generalize (b8 && decide (V.int ((ws.length + 1 : Nat) : Int) = V.int 2)) = c8
                        replace kr := kr.ex e10
                        have e110 := e19.trans e10
                        refine s_forNT (eu_tail (ev_var rfl) (st_of (e10 _ _ hb))) (fun p1 j σ' H' => ∃ y, σ' = [some (.ref a), some (.int (i : Int)), some (.ref b), y, some (.bl c4), some (.bl c8)] ∧ Ex H10 H' ∧ H' p1 = some (.tup ws) ∧ ∀ (m : Nat) s, m < j → r[m]? = some s → inR i s = true) (fun p1 H5 _ e5 h5 => ⟨_, rfl, e5, h5, fun j s hj => absurd hj (Nat.not_lt_zero j)⟩) (fun p1 j σ' H' _ pp => ?_) (fun p1 j y σ' H' hy pp => ?_) (fun p1 σ' H' pp => ?_)
                        · obtain ⟨y, _, _, h5, _⟩ := pp
                          exact st_of h5
                        · obtain ⟨y1, rfl, e11, h5, hint⟩ := pp
                          obtain ⟨z, hz, kz⟩ := kr.get hy
                          obtain ⟨n, rfl, rfl⟩ := kn_int kz (List.all_eq_true.mp hall z (List.mem_of_getElem? hz))
                          show tIfS _ _ tNext _ [some (.ref a), some (.int (i : Int)), some (.ref b), some (.int n), some (.bl c4), some (.bl c8)] H'
                          refine s_when (b := decide (n < 0) || decide ((i : Int) ≤ n)) (et_or (et_test (ev_op (ev_var rfl) ev_c rv_I0)) fun _ => (et_test (ev_op (ev_var rfl) (ev_var rfl) rv_I0))) (fun hb H6 e6 => ?_) fun hb H6 e6 => ⟨_, rfl, e11.trans e6, e6 _ _ h5, fun m u hm hu => ?_⟩
                          · exact s_ret ev_c fun H7 e7 => outS (by
                              rw [hst]
                              exact all_false hz (show (!(decide (n < 0) || decide ((i : Int) ≤ n))) = false by rw [hb]; rfl)) (e110.trans (e11.trans (e6.trans e7)))
                          · by_cases hmj : m < j
                            · exact hint m u hmj hu
                            · have hmj2 : m = j := by omega
                              subst hmj2
                              rw [hz] at hu
                              cases Option.some.inj hu
                              show (!(decide (n < 0) || decide ((i : Int) ≤ n))) = true
                              rw [hb]
                              rfl
                        · obtain ⟨y1, rfl, e11, h5, hint⟩ := pp
                          exact nx (by
                            rw [hst]
                            exact all_true fun m s hm => hint m s (by
                              have h3 := (List.getElem?_eq_some_iff.mp hm).1
                              rw [lw]
                              exact h3) hm) (e110.trans e11)
        · obtain ⟨x1, x2, x3, x4, x5, rfl, e2, hin⟩ := pp
          refine s_ret ev_c fun H6 e6 => ?_
          have h2 := q H6 (e1.trans (e2.trans e6))
          rw [formT_of hne fun j s hj => hin j s (by
            have h3 := (List.getElem?_eq_some_iff.mp hj).1
            omega) hj] at h2
          exact h2
/-! ### the law -/
def spLaw (K : PySem.W.Frag) : Sp := fun vs H Q _ => ∃ (a : Addr) (ns : List Int), vs = [.ref a] ∧ SqL K H a (ns.map V.int) ∧ ns.length ≤ 63 ∧ ∀ H', Q (.bl true) H'
theorem run_form {te2 : TE} {E E2 : XK} {σ : L2.St} {H : Hp} {sa : Addr} {ns : List Int} {k : Nat} {Q : VK} (hS : SqL K H sa (ns.map V.int)) (hl : ns.length ≤ 63) (hσ : σ[0]? = some (some (.ref sa))) (hk : 1 ≤ k ∧ k ≤ 100)
    (h2 : Ev te2 σ H (.int (k : Int))) (q : ∀ l H1 us ss, Ex H H1 → H1 l = some (.lst us) → StepsAt H1 us ss → OkForm ss → ss.length ≤ k → Q (.ref l) H1) :
    tCB (rListS K) (tCons (tCall (spFormula K) [] E (tCons (tCall (spNumbers K) [] E2 (tCons (tVar 0) (tCons (tC (.int 1)) (tCons (tC (.int 10)) tNil)))) (tCons te2 tNil))) tNil) σ H Q := by
  refine ⟨_, hσ, sa, ns, 1, 10, rfl, hS, hl, by decide, by decide, fun p H2 xs np e2 hp hall hlen => ?_⟩
  refine (h2.mono e2) _ (Ex.refl _) _ fun H4 e4 => ?_
  refine ⟨p, xs, k, rfl, sq_of (e4 _ _ hp), fun x hx => ?_, hk.1, hk.2, fun ss ok hz a H5 us na e5 h5 s5 => ?_⟩
  · have h6 := hall x hx
    exact ⟨h6.1, ab_mono (a := 12) (show x.natAbs < 2 ^ 12 by omega) (by decide)⟩
  · exact ⟨a, us, rfl, .inr (st_of h5), fun l hl2 => q l _ us ss (((e2.trans e4).trans e5).trans (Ex.new hl2)) upd_same (s5.mono (Ex.new hl2)) ok hz⟩
/-- what the changes of a step keep -/
def Mid (sa l b l2 : Addr) (dg wy pk ix pl : Int) (us : List V) (m0 : Nat) (n : Int) : L2.St → Hp → Prop := fun σ' H' =>
  σ' = [some (.ref sa), some (.int dg), some (.ref l), some (.int wy), some (.int pk), some (.ref b), some (.int ix), some (.ref l2), some (.int pl), none, none] ∧ H' l = some (.lst us) ∧ Tups H' us ∧ ∃ xs, H' l2 = some (.lst xs) ∧ Kns H' xs ∧ xs.length ≤ 99 ∧ (n ≤ wy → xs.length = m0)
theorem mid_skip {sa l b l2 : Addr} {dg wy pk ix pl n : Int} {us : List V} {m0 : Nat} {σ : L2.St} {H H' : Hp} (M : Mid sa l b l2 dg wy pk ix pl us m0 n σ H) (e : Ex H H') : Mid sa l b l2 dg wy pk ix pl us m0 (n + 1) σ H' := by
  obtain ⟨h1, h2, h3, xs, h4, h5, h6, h7⟩ := M
  exact ⟨h1, e _ _ h2, h3.st (.ex e), xs, e _ _ h4, h5.ex e, h6, fun z => h7 (by omega)⟩
theorem mid_put {sa l b l2 : Addr} {dg wy pk ix pl n : Int} {us xs ys : List V} {m0 : Nat} {σ : L2.St} {H : Hp} (hne : l ≠ l2) (h1 : σ = [some (.ref sa), some (.int dg), some (.ref l), some (.int wy), some (.int pk), some (.ref b), some (.int ix), some (.ref l2), some (.int pl), none, none])
    (hl : H l = some (.lst us)) (ht : Tups H us) (h2 : H l2 = some (.lst xs)) (hk : Kns H ys) (hz : ys.length ≤ 99) (hw : wy < n) : Mid sa l b l2 dg wy pk ix pl us m0 n σ (upd H l2 (.lst ys)) :=
  ⟨h1, by
    rw [upd_ne hne]
    exact hl, ht.st (Stab.upd h2), ys, upd_same, hk.st (Stab.upd h2), hz, fun z => absurd z (by omega)⟩
/-- what the changes of the steps keep -/
def Mid2 (sa l b : Addr) (dg wy pk ix : Int) (n0 : Nat) (n : Int) : L2.St → Hp → Prop := fun σ' H' =>
  ∃ x7 x8, σ' = [some (.ref sa), some (.int dg), some (.ref l), some (.int wy), some (.int pk), some (.ref b), some (.int ix), x7, x8, none, none] ∧ ∃ us, H' l = some (.lst us) ∧ Kns H' us ∧ us.length ≤ 50 ∧ (n ≤ wy → Tups H' us ∧ us.length = n0)
theorem mid2_skip {sa l b : Addr} {dg wy pk ix n : Int} {n0 : Nat} {σ : L2.St} {H H' : Hp} (M : Mid2 sa l b dg wy pk ix n0 n σ H) (e : Ex H H') : Mid2 sa l b dg wy pk ix n0 (n + 1) σ H' := by
  obtain ⟨x7, x8, h1, us, h4, h5, h6, h7⟩ := M
  exact ⟨x7, x8, h1, us, e _ _ h4, h5.ex e, h6, fun z => ⟨(h7 (by omega)).1.st (.ex e), (h7 (by omega)).2⟩⟩
theorem mid2_put {sa l b : Addr} {dg wy pk ix n : Int} {us ys : List V} {n0 : Nat} {σ : L2.St} {H : Hp} {x7 x8 : Option V} (h1 : σ = [some (.ref sa), some (.int dg), some (.ref l), some (.int wy), some (.int pk), some (.ref b), some (.int ix), x7, x8, none, none])
    (hl : H l = some (.lst us)) (hk : Kns H ys) (hz : ys.length ≤ 50) (hw : wy < n) : Mid2 sa l b dg wy pk ix n0 n σ (upd H l (.lst ys)) :=
  ⟨x7, x8, h1, ys, upd_same, hk.st (Stab.upd hl), hz, fun z => absurd z (by omega)⟩
theorem s_insert {D : Ends} {σ : L2.St} {H : Hp} {ta t1 t2 : TE} {l : Addr} {xs : List V} {j : Nat} (hl : H l = some (.lst xs)) (ha : Ev ta σ H (.ref l)) (hi : Ev t1 σ H (.int (j : Int))) (h : EvK t2 σ H) (hz : xs.length ≤ 1000) (hj : j ≤ 1000)
    (k : ∀ v H1, Ex H H1 → (∃ k, Kn H1 v k) → D.nx σ (upd H1 l (.lst (xs.take j ++ [v] ++ xs.drop j)))) :
    tDrop (tBM K "list" (fun x vs H Q => ∃ (l : Addr) (xs : List V) (i : Int) (y : V), x = .ref l ∧ vs = [.int i, y] ∧ H l = some (.lst xs) ∧ xs.length < sizeLine ∧ 0 ≤ i ∧ i < 2 ^ 63 ∧ Q .non (upd H l (.lst (xs.take i.toNat ++ [y] ++ xs.drop i.toNat)))) ta (tCons t1 (tCons t2 tNil))) D σ H := ha H (Ex.refl H) _ fun H1 e1 =>
  ⟨Or.inl ⟨rfl, xs, sq_of (e1 l _ hl)⟩, hi H1 e1 _ fun H2 e2 => h H2 (e1.trans e2) _ fun v H3 e3 hv => ⟨l, xs, (j : Int), v, rfl, rfl, ((e1.trans e2).trans e3) l _ hl, sz_lt (by omega), by omega, by omega, k v H3 ((e1.trans e2).trans e3) hv⟩⟩
theorem Kns.take {H : Hp} {vs : List V} (h : Kns H vs) (n : Nat) : Kns H (vs.take n) := fun v hv => h v (List.mem_of_mem_take hv)
theorem Kns.drop {H : Hp} {vs : List V} (h : Kns H vs) (n : Nat) : Kns H (vs.drop n) := fun v hv => h v (List.mem_of_mem_drop hv)
theorem ok_law {f f0 f1 f2 f3 f4 f5 f6 f7 f8 f9 d : Addr} {fd fd0 fd1 fd2 fd3 fd4 fd5 fd6 fd7 fd8 fd9 : FuncData} (F : Fun K "law" "law" s_law f fd)
    (F_is_integer : Fun K "is_integer" "is_integer" s_is_integer f0 fd0) (F_are_integers : Fun K "are_integers" "are_integers" s_are_integers f1 fd1) (F_is_formula : Fun K "is_formula" "is_formula" s_is_formula f2 fd2) (F_is_step : Fun K "is_step" "is_step" s_is_step f3 fd3)
    (F_law_cell : Fun K "_law_cell" "_law_cell" s_law_cell f4 fd4) (F_law_numbers : Fun K "_law_numbers" "_law_numbers" s_law_numbers f5 fd5) (F_law_is_integer : Fun K "_law_is_integer" "_law_is_integer" s_law_is_integer f6 fd6) (F_law_formula : Fun K "_law_formula" "_law_formula" s_law_formula f7 fd7) (F_law_odd : Fun K "_law_odd" "_law_odd" s_law_odd f8 fd8) (F_law_is_formula : Fun K "_law_is_formula" "_law_is_formula" s_law_is_formula f9 fd9)
    (b_is_integer : Binds K fd0 ["value"] []) (b_are_integers : Binds K fd1 ["values"] []) (b_is_formula : Binds K fd2 ["value"] []) (b_is_step : Binds K fd3 ["step", "place"] []) (b_law_cell : Binds K fd4 ["script", "k"] []) (b_law_numbers : Binds K fd5 ["script", "first", "most"] []) (b_law_is_integer : Binds K fd6 ["actual"] []) (b_law_formula : Binds K fd7 ["numbers", "most"] []) (b_law_odd : Binds K fd8 ["figure"] []) (b_law_is_formula : Binds K fd9 ["value"] [])
    (g_is_integer : mg "is_integer" = some (.ref f0)) (g_are_integers : mg "are_integers" = some (.ref f1)) (g_is_formula : mg "is_formula" = some (.ref f2)) (g_is_step : mg "is_step" = some (.ref f3)) (g_law_cell : mg "_law_cell" = some (.ref f4)) (g_law_numbers : mg "_law_numbers" = some (.ref f5)) (g_law_is_integer : mg "_law_is_integer" = some (.ref f6)) (g_law_formula : mg "_law_formula" = some (.ref f7)) (g_law_odd : mg "_law_odd" = some (.ref f8)) (g_law_is_formula : mg "_law_is_formula" = some (.ref f9))
    (g_COUNTS : mg "COUNTS" = some (.ref d)) (C : Counts K w d) (N : Nots K d)
    (m_len : mg "len" = none) (m_abs : mg "abs" = none) (m_int : mg "int" = none) (m_bool : mg "bool" = none) (m_str : mg "str" = none) (m_isinstance : mg "isinstance" = none) (m_tuple : mg "tuple" = none) (m_list : mg "list" = none) (m_range : mg "range" = none) (m_max : mg "max" = none) (m_enumerate : mg "enumerate" = none) : FnOk P w K mg base CX0 5 f fd ["script"] (spLaw K) := by
  have G_is_step : FnOk P w K mg base CX0 3 f3 fd3 ["step", "place"] spIsStep := ok_isstep F_is_step F_is_integer b_is_integer g_is_integer F_are_integers b_are_integers g_are_integers g_COUNTS C N m_isinstance m_int m_bool m_len m_tuple m_str
  have G_is_formula : FnOk P w K mg base CX0 4 f2 fd2 ["value"] spIsForm := ok_isform F_is_formula F_is_step G_is_step b_is_step g_is_step m_isinstance m_len m_tuple m_enumerate
  have G_law_cell : FnOk P w K mg base CX0 1 f4 fd4 ["script", "k"] (spCell K) := ok_cell F_law_cell m_len
  have G_law_numbers : FnOk P w K mg base CX0 1 f5 fd5 ["script", "first", "most"] (spNumbers K) := ok_numbers F_law_numbers m_len m_abs m_int m_range
  have G_law_formula : FnOk P w K mg base CX0 1 f7 fd7 ["numbers", "most"] (spFormula K) := ok_formula F_law_formula m_len m_max m_int m_tuple
  have G_law_odd : FnOk P w K mg base CX0 1 f8 fd8 ["figure"] spOdd := ok_odd F_law_odd m_int
  have G_law_is_formula : FnOk P w K mg base CX0 2 f9 fd9 ["value"] spLForm := ok_lform F_law_is_formula F_law_is_integer b_law_is_integer g_law_is_integer m_isinstance m_int m_bool m_len m_tuple m_str m_range
  refine F.ok sc_law (fun vs H Q E h => ?_) (fun cdv A outer s H vs Q E hr h => ?_)
  · obtain ⟨a, ns, rfl, _⟩ := h
    rfl
  · obtain ⟨sa, ns, rfl, hS, hl, fin⟩ := h
    refine ⟨_, (pss_cons (ps_set (i := 1) sc_law.nd rfl (.inl rfl) (pe_callB call_abs (by rfl) m_abs (by decide +kernel) (pa_cons (pe_call G_law_cell (hr.mono (by decide)) (by rfl) g_law_cell F_law_cell.kp b_law_cell .nil pass0 (pa_cons (pv 0) (pa_cons pe_int pa_nil))) pa_nil)))
        (pss_cons (ps_set (i := 2) sc_law.nd rfl (.inl rfl) (pe_callTy call_list_of (by rfl) m_list (by decide +kernel) (pa_cons (pe_call G_law_formula (hr.mono (by decide)) (by rfl) g_law_formula F_law_formula.kp b_law_formula .nil pass0 (pa_cons (pe_call G_law_numbers (hr.mono (by decide)) (by rfl) g_law_numbers F_law_numbers.kp b_law_numbers .nil pass0 (pa_cons (pv 0) (pa_cons pe_int (pa_cons pe_int pa_nil)))) (pa_cons (pe_op op_add pe_int (pe_op op_mod (pe_callTy call_int1 (by rfl) m_int (by decide +kernel) (pa_cons (pv 1) pa_nil)) pe_int)) pa_nil))) pa_nil)))
        (pss_cons (ps_set (i := 3) sc_law.nd rfl (.inl rfl) (pe_op op_mod (pe_op op_fdiv (pv 1) pe_int) pe_int))
        (pss_cons (ps_set (i := 4) sc_law.nd rfl (.inl rfl) (pe_op op_fdiv (pv 1) pe_int))
        (pss_cons (ps_set (i := 5) sc_law.nd rfl (.inl rfl) (pe_callTy call_tuple_of (by rfl) m_tuple (by decide +kernel) (pa_cons (pv 2) pa_nil)))
        (Evl.pss_cut (ps_if (pt_cmpR (op_neD hr.units) (pv 2) (pe_lst pa_nil) (nomark _)) (pss_cons (ps_set (i := 6) sc_law.nd rfl (.inl rfl) (pe_op op_mod (pe_callTy call_int1 (by rfl) m_int (by decide +kernel) (pa_cons (pv 4) pa_nil)) (pe_callB call_len (by rfl) m_len (by decide +kernel) (pa_cons (pv 2) pa_nil))))
        (pss_cons (ps_set (i := 7) sc_law.nd rfl (.inl rfl) (pe_callTy call_list_of (by rfl) m_list (by decide +kernel) (pa_cons (pe_ix ix_list (pv 2) (pv 6) (fun _ _ => rfl)) pa_nil)))
        (pss_cons (ps_set (i := 8) sc_law.nd rfl (.inl rfl) (pe_op op_mod (pe_op op_fdiv (pv 4) pe_int) (pe_callB call_len (by rfl) m_len (by decide +kernel) (pa_cons (pv 7) pa_nil))))
        (Evl.pss_cut (ps_if (pt_cmpR op_eq (pv 3) pe_int (nomark _)) (pss_one (ps_asg (pe_call G_law_odd (hr.mono (by decide)) (by rfl) g_law_odd F_law_odd.kp b_law_odd .nil pass0 (pa_cons (pe_op op_fdiv (pv 4) pe_int) pa_nil)) (pg_sub (pv 7) (pv 8) set_list))) pss_nil)
        (Evl.pss_cut (ps_if (pt_cmpR op_eq (pv 3) pe_int (nomark _)) (pss_one (ps_expr (pe_bm PySem.F.plainAttrs_list PySem.F.slot_list_append PySem.F.type_list_append mt_append (pv 7) (pa_cons (pe_op op_mod (pe_op op_fdiv (pv 4) pe_int) pe_int) pa_nil)))) pss_nil)
        (Evl.pss_cut (ps_if (pt_cmpR op_eq (pv 3) pe_int (nomark _)) (pss_one (ps_expr (pe_bm PySem.F.plainAttrs_list PySem.F.slot_list_pop PySem.F.type_list_pop mt_popAt (pv 7) (pa_cons (pv 8) pa_nil)))) pss_nil)
        (Evl.pss_cut (ps_if (pt_cmpR op_eq (pv 3) pe_int (nomark _)) (pss_one (ps_asg (pe_ix ix_list (pe_lst (pa_cons (pv 6) (pa_cons (pe_op op_add (pv 6) pe_int) (pa_cons (pe_un un_neg pe_int) (pa_cons pe_int (pa_cons pe_bl (pa_cons pe_int pa_nil))))))) (pe_op op_mod (pe_op op_fdiv (pv 4) pe_int) pe_int) (fun _ _ => rfl)) (pg_sub (pv 7) (pe_op op_sub (pe_callB call_len (by rfl) m_len (by decide +kernel) (pa_cons (pv 7) pa_nil)) pe_int) set_list))) pss_nil)
        (Evl.pss_cut (ps_if (pt_cmpR op_eq (pv 3) pe_int (nomark _)) (pss_one (ps_asg (pe_ix ix_list (pe_lst (pa_cons pe_str (pa_cons pe_str (pa_cons pe_str (pa_cons pe_str (pa_cons pe_str (pa_cons pe_str (pa_cons pe_str pa_nil)))))))) (pe_op op_mod (pe_op op_fdiv (pv 4) pe_int) pe_int) (fun _ _ => rfl)) (pg_sub (pv 7) pe_int set_list))) pss_nil)
        (pss_cons (ps_asg (pe_callTy call_tuple_of (by rfl) m_tuple (by decide +kernel) (pa_cons (pv 7) pa_nil)) (pg_sub (pv 2) (pv 6) set_list))
        (Evl.pss_cut (ps_if (pt_cmpR op_eq (pv 3) pe_int (nomark _)) (pss_one (ps_expr (pe_bm PySem.F.plainAttrs_list PySem.F.slot_list_pop PySem.F.type_list_pop mt_popAt (pv 2) (pa_cons (pv 6) pa_nil)))) pss_nil)
        (Evl.pss_cut (ps_if (pt_cmpR op_eq (pv 3) pe_int (nomark _)) (pss_one (ps_expr (pe_bm PySem.F.plainAttrs_list PySem.F.slot_list_insert PySem.F.type_list_insert mt_insert (pv 2) (pa_cons (pv 6) (pa_cons (pe_call G_law_odd (hr.mono (by decide)) (by rfl) g_law_odd F_law_odd.kp b_law_odd .nil pass0 (pa_cons (pe_op op_fdiv (pv 4) pe_int) pa_nil)) pa_nil))))) pss_nil)
        (pss_cons (ps_set (i := 5) sc_law.nd rfl (.inl rfl) (pe_callTy call_tuple_of (by rfl) m_tuple (by decide +kernel) (pa_cons (pv 2) pa_nil)))
        (pss_one (ps_if (pt_cmpR op_eq (pv 3) pe_int (nomark _)) (pss_one (ps_set (i := 5) sc_law.nd rfl (.inl rfl) (pe_ix ix_list (pe_lst (pa_cons (pv 2) (pa_cons (pe_callTy call_tuple_of (by rfl) m_tuple (by decide +kernel) (pa_cons (pe_lc (own := [("step", 9)]) (g := gName 9) rfl sc_law.nd (pi_list (pv 2)) (blkOk_by (own := [("step", 9)]) (N := ["script", "digit", "steps", "way", "pick", "value", "at", "item", "place", "step", "actual"]) (sc := defScope s_law) (by decide +kernel)) (fun _ _ _ _ _ => (pg_name (i := 9) sc_law.nd rfl (.inl rfl))) (fun _ _ _ _ _ => pts_nil) (fun _ _ _ _ _ => (pe_callTy (T := "list") (r := rListS K) call_list_of (by rfl) m_list (by decide +kernel) (pa_cons (pv 9) pa_nil)))) pa_nil)) (pa_cons (pe_ix ix_list (pv 2) pe_int (fun _ _ => rfl)) (pa_cons (pe_call G_law_odd (hr.mono (by decide)) (by rfl) g_law_odd F_law_odd.kp b_law_odd .nil pass0 (pa_cons (pe_op op_fdiv (pv 4) pe_int) pa_nil)) pa_nil))))) (pe_op op_mod (pe_op op_fdiv (pv 4) pe_int) pe_int) (fun _ _ => rfl)))) pss_nil)))))))))))))) pss_nil)
        (pss_cons (ps_set (i := 10) sc_law.nd rfl (.inl rfl) (pe_call G_is_formula (hr.mono (by decide)) (by rfl) g_is_formula F_is_formula.kp b_is_formula .nil pass0 (pa_cons (pv 5) pa_nil)))
        (pss_one (ps_ret (pe_and (pe_callB call_isi (by rfl) m_isinstance (by decide +kernel) (pa_cons (pv 10) (pa_cons (pe_bltn (by rfl) m_bool (by decide +kernel) (show RelV (.ty "bool") _ from rfl)) pa_nil))) (pe_one (pe_cmpR op_eq (pv 10) (pe_call G_law_is_formula (hr.mono (by decide)) (by rfl) g_law_is_formula F_law_is_formula.kp b_law_is_formula .nil pass0 (pa_cons (pv 5) pa_nil)) (nomark _))))))))))))), ?_⟩
    -- digit
    refine q_asg (ev_cb (ea_cons (ev_call (z := .int (cellOf ns 0)) (ea_cons (ev_var rfl) (ea_cons ev_c ea_nil)) (fun H1 e1 Q1 q1 E1 => ⟨sa, ns, 0, rfl, ex_l e1 hS, q1 H1 (Ex.refl H1)⟩)) ea_nil) rc_abs) fun H1 e1 => ?_
    refine st_is (σ' := [_, _, _, _, _, _, _, _, _, _, _]) rfl ?_
    replace hS := ex_l e1 hS
    obtain ⟨dg, hdg⟩ : ∃ n : Nat, (cellOf ns 0).natAbs = n := ⟨_, rfl⟩
    rw [hdg]
    -- steps
    refine q_asgP (fun v H2 => ∃ l us ss, v = .ref l ∧ H2 l = some (.lst us) ∧ StepsAt H2 us ss ∧ OkForm ss ∧ ss.length ≤ 10) (fun Q1 k1 => ?_) fun v H2 e2 hP => ?_
    · obtain ⟨k, hk, hk2⟩ : ∃ k : Nat, (1 : Int) + (dg : Int) % 10 = (k : Int) ∧ 1 ≤ k ∧ k ≤ 10 := ⟨1 + dg % 10, by omega, by omega, by omega⟩
      exact run_form hS hl rfl ⟨hk2.1, by omega⟩ (ev_is (ev_op ev_c (ev_op (ev_cb (ea_cons (ev_var rfl) ea_nil) rc_intI) ev_c (rv_I (by decide))) rv_I0) (congrArg V.int hk)) fun l H3 us ss e3 h3 s3 ok hz => k1 _ _ e3 ⟨l, us, ss, rfl, h3, s3, ok, by omega⟩
    obtain ⟨l, us, ss, rfl, hlu, hst, hok, hz⟩ := hP
    refine st_is (σ' := [_, _, _, _, _, _, _, _, _, _, _]) rfl ?_
    have hul : us.length ≤ 10 := by
      rw [hst.1]
      exact hz
    -- way, pick
    obtain ⟨wy, hwy⟩ : ∃ w : Int, (dg : Int) / 16 % 10 = w := ⟨_, rfl⟩
    refine q_asg (ev_is (ev_op (ev_op (ev_var rfl) ev_c (rv_I ⟨by decide, by decide⟩)) ev_c (rv_I (by decide))) (congrArg V.int hwy)) fun H3 e3 => ?_
    refine st_is (σ' := [_, _, _, _, _, _, _, _, _, _, _]) rfl ?_
    obtain ⟨pk, hpk, hpk0⟩ : ∃ w : Int, (dg : Int) / 256 = w ∧ 0 ≤ w := ⟨_, rfl, by omega⟩
    refine q_asg (ev_is (ev_op (ev_var rfl) ev_c (rv_I ⟨by decide, by decide⟩)) (congrArg V.int hpk)) fun H4 e4 => ?_
    refine st_is (σ' := [_, _, _, _, _, _, _, _, _, _, _]) rfl ?_
    replace hlu := (e3.trans e4) _ _ hlu
    replace hst := hst.mono (e3.trans e4)
    -- value
    refine q_asgU (eu_tuple (ev_var rfl) (sq_of hlu)) fun b H5 nb e5 hb => ?_
    refine st_is (σ' := [_, _, _, _, _, _, _, _, _, _, _]) rfl ?_
    replace hlu := e5 _ _ hlu
    replace hst := hst.mono e5
    have htu : Tups H5 us := tups_of hst hok
    -- the change
    refine q_cut (M := fun σ' H' => ∃ (x2 x3 x4 x6 x7 x8 : Option V) (v : V) (k : Kd), σ' = [some (.ref sa), some (.int (dg : Int)), x2, x3, x4, some v, x6, x7, x8, none, none] ∧ Kn H' v k) ?_ fun σ' H' hM => ?_
    · by_cases hss : ss = []
      · refine s_when (b := false) (et_is (et_test (ev_isFull hlu hst hok.oks (ev_var rfl))) (by rw [hss]; rfl)) (fun z => nomatch z) fun _ H6 e6 => ?_
        obtain ⟨k, hk⟩ := Kns.tupK (e6 _ _ hb) (by omega) (htu.kns.ex e6)
        exact ⟨_, _, _, _, _, _, _, k, rfl, hk⟩
      · refine s_when (b := true) (et_is (et_test (ev_isFull hlu hst hok.oks (ev_var rfl))) (by
          cases ss with
          | nil => exact absurd rfl hss
          | cons x r => rfl)) (fun _ H6 e6 => ?_) (fun z => nomatch z)
        replace hlu := e6 _ _ hlu
        replace hst := hst.mono e6
        replace htu := htu.st (.ex e6)
        have hn : 0 < us.length := by
          rw [hst.1]
          exact List.length_pos_iff.mpr hss
        -- at
        obtain ⟨j, hj, hj2⟩ : ∃ j : Nat, pk % (us.length : Int) = (j : Int) ∧ j < us.length := by
          have h0 := Int.emod_nonneg pk (show (us.length : Int) ≠ 0 by omega)
          have h1 := Int.emod_lt_of_pos pk (show 0 < (us.length : Int) by omega)
          exact ⟨(pk % (us.length : Int)).toNat, by omega, by omega⟩
        refine q_asg (ev_is (ev_op (ev_cb (ea_cons (ev_var rfl) ea_nil) rc_intI) (ev_cb (ea_cons (ev_var rfl) ea_nil) (rc_lenL (sq_of hlu))) (rv_I (show (0 : Int) < (us.length : Int) by omega))) (congrArg V.int hj)) fun H7 e7 => ?_
        refine st_is (σ' := [_, _, _, _, _, _, _, _, _, _, _]) rfl ?_
        replace hlu := e7 _ _ hlu
        replace hst := hst.mono e7
        replace htu := htu.st (.ex e7)
        -- item
        have hx : us[j]? = some us[j] := List.getElem?_eq_getElem hj2
        obtain ⟨s, hs, p, hp, hps⟩ := hst.get hx
        rw [hp] at hx
        clear hp
        have hoks := hok j s hs
        refine q_asgL (el_listT (ev_op (ev_var rfl) (ev_var rfl) (rv_ixL (sq_of hlu) (atI_nat hx))) (st_of hps)) fun l2 H8 nl2 e8 hl2 => ?_
        refine st_is (σ' := [_, _, _, _, _, _, _, _, _, _, _]) rfl ?_
        have hne : l ≠ l2 := fun z => by
          rw [← z, hlu] at nl2
          cases nl2
        replace hlu := e8 _ _ hlu
        replace htu := htu.st (.ex e8)
        have hkx : Kns H8 (stV s) := (kn_step (H := H8) (a := p) hoks).kns
        obtain ⟨m0, hm0, hm1⟩ : ∃ m0, (stV s).length = m0 ∧ 1 ≤ m0 ∧ m0 ≤ 3 := by
          refine ⟨_, rfl, ?_⟩
          rcases hoks with ⟨p0, q0, rfl, h⟩ | rfl | ⟨x, i, j, hx, rfl, h1, h2⟩ | ⟨x, i, hx, rfl, h1⟩ <;> simp [stV]
        generalize stV s = xs0 at *
        clear hst hok hoks hs hz hss
        -- place
        obtain ⟨pl, hpl, hpl2⟩ : ∃ j : Nat, pk / 16 % (xs0.length : Int) = (j : Int) ∧ j < m0 := by
          have h0 := Int.emod_nonneg (pk / 16) (show (xs0.length : Int) ≠ 0 by omega)
          have h1 := Int.emod_lt_of_pos (pk / 16) (show 0 < (xs0.length : Int) by omega)
          exact ⟨(pk / 16 % (xs0.length : Int)).toNat, by omega, by omega⟩
        refine q_asg (ev_is (ev_op (ev_op (ev_var rfl) ev_c (rv_I ⟨by decide, by decide⟩)) (ev_cb (ea_cons (ev_var rfl) ea_nil) (rc_lenL (sq_of hl2))) (rv_I (show (0 : Int) < (xs0.length : Int) by omega))) (congrArg V.int hpl)) fun H9 e9 => ?_
        refine st_is (σ' := [_, _, _, _, _, _, _, _, _, _, _]) rfl ?_
        have M0 : Mid sa l b l2 (dg : Int) wy pk (j : Int) (pl : Int) us m0 0 [some (.ref sa), some (.int (dg : Int)), some (.ref l), some (.int wy), some (.int pk), some (.ref b), some (.int (j : Int)), some (.ref l2), some (.int (pl : Int)), none, none] H9 :=
          ⟨rfl, e9 _ _ hlu, htu.st (.ex e9), xs0, e9 _ _ hl2, hkx.ex e9, by omega, fun _ => hm0⟩
        clear hlu htu hl2 hkx hps hx hpl hj
        have isW : ∀ {n : Int}, decide (V.int wy = V.int n) = true → wy = n := fun h => V.int.inj (of_decide_eq_true h)
        -- way 0
        refine q_cut (M := Mid sa l b l2 (dg : Int) wy pk (j : Int) (pl : Int) us m0 1) (s_when (et_test (ev_op (ev_var rfl) ev_c (rv_eq rfl))) (fun hb H10 e10 => ?_) (fun hb H10 e10 => mid_skip M0 e10)) fun σ1 H1 M1 => ?_
        · obtain ⟨_, h2, h3, xs, h4, h5, h6, h7⟩ := M0
          have hw := isW hb
          have h8 := h7 (by omega)
          refine s_setK (e10 _ _ h4) (ek_call (ea_cons (ev_op (ev_var rfl) ev_c (rv_I ⟨by decide, by decide⟩)) ea_nil) (fun H11 e11 Q11 q11 E11 => ⟨_, rfl, q11⟩)) (ev_var rfl) (ev_var rfl) (by omega) fun v H11 e11 hv => ?_
          exact mid_put hne rfl ((e10.trans e11) _ _ h2) (h3.st (.ex (e10.trans e11))) ((e10.trans e11) _ _ h4) ((h5.ex (e10.trans e11)).set _ hv) (by rw [List.length_set]; omega) (by omega)
        clear M0
        -- way 1
        obtain ⟨rfl, _⟩ := _root_.id M1
        refine q_cut (M := Mid sa l b l2 (dg : Int) wy pk (j : Int) (pl : Int) us m0 2) (s_when (et_test (ev_op (ev_var rfl) ev_c (rv_eq rfl))) (fun hb H10 e10 => ?_) (fun hb H10 e10 => mid_skip M1 e10)) fun σ2 H2 M2 => ?_
        · obtain ⟨_, h2, h3, xs, h4, h5, h6, h7⟩ := M1
          have hw := isW hb
          have h8 := h7 (by omega)
          refine s_app (e10 _ _ h4) (ev_var rfl) (v := .int (pk / 256 % 3)) (ev_op (ev_op (ev_var rfl) ev_c (rv_I ⟨by decide, by decide⟩)) ev_c (rv_I (by decide))) (by omega) fun H11 e11 => ?_
          exact mid_put hne rfl ((e10.trans e11) _ _ h2) (h3.st (.ex (e10.trans e11))) ((e10.trans e11) _ _ h4) ((h5.ex (e10.trans e11)).app (Kns.cons ⟨_, .int _⟩ Kns.nil)) (by rw [List.length_append, List.length_singleton]; omega) (by omega)
        clear M1
        -- way 2
        obtain ⟨rfl, _⟩ := _root_.id M2
        refine q_cut (M := Mid sa l b l2 (dg : Int) wy pk (j : Int) (pl : Int) us m0 3) (s_when (et_test (ev_op (ev_var rfl) ev_c (rv_eq rfl))) (fun hb H10 e10 => ?_) (fun hb H10 e10 => mid_skip M2 e10)) fun σ3 H3 M3 => ?_
        · obtain ⟨_, h2, h3, xs, h4, h5, h6, h7⟩ := M2
          have hw := isW hb
          have h8 := h7 (by omega)
          refine s_popAt (e10 _ _ h4) (ev_var rfl) (ev_var rfl) (by omega) (by omega) fun H11 e11 => ?_
          exact mid_put hne rfl ((e10.trans e11) _ _ h2) (h3.st (.ex (e10.trans e11))) ((e10.trans e11) _ _ h4) ((h5.ex (e10.trans e11)).eraseIdx _) (by have := List.length_eraseIdx_le xs pl; omega) (by omega)
        clear M2
        -- way 3
        obtain ⟨rfl, _⟩ := _root_.id M3
        refine q_cut (M := Mid sa l b l2 (dg : Int) wy pk (j : Int) (pl : Int) us m0 4) (s_when (et_test (ev_op (ev_var rfl) ev_c (rv_eq rfl))) (fun hb H10 e10 => ?_) (fun hb H10 e10 => mid_skip M3 e10)) fun σ4 H4 M4 => ?_
        · obtain ⟨_, h2, h3, xs, h4, h5, h6, h7⟩ := M3
          have hw := isW hb
          have h8 := h7 (by omega)
          have hi6 : 0 ≤ pk / 256 % 6 ∧ pk / 256 % 6 < (6 : Nat) := by omega
          refine s_setK (j := m0 - 1) (e10 _ _ h4) (ek_menu (n := 6) ?hm (by decide) (ev_op (ev_op (ev_var rfl) ev_c (rv_I ⟨by decide, by decide⟩)) ev_c (rv_I (by decide))) hi6) (ev_var rfl) (ev_is (ev_op (ev_cb (ea_cons (ev_var rfl) ea_nil) (rc_lenL (sq_of (e10 _ _ h4)))) ev_c rv_I0) (congrArg V.int (show ((xs.length : Int) - 1) = ((m0 - 1 : Nat) : Int) by omega))) (by omega) fun v H11 e11 hv => ?_
          case hm => exact eks_cons (ek_int (ev_var rfl)) (eks_cons (ek_int (ev_op (ev_var rfl) ev_c rv_I0)) (eks_cons (ek_int (ev_un (x := .int 1) ev_c ru_neg)) (eks_cons (ek_c fun H' => ⟨_, .int _⟩) (eks_cons (ek_c fun H' => ⟨_, .bl _⟩) (eks_cons (ek_c fun H' => ⟨_, .int _⟩) eks_nil)))))
          exact mid_put hne rfl ((e10.trans e11) _ _ h2) (h3.st (.ex (e10.trans e11))) ((e10.trans e11) _ _ h4) ((h5.ex (e10.trans e11)).set _ hv) (by rw [List.length_set]; omega) (by omega)
        clear M3
        -- way 4
        obtain ⟨rfl, _⟩ := _root_.id M4
        refine q_cut (M := Mid sa l b l2 (dg : Int) wy pk (j : Int) (pl : Int) us m0 5) (s_when (et_test (ev_op (ev_var rfl) ev_c (rv_eq rfl))) (fun hb H10 e10 => ?_) (fun hb H10 e10 => mid_skip M4 e10)) fun σ5 H5 M5 => ?_
        · obtain ⟨_, h2, h3, xs, h4, h5, h6, h7⟩ := M4
          have hw := isW hb
          have h8 := h7 (by omega)
          have hi7 : 0 ≤ pk / 256 % 7 ∧ pk / 256 % 7 < (7 : Nat) := by omega
          have kS : ∀ (x : Str), x ∈ WS → ∀ H' : Hp, ∃ k, Kn H' (.str x) k := fun x hx H' => ⟨_, .str hx⟩
          refine s_setK (j := 0) (e10 _ _ h4) (ek_menu (n := 7) ?hm (by decide) (ev_op (ev_op (ev_var rfl) ev_c (rv_I ⟨by decide, by decide⟩)) ev_c (rv_I (by decide))) hi7) (ev_var rfl) ev_c (by omega) fun v H11 e11 hv => ?_
          case hm => exact eks_cons (ek_c (kS _ (by simp [WS]))) (eks_cons (ek_c (kS _ (by simp [WS]))) (eks_cons (ek_c (kS _ (by simp [WS]))) (eks_cons (ek_c (kS _ (by simp [WS]))) (eks_cons (ek_c (kS _ (by simp [WS]))) (eks_cons (ek_c (kS _ (by simp [WS]))) (eks_cons (ek_c (kS _ (by simp [WS]))) eks_nil))))))
          exact mid_put hne rfl ((e10.trans e11) _ _ h2) (h3.st (.ex (e10.trans e11))) ((e10.trans e11) _ _ h4) ((h5.ex (e10.trans e11)).set _ hv) (by rw [List.length_set]; omega) (by omega)
        clear M4
        -- steps[at] = tuple(item)
        obtain ⟨rfl, hlu, htu, xs, hl2, hkx, hzx, _⟩ := M5
        refine q_setU (j := j) hlu (eu_tuple (ev_var rfl) (sq_of hl2)) (ev_var rfl) (ev_var rfl) hj2 fun p2 H6 e6 hp2 => ?_
        have M5 : Mid2 sa l b (dg : Int) wy pk (j : Int) us.length 5 [some (.ref sa), some (.int (dg : Int)), some (.ref l), some (.int wy), some (.int pk), some (.ref b), some (.int (j : Int)), some (.ref l2), some (.int (pl : Int)), none, none] (upd H6 l (.lst (us.set j (.ref p2)))) := by
          have h1 := e6 _ _ hlu
          have h2 : Tups (upd H6 l (.lst (us.set j (.ref p2)))) (us.set j (.ref p2)) := ((htu.st (.ex e6)).set j hp2 (hkx.ex e6) (by omega)).st (Stab.upd h1)
          exact ⟨_, _, rfl, _, upd_same, h2.kns, by rw [List.length_set]; omega, fun _ => ⟨h2, List.length_set ..⟩⟩
        clear hlu htu hl2 hkx hp2
        generalize upd H6 l (.lst (us.set j (.ref p2))) = H7 at M5 ⊢
        generalize us.length = n0 at *
        -- way 5
        refine q_cut (M := Mid2 sa l b (dg : Int) wy pk (j : Int) n0 6) (s_when (et_test (ev_op (ev_var rfl) ev_c (rv_eq rfl))) (fun hb H10 e10 => ?_) (fun hb H10 e10 => mid2_skip M5 e10)) fun σ6 H8 M6 => ?_
        · obtain ⟨x7, x8, h1, us2, h4, h5, h6, h7⟩ := M5
          have hw := isW hb
          obtain ⟨h8, h9⟩ := h7 (by omega)
          refine s_popAt (e10 _ _ h4) (ev_var rfl) (ev_var rfl) (by omega) (by omega) fun H11 e11 => ?_
          exact mid2_put h1 ((e10.trans e11) _ _ h4) ((h5.ex (e10.trans e11)).eraseIdx _) (by have := List.length_eraseIdx_le us2 j; omega) (by omega)
        clear M5
        -- way 6
        obtain ⟨x7, x8, rfl, _⟩ := _root_.id M6
        refine q_cut (M := Mid2 sa l b (dg : Int) wy pk (j : Int) n0 7) (s_when (et_test (ev_op (ev_var rfl) ev_c (rv_eq rfl))) (fun hb H10 e10 => ?_) (fun hb H10 e10 => mid2_skip M6 e10)) fun σ7 H9 M7 => ?_
        · obtain ⟨x7, x8, h1, us2, h4, h5, h6, h7⟩ := M6
          have hw := isW hb
          obtain ⟨h8, h9⟩ := h7 (by omega)
          refine s_insert (e10 _ _ h4) (ev_var rfl) (ev_var rfl) (ek_call (ea_cons (ev_op (ev_var rfl) ev_c (rv_I ⟨by decide, by decide⟩)) ea_nil) (fun H11 e11 Q11 q11 E11 => ⟨_, rfl, q11⟩)) (by omega) (by omega) fun v H11 e11 hv => ?_
          have hk2 := h5.ex (e10.trans e11)
          exact mid2_put h1 ((e10.trans e11) _ _ h4) (((Kns.take hk2 j).app (Kns.cons hv Kns.nil)).app (Kns.drop hk2 j)) (by rw [List.length_append, List.length_append, List.length_take, List.length_drop, List.length_singleton]; omega) (by omega)
        clear M6
        -- value
        obtain ⟨y7, y8, rfl, us3, h4, h5, h6, h7⟩ := M7
        refine q_asgU (eu_tuple (ev_var rfl) (sq_of h4)) fun b2 H10 nb2 e10 hb2 => ?_
        refine st_is (σ' := [_, _, _, _, _, _, _, _, _, _, _]) rfl ?_
        replace h4 := e10 _ _ h4
        replace h5 := h5.ex e10
        refine s_when (b := decide (V.int wy = V.int 7)) (et_test (ev_op (ev_var rfl) ev_c (rv_eq rfl))) (fun hb H11 e11 => ?_) (fun hb H11 e11 => ?_)
        · have hw := isW hb
          obtain ⟨h8, h9⟩ := h7 (by omega)
          replace h8 := h8.st (.ex (e10.trans e11))
          replace h4 := e11 _ _ h4
          replace h5 := h5.ex e11
          have hi4 : 0 ≤ pk / 16 % 4 ∧ pk / 16 % 4 < (4 : Nat) := by omega
          have hu0 : us3[0]? = some us3[0] := List.getElem?_eq_getElem (by omega)
          have hu1 := h5 _ (List.getElem_mem (show 0 < us3.length by omega))
          generalize us3[0] = v0 at hu0 hu1
          refine s_asgK (ek_menu (n := 4) ?hm (by decide) (ev_op (ev_op (ev_var rfl) ev_c (rv_I ⟨by decide, by decide⟩)) ev_c (rv_I (by decide))) hi4) fun v H12 e12 hv => ?_
          case hm => exact eks_cons (ek_ev (ev_var rfl) ⟨_, .lst h4⟩) (eks_cons (ek_lists h4 h8 (by omega) rfl (fun x => rfl) (fun x => rfl)) (eks_cons (ek_ev (ev_op (ev_var rfl) ev_c (rv_ixL (sq_of h4) (atI_nat (j := 0) hu0))) hu1) (eks_cons (ek_call (ea_cons (ev_op (ev_var rfl) ev_c (rv_I ⟨by decide, by decide⟩)) ea_nil) (fun H11 e11 Q11 q11 E11 => ⟨_, rfl, q11⟩)) eks_nil)))
          obtain ⟨k, hk⟩ := hv
          exact ⟨_, _, _, _, _, _, _, k, rfl, hk⟩
        · obtain ⟨k, hk⟩ := Kns.tupK (e11 _ _ hb2) (by omega) (h5.ex e11)
          exact ⟨_, _, _, _, _, _, _, k, rfl, hk⟩
    -- actual
    obtain ⟨x2, x3, x4, x6, x7, x8, v, k, rfl, hk⟩ := hM
    refine q_asg (ev_call (z := .bl (formK k)) (ea_cons (ev_var rfl) ea_nil) (fun H11 e11 Q11 q11 E11 => ⟨v, k, rfl, hk.ex e11, q11⟩)) fun H12 e12 => ?_
    refine st_is (σ' := [_, _, _, _, _, _, _, _, _, _, _]) rfl ?_
    refine s_ret (v := .bl true) (ev_is (ev_andV (ev_cb (ea_cons (ev_var rfl) (ea_cons ev_c ea_nil)) (show RC (rIsi K) _ _ (.bl true) from fun H13 _ Q13 q13 => ⟨_, .ty "bool", .type "bool", .type "bool", true, rfl, .ty _, .base (.bl _), kit_ty (by decide +kernel), q13 H13 (Ex.refl H13)⟩)) fun _ => (ev_op (ev_var rfl) (ev_call (z := .bl (formK k)) (ea_cons (ev_var rfl) ea_nil) (fun H11 e11 Q11 q11 E11 => ⟨v, k, rfl, hk.ex (e12.trans e11), q11⟩)) (rv_eq rfl))) (congrArg V.bl (by rw [decide_eq_true rfl]; rfl))) fun H14 _ => fin H14
theorem all_mk {l : PySem.W.OpenLaw} {w : World} {K : PySem.W.Frag} {h : Heap} {mg : Str → Option Value} {fa f0 f1 f2 f3 f4 f5 f6 f7 f8 f9 f10 : Addr} (X : K.In h) (G : h.Ns mainGlobals mg) (hfa : mg "law" = some (.ref fa))
    {od0 an0 od1 an1 od2 an2 od3 an3 od4 an4 od5 an5 od6 an6 od7 an7 od8 an8 od9 an9 od10 an10 : Option Addr} {sl0 sl1 sl2 sl3 sl4 sl5 sl6 sl7 sl8 sl9 sl10 : Array (Option Value)} {oc0 kV0 dc0 pm0 cd0 ct0 oc1 kV1 dc1 pm1 cd1 ct1 oc2 kV2 dc2 pm2 cd2 ct2 oc3 kV3 dc3 pm3 cd3 ct3 oc4 kV4 dc4 pm4 cd4 ct4 oc5 kV5 dc5 pm5 cd5 ct5 oc6 kV6 dc6 pm6 cd6 ct6 oc7 kV7 dc7 pm7 cd7 ct7 oc8 kV8 dc8 pm8 cd8 ct8 oc9 kV9 dc9 pm9 cd9 ct9 oc10 kV10 dc10 pm10 cd10 ct10 : Value}
    (a0 : PySem.W.nsIn K mainGlobals "is_integer" = some (some (.ref f0))) (l0 : K.lookup f0 = some ⟨oc0, od0, .func (PySem.W.fnOf "is_integer" "is_integer" (defArgs s_is_integer) (defBody s_is_integer) (defScope s_is_integer) .none kV0 dc0 pm0 an0 cd0 ct0), sl0⟩) (c0 : PySem.W.codeIn K cd0 "is_integer" = true) (k0 : PySem.W.keepIn K (.ref f0) = true)
    (a1 : PySem.W.nsIn K mainGlobals "are_integers" = some (some (.ref f1))) (l1 : K.lookup f1 = some ⟨oc1, od1, .func (PySem.W.fnOf "are_integers" "are_integers" (defArgs s_are_integers) (defBody s_are_integers) (defScope s_are_integers) .none kV1 dc1 pm1 an1 cd1 ct1), sl1⟩) (c1 : PySem.W.codeIn K cd1 "are_integers" = true) (k1 : PySem.W.keepIn K (.ref f1) = true)
    (a2 : PySem.W.nsIn K mainGlobals "is_formula" = some (some (.ref f2))) (l2 : K.lookup f2 = some ⟨oc2, od2, .func (PySem.W.fnOf "is_formula" "is_formula" (defArgs s_is_formula) (defBody s_is_formula) (defScope s_is_formula) .none kV2 dc2 pm2 an2 cd2 ct2), sl2⟩) (c2 : PySem.W.codeIn K cd2 "is_formula" = true) (k2 : PySem.W.keepIn K (.ref f2) = true)
    (a3 : PySem.W.nsIn K mainGlobals "is_step" = some (some (.ref f3))) (l3 : K.lookup f3 = some ⟨oc3, od3, .func (PySem.W.fnOf "is_step" "is_step" (defArgs s_is_step) (defBody s_is_step) (defScope s_is_step) .none kV3 dc3 pm3 an3 cd3 ct3), sl3⟩) (c3 : PySem.W.codeIn K cd3 "is_step" = true) (k3 : PySem.W.keepIn K (.ref f3) = true)
    (a4 : PySem.W.nsIn K mainGlobals "_law_cell" = some (some (.ref f4))) (l4 : K.lookup f4 = some ⟨oc4, od4, .func (PySem.W.fnOf "_law_cell" "_law_cell" (defArgs s_law_cell) (defBody s_law_cell) (defScope s_law_cell) .none kV4 dc4 pm4 an4 cd4 ct4), sl4⟩) (c4 : PySem.W.codeIn K cd4 "_law_cell" = true) (k4 : PySem.W.keepIn K (.ref f4) = true)
    (a5 : PySem.W.nsIn K mainGlobals "_law_numbers" = some (some (.ref f5))) (l5 : K.lookup f5 = some ⟨oc5, od5, .func (PySem.W.fnOf "_law_numbers" "_law_numbers" (defArgs s_law_numbers) (defBody s_law_numbers) (defScope s_law_numbers) .none kV5 dc5 pm5 an5 cd5 ct5), sl5⟩) (c5 : PySem.W.codeIn K cd5 "_law_numbers" = true) (k5 : PySem.W.keepIn K (.ref f5) = true)
    (a6 : PySem.W.nsIn K mainGlobals "_law_is_integer" = some (some (.ref f6))) (l6 : K.lookup f6 = some ⟨oc6, od6, .func (PySem.W.fnOf "_law_is_integer" "_law_is_integer" (defArgs s_law_is_integer) (defBody s_law_is_integer) (defScope s_law_is_integer) .none kV6 dc6 pm6 an6 cd6 ct6), sl6⟩) (c6 : PySem.W.codeIn K cd6 "_law_is_integer" = true) (k6 : PySem.W.keepIn K (.ref f6) = true)
    (a7 : PySem.W.nsIn K mainGlobals "_law_formula" = some (some (.ref f7))) (l7 : K.lookup f7 = some ⟨oc7, od7, .func (PySem.W.fnOf "_law_formula" "_law_formula" (defArgs s_law_formula) (defBody s_law_formula) (defScope s_law_formula) .none kV7 dc7 pm7 an7 cd7 ct7), sl7⟩) (c7 : PySem.W.codeIn K cd7 "_law_formula" = true) (k7 : PySem.W.keepIn K (.ref f7) = true)
    (a8 : PySem.W.nsIn K mainGlobals "_law_odd" = some (some (.ref f8))) (l8 : K.lookup f8 = some ⟨oc8, od8, .func (PySem.W.fnOf "_law_odd" "_law_odd" (defArgs s_law_odd) (defBody s_law_odd) (defScope s_law_odd) .none kV8 dc8 pm8 an8 cd8 ct8), sl8⟩) (c8 : PySem.W.codeIn K cd8 "_law_odd" = true) (k8 : PySem.W.keepIn K (.ref f8) = true)
    (a9 : PySem.W.nsIn K mainGlobals "_law_is_formula" = some (some (.ref f9))) (l9 : K.lookup f9 = some ⟨oc9, od9, .func (PySem.W.fnOf "_law_is_formula" "_law_is_formula" (defArgs s_law_is_formula) (defBody s_law_is_formula) (defScope s_law_is_formula) .none kV9 dc9 pm9 an9 cd9 ct9), sl9⟩) (c9 : PySem.W.codeIn K cd9 "_law_is_formula" = true) (k9 : PySem.W.keepIn K (.ref f9) = true)
    (a10 : PySem.W.nsIn K mainGlobals "law" = some (some (.ref f10))) (l10 : K.lookup f10 = some ⟨oc10, od10, .func (PySem.W.fnOf "law" "law" (defArgs s_law) (defBody s_law) (defScope s_law) .none kV10 dc10 pm10 an10 cd10 ct10), sl10⟩) (c10 : PySem.W.codeIn K cd10 "law" = true) (k10 : PySem.W.keepIn K (.ref f10) = true)
    (z0 : PySem.W.nsIn K mainGlobals "len" = some none)
    (z1 : PySem.W.nsIn K mainGlobals "abs" = some none)
    (z2 : PySem.W.nsIn K mainGlobals "int" = some none)
    (z3 : PySem.W.nsIn K mainGlobals "bool" = some none)
    (z4 : PySem.W.nsIn K mainGlobals "str" = some none)
    (z5 : PySem.W.nsIn K mainGlobals "isinstance" = some none)
    (z6 : PySem.W.nsIn K mainGlobals "tuple" = some none)
    (z7 : PySem.W.nsIn K mainGlobals "list" = some none)
    (z8 : PySem.W.nsIn K mainGlobals "range" = some none)
    (z9 : PySem.W.nsIn K mainGlobals "max" = some none)
    (z10 : PySem.W.nsIn K mainGlobals "enumerate" = some none)
    {dd : Addr} {es : Array DictEntry} {nd : Nat} {t0 t1 t2 t3 t4 t5 t6 t7 t8 t9 t10 t11 t12 t13 : Tok} (zc : PySem.W.nsIn K mainGlobals "COUNTS" = some (some (.ref dd))) (zl : K.lookup dd = some ⟨.type "dict", none, .dict es nd, #[]⟩) (zk : PySem.W.KeysLit w.params es.toList) (zo : (dd == sysModules) = false)
    (y0 : PySem.W.nsIn K dd "number" = some (some (.int 2 t0)))
    (y1 : PySem.W.nsIn K dd "pi" = some (some (.int 0 t1)))
    (y2 : PySem.W.nsIn K dd "add" = some (some (.int 2 t2)))
    (y3 : PySem.W.nsIn K dd "subtract" = some (some (.int 2 t3)))
    (y4 : PySem.W.nsIn K dd "times" = some (some (.int 2 t4)))
    (y5 : PySem.W.nsIn K dd "divide" = some (some (.int 2 t5)))
    (y6 : PySem.W.nsIn K dd "root" = some (some (.int 1 t6)))
    (y7 : PySem.W.nsIn K dd "sine" = some (some (.int 1 t7)))
    (y8 : PySem.W.nsIn K dd "cosine" = some (some (.int 1 t8)))
    (y9 : PySem.W.nsIn K dd "exp" = some (some (.int 1 t9)))
    (y10 : PySem.W.nsIn K dd "log" = some (some (.int 1 t10)))
    (y11 : PySem.W.nsIn K dd "arctan" = some (some (.int 1 t11)))
    (y12 : PySem.W.nsIn K dd "arcsine" = some (some (.int 1 t12)))
    (y13 : PySem.W.nsIn K dd "arccosine" = some (some (.int 1 t13)))
    (v0 : PySem.W.nsIn K dd "" = some none) (v1 : PySem.W.nsIn K dd "power" = some none) (v2 : PySem.W.nsIn K dd "Add" = some none)
    : ∃ fd : FuncData, (∀ (s : Shared) (v : Value), BindsTo s fd ⟨[v], []⟩ [("script", v)]) ∧ ∀ base : Heap, K.In base → base.Ns mainGlobals mg → FnOk l.prog w K mg base CX0 5 fa fd ["script"] (spLaw K) := by
  have e := hfa.symm.trans (PySem.W.mg_of X G a10)
  cases e
  have F_is_integer := fun_mk (st := s_is_integer) l0 c0 k0
  have F_are_integers := fun_mk (st := s_are_integers) l1 c1 k1
  have F_is_formula := fun_mk (st := s_is_formula) l2 c2 k2
  have F_is_step := fun_mk (st := s_is_step) l3 c3 k3
  have F_law_cell := fun_mk (st := s_law_cell) l4 c4 k4
  have F_law_numbers := fun_mk (st := s_law_numbers) l5 c5 k5
  have F_law_is_integer := fun_mk (st := s_law_is_integer) l6 c6 k6
  have F_law_formula := fun_mk (st := s_law_formula) l7 c7 k7
  have F_law_odd := fun_mk (st := s_law_odd) l8 c8 k8
  have F_law_is_formula := fun_mk (st := s_law_is_formula) l9 c9 k9
  have F_law := fun_mk (st := s_law) l10 c10 k10
  have b_is_integer := F_is_integer.binds (ps := ["value"]) fun _ _ _ _ _ _ us hl => match us, hl with | [_], _ => rfl
  have g_is_integer := PySem.W.mg_of X G a0
  have b_are_integers := F_are_integers.binds (ps := ["values"]) fun _ _ _ _ _ _ us hl => match us, hl with | [_], _ => rfl
  have g_are_integers := PySem.W.mg_of X G a1
  have b_is_formula := F_is_formula.binds (ps := ["value"]) fun _ _ _ _ _ _ us hl => match us, hl with | [_], _ => rfl
  have g_is_formula := PySem.W.mg_of X G a2
  have b_is_step := F_is_step.binds (ps := ["step", "place"]) fun _ _ _ _ _ _ us hl => match us, hl with | [_, _], _ => rfl
  have g_is_step := PySem.W.mg_of X G a3
  have b_law_cell := F_law_cell.binds (ps := ["script", "k"]) fun _ _ _ _ _ _ us hl => match us, hl with | [_, _], _ => rfl
  have g_law_cell := PySem.W.mg_of X G a4
  have b_law_numbers := F_law_numbers.binds (ps := ["script", "first", "most"]) fun _ _ _ _ _ _ us hl => match us, hl with | [_, _, _], _ => rfl
  have g_law_numbers := PySem.W.mg_of X G a5
  have b_law_is_integer := F_law_is_integer.binds (ps := ["actual"]) fun _ _ _ _ _ _ us hl => match us, hl with | [_], _ => rfl
  have g_law_is_integer := PySem.W.mg_of X G a6
  have b_law_formula := F_law_formula.binds (ps := ["numbers", "most"]) fun _ _ _ _ _ _ us hl => match us, hl with | [_, _], _ => rfl
  have g_law_formula := PySem.W.mg_of X G a7
  have b_law_odd := F_law_odd.binds (ps := ["figure"]) fun _ _ _ _ _ _ us hl => match us, hl with | [_], _ => rfl
  have g_law_odd := PySem.W.mg_of X G a8
  have b_law_is_formula := F_law_is_formula.binds (ps := ["value"]) fun _ _ _ _ _ _ us hl => match us, hl with | [_], _ => rfl
  have g_law_is_formula := PySem.W.mg_of X G a9
  have m_len := PySem.W.mg_none_of X G z0
  have m_abs := PySem.W.mg_none_of X G z1
  have m_int := PySem.W.mg_none_of X G z2
  have m_bool := PySem.W.mg_none_of X G z3
  have m_str := PySem.W.mg_none_of X G z4
  have m_isinstance := PySem.W.mg_none_of X G z5
  have m_tuple := PySem.W.mg_none_of X G z6
  have m_list := PySem.W.mg_none_of X G z7
  have m_range := PySem.W.mg_none_of X G z8
  have m_max := PySem.W.mg_none_of X G z9
  have m_enumerate := PySem.W.mg_none_of X G z10
  have g_COUNTS := PySem.W.mg_of X G zc
  have C : Counts K w dd := ⟨⟨es, nd, zl, zk, zo⟩, ⟨_, y0⟩, ⟨_, y1⟩, w2_all ⟨⟨_, y2⟩, ⟨_, y3⟩, ⟨_, y4⟩, ⟨_, y5⟩⟩, w1_all ⟨⟨_, y6⟩, ⟨_, y7⟩, ⟨_, y8⟩, ⟨_, y9⟩, ⟨_, y10⟩, ⟨_, y11⟩, ⟨_, y12⟩, ⟨_, y13⟩⟩⟩
  have N : Nots K dd := ⟨v0, v1, v2⟩
  exact ⟨PySem.W.fnOf "law" "law" (defArgs s_law) (defBody s_law) (defScope s_law) .none kV10 dc10 pm10 an10 cd10 ct10, fun s v => .of_eq rfl, fun base _ _ => ok_law F_law F_is_integer F_are_integers F_is_formula F_is_step F_law_cell F_law_numbers F_law_is_integer F_law_formula F_law_odd F_law_is_formula b_is_integer b_are_integers b_is_formula b_is_step b_law_cell b_law_numbers b_law_is_integer b_law_formula b_law_odd b_law_is_formula g_is_integer g_are_integers g_is_formula g_is_step g_law_cell g_law_numbers g_law_is_integer g_law_formula g_law_odd g_law_is_formula g_COUNTS C N m_len m_abs m_int m_bool m_str m_isinstance m_tuple m_list m_range m_max m_enumerate⟩
end
end K06
open PySem PySem.W PyProof.Rows
set_option maxHeartbeats 0 in
theorem PySem.Challenge.cw_portolan_k06_formulas_told_holds : PySem.Challenge.rw_portolan_k06_formulas_told.Holds := by
  w_on; o_law; k_head; (case hw => w_witness2)
  k_fill
  refine L2.walk_of (l := PySem.Challenge.rw_portolan_k06_formulas_told) (n := 63) (k := 5) (x := "script") (CX := fun _ => L2.CX0) (sp := fun w => K06.spLaw _) rfl (by decide) rfl ⟨rfl, by decide, by decide⟩ (fun w h Y => PySem.W.kIn_of Y) ?F (fun _ _ a ns hl _ hS => ⟨a, ns, rfl, hS, hl, fun _ => rfl⟩) (fun _ _ _ _ _ h => h)
  case F =>
    intro w mg fa h KX G hmg
    refine' K06.all_mk KX G hmg ?a0 ?l0 ?c0 ?k0 ?a1 ?l1 ?c1 ?k1 ?a2 ?l2 ?c2 ?k2 ?a3 ?l3 ?c3 ?k3 ?a4 ?l4 ?c4 ?k4 ?a5 ?l5 ?c5 ?k5 ?a6 ?l6 ?c6 ?k6 ?a7 ?l7 ?c7 ?k7 ?a8 ?l8 ?c8 ?k8 ?a9 ?l9 ?c9 ?k9 ?a10 ?l10 ?c10 ?k10 ?z0 ?z1 ?z2 ?z3 ?z4 ?z5 ?z6 ?z7 ?z8 ?z9 ?z10 ?zc ?zl ?zk ?zo ?y0 ?y1 ?y2 ?y3 ?y4 ?y5 ?y6 ?y7 ?y8 ?y9 ?y10 ?y11 ?y12 ?y13 ?v0 ?v1 ?v2
    (case a0 => k_is); (case l0 => k_is); (case c0 => k_is); (case k0 => k_is); (case a1 => k_is); (case l1 => k_is); (case c1 => k_is); (case k1 => k_is); (case a2 => k_is); (case l2 => k_is); (case c2 => k_is); (case k2 => k_is); (case a3 => k_is); (case l3 => k_is); (case c3 => k_is); (case k3 => k_is); (case a4 => k_is); (case l4 => k_is); (case c4 => k_is); (case k4 => k_is); (case a5 => k_is); (case l5 => k_is); (case c5 => k_is); (case k5 => k_is); (case a6 => k_is); (case l6 => k_is); (case c6 => k_is); (case k6 => k_is); (case a7 => k_is); (case l7 => k_is); (case c7 => k_is); (case k7 => k_is); (case a8 => k_is); (case l8 => k_is); (case c8 => k_is); (case k8 => k_is); (case a9 => k_is); (case l9 => k_is); (case c9 => k_is); (case k9 => k_is); (case a10 => k_is); (case l10 => k_is); (case c10 => k_is); (case k10 => k_is); (case z0 => k_is); (case z1 => k_is); (case z2 => k_is); (case z3 => k_is); (case z4 => k_is); (case z5 => k_is); (case z6 => k_is); (case z7 => k_is); (case z8 => k_is); (case z9 => k_is); (case z10 => k_is); (case zc => k_is); (case zl => k_is); (case zk => k_keys); (case zo => decide); (case y0 => k_is); (case y1 => k_is); (case y2 => k_is); (case y3 => k_is); (case y4 => k_is); (case y5 => k_is); (case y6 => k_is); (case y7 => k_is); (case y8 => k_is); (case y9 => k_is); (case y10 => k_is); (case y11 => k_is); (case y12 => k_is); (case y13 => k_is); (case v0 => k_is); (case v1 => k_is); (case v2 => k_is)

